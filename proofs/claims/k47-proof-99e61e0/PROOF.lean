import PyProof.Rows.All
import Wide.All
import OpenK.AllK
import Wide.FinOn
import Lean
import PyProof.EqAt
import PyProof.EqKinds
import PyProof.TupleCall
import PyProof.ExcAttrAll.ValueError
import PySem.Challenge.RW_rerunyard_k47_code_stays
set_option bootstrap.genMatcherCode false
noncomputable section
open PySem.W renaming Frag→RP,SharedT→Ts,findIn→Tt,emptyDict→TM,instObj→TY,boot_heap→Ub,keepIn→Ul,plainGet→UG,typeIn→UR,lookIn→UX,hasDictIn→U5,looks_typeIn→Vv,looks_specialIn→Vw,takerIn→Vy,boot_drawn→VD,boot_toks→VP,mg_of→VR,plainOver→VY,stepOk→V3,isFn→V5,fnOf→V6,handedIn→V8,kas_rev→Wi,topRun→Wk,makesIn→Wl,codeIn→Wx,kitAny→Wy,namesBound→WF,OpenLaw→WU,kas_desc→WV,absHeap→WW,stepT→W1,staticsOk→W2,view→W3,topStub→W5
open PySem renaming wpAny_bind→S4,Value→S5,sizeLine→S6,wpAny_pure→S7,Shared→S8,Program→S9,PyData→Ta,wpAny→Tc,World→Td,starEach→Te,wpAny_holding→Tf,Builtin→Th,mainGlobals→Ti,Around→Tj,lookup_relabel_local→Tk,PassesOwn→Tl,wpAny_field→To,wpAny_mono→Tp,Addr→Tu,wpAny_seqItems→Tv,wpAny_call_entry→Tw,bootBuiltins→Tx,Spec→Tz,compareOp→TD,attributeBase→TF,wpAny_callSpecial?_slot→TH,sysModules→TK,wpAny_newObj_type→TL,wpAny_setField_rec→TN,NameKind→TQ,wpAny_Call_method0_late→TU,boot_len→TV,keywordEach→TW,mem_of_lookup→TZ,wpAny_pyIter_tuple→T0,wpAny_passesOwn→T4,foldedSetIterable→T5,evalArgs_none→T7,assignEach→Uc,wpAny_Call_Name_kw→Ue,codeAny_builtin→Uf,wpAny_ite_false→Ug,behindInMarks→Uh,wpAny_truthy_bool→Ui,wpAny_pyIter_list→Uj,call_meets→Uk,backTo→Um,wpAny_typeOf→Uo,call_meetsIn→Uq,getMethod→Ur,backToKw→Us,tupleKind_room_in1→Ut,Thread→Uu,importedModules→Uv,wpAny_pyNext_list_item→Uw,typeLookup→Ux,sliceBounds→Uy,binaryOp→UB,wpAny_pyNext_list_end→UC,wpAny_notOrdered_dict→UD,codeAny→UF,wpAny_updateSeq_pair→UH,wpAny_standAt→UI,wpAny_newList→UJ,wpAny_rule→UL,Paired→UM,wpAny_execs_nil→UN,wpAny_dictSet_pairs→UO,wpAny_of_eq→UP,Scope→UQ,sub_AttributeError→UU,getattributeRaised→UV,Keyword→UW,swapsWith→U3,IsPair→U4,standAt→U9,sizeLine_eq→Va,wpAny_attempt→Vc,wpAny_onRaise→Vd,cStatics→Ve,wpAny_eqBool_int→Vi,kt_code_dict_new→Vj,cLine→Vk,tupleKind→Vo,pyNext→Vq,letOwnedTupleGo→Vr,DictEntry→Vs,codeAny_mono→Vt,treeTable→Vx,Str→VA,FuncData→VB,callWith→VC,wpAny_tryCatch→VH,callType_codes→VI,wpAny_newTuple→VJ,wpAny_ite_true→VL,getItem→VM,rawInt→VO,KeyKind→VQ,builtinsNs→VT,BindsTo→VU,callerA→VV,OsState→VX,seqIndex_neg→VZ,Within→V4,bindArgs→Wa,GenState→Wb,IsPart→Wc,seqIndex_of→Wd,valueAt→We,notedBy→Wg,wpAny_letGo→Wj,wpAny_Name→Wz,wpAny_call→WA,closureFor→WC,isInstance→WE,call→WT,isTrue→WX,cellsFrom→WY,seqIndex?→WZ,atKey→W0,getAttr→W4,Result→W7,bindL→W9,bindC→Xa,IsZip→Xb
open PySem.F renaming plainAttrs_list→Tb,slot_list_pop→TB,type_list_pop→TC,plainAttrs_dict→TJ,slot_dict_values→T6,slot_dict_items→T8,slot_list_clear→T9,type_list_clear→Ua,slot_dict_get→UE,args_dict_values_1→US,entry_dict_values→UY,args_dict_items_1→UZ,slot_list_reverse→U1,type_list_reverse→U2,args_tuple_add_2→U6,type_dict_values→U7,entry_dict_items→U8,entry_tuple_add→Vf,args_dict_get_3→Vg,type_dict_items→Vh,slot_tuple_add→Vl,entry_dict_get→Vm,slot_dict_pop→Vz
open PyProof.Rows renaming callWith_type1→Tq,envOfC→TR,seqObj→T3,IntsAre→Ud,slot_tuple_getitem→Uz,listUpdate_at→UK,assignInOrder_cons→UT,pairsOf_size→U0,seqEpoch_at→Vb,AllBare→Vp,entry_list_sort→Vu,pairsOf→VE,slot_list_sort→VF,args_list_sort→VG,IsTup→VS,sortedHeap→VW,plain_sorted→V0,entry_sorted→V1,args_sorted1→V2,callWith_builtin1→V7,kind_sorted→Wf,Subscript_→WB,size_push'→WD,lt_int→W6
open PySem.Calls renaming call_function_entry→UA
open PySem.AutoSeq1 renaming list_insert_list_int_val_1→Vn
open PySem.W.Fast renaming te9446332074065402090→VN
open PySem.StrLaws renaming seqIndex_nonneg→V9
open PySem.EqNone renaming eq_none_none→Wm,eq_none_bool→Wn,eq_bool_none→Wp,ne_none_none→Ws,ne_none_bool→Wt,ne_bool_none→Wu,eq_none_int→WG,eq_none_str→WH,eq_int_none→WI,eq_str_none→WK,ne_none_int→WN,ne_none_str→WO,ne_int_none→WP,ne_str_none→WR
open PySem.EqMixed renaming eq_bool_str→Wq,eq_str_bool→Wr,ne_bool_str→Wv,ne_str_bool→Ww,eq_int_str→WJ,eq_str_int→WL,ne_int_str→WQ,ne_str_int→WS
open PySem.W.Looks renaming here→W8,now→Xd
open PySem.Within renaming cons→Xc
open List renaming any_cons→Sr,append_assoc→QQ,append_nil→Rf,cons_append→Rn,cons_ne_nil→Rx,drop_drop→So,drop_left→SA,filterMap_cons→Rs,filter_cons→R3,flatMap_append→Rm,flatMap_cons→Re,flatMap_nil→R1,forIn_cons→Sa,forIn_nil→Sk,getD_eq_getElem?_getD→Rg,getElem?_drop→Rw,getElem?_eq_getElem→QV,getElem?_map→QY,length_append→QN,length_cons→QP,length_drop→RS,length_map→QL,length_nil→Rl,length_range→RX,length_replicate→Rz,length_reverse→RK,length_set→RZ,length_singleton→Q0,length_take→Rv,lookup_cons→Ru,map_append→QT,map_congr_left→RJ,map_cons→QU,map_drop→Sx,map_map→Rb,map_nil→SU,map_set→S0,map_take→Sw,mem_append_left→Q9,mem_append_right→QS,mem_cons→RH,mem_cons_of_mem→QM,mem_cons_self→QO,mem_map_of_mem→Rj,mem_of_getElem?→QW,mem_singleton_self→QX,nil_append→RB,nodup_append→RM,nodup_cons→RA,not_mem_nil→Q7,of_mem_zip→Ss,pairwise_append→RF,pairwise_map→RL,perm_append_comm_assoc→Rc,perm_middle→Se,replicate→Sf,reverse_cons→R8,size_toArray→Q2,sum_cons→R9,take_add_one→RU,take_append_drop→Ry,take_of_length_le→QZ
open PySem.W renaming callWith_K→RO,callWith_K0→R6,cellsFrom_some→Sc,kdl_call→SY,kdl_dict→SX,kia_one→RT,kia_tup→RY,kitOne→Sb,kitx_bool→SO,kitx_dict→Sj,kitx_float→SE,kitx_int→SW,kitx_list→Si,kitx_none→SM,kitx_str→SV,kitx_tuple→SC,methodCall_KW→RG,plainGet_of→Sd
open PySem.W (kIn_of)
open Nat renaming add_assoc→SB,eq_zero_or_pos→Q6,le_add_right→RN,le_of_ble_eq_true→Q3,le_of_eq→Sh,le_succ→R0,lt_irrefl→Ro,lt_of_le_of_lt→Rq,lt_of_lt_of_le→Q4,lt_succ_of_lt→RD,lt_succ_self→RW,lt_trans→Sg,min_le_right→RV,ne_of_gt→Ri,ne_of_lt→Q8,sub_le→SZ,succ_le_succ→Rh,zero_add→SK,zero_le→Ra
open PySem.Heap renaming get?_push_ne→Rt,get?_push_of_some→QK,get?_push_size→QR,lt_size→Q5,size_push→RC,size_update→RR
open Bool renaming and_eq_true→RE,false_eq_true→R5
open Option renaming getD_none→SR,isNone_none→Sy,isSome_map→SJ,map_some→SL,some_ne_none→R7
set_option compiler.reuse false
set_option genInjectivity false
set_option genSizeOf false
set_option compiler.extract_closed false
namespace _M
inductive E|n(k:Nat)|v(i:Nat)|a(x y:E)|m(k:Nat)(x:E)|g(x:E)
inductive C|z|c(k:Nat)(l r:E)(t:C)
noncomputable section
def ad(p:List Int):List Int→List Int:=p.rec (fun q=>q) fun a p f q=>match q with
 |[]=>a::p
 |b::q=>(a+b)::f q
def ml(k:Int)(p:List Int):List Int:=p.map (k*·)
def po(e:E):List Int:=e.rec (fun k=>[(k:Int)]) (fun i=>List.replicate (i+1) 0++[1]) (fun _ _ p q=>ad p q) (fun k _ p=>ml k p) fun _ p=>ml (-1) p
def ev(p:List Int):List Int→Int:=p.rec (fun _=>0) fun a _ f r=>match r with
 |[]=>0
 |x::r=>a*x+f r
theorem ev_nil(p):ev p []=0:=by cases p<;>rfl
theorem ev_ad(p):∀q r,ev (ad p q) r=ev p r+ev q r:=by
 induction p with
 |nil=>intro q r;exact(Int.zero_add _).symm
 |cons a p h=>
  intro q r
  cases r with
  |nil=>simp [ev_nil]
  |cons x r=>
   cases q with
   |nil=>exact(Int.add_zero _).symm
   |cons b q=>
    have e:ev (ad (a::p) (b::q)) (x::r)=(a+b)*x+ev (ad p q) r:=rfl
    have e1:ev (a::p) (x::r)=a*x+ev p r:=rfl
    have e2:ev (b::q) (x::r)=b*x+ev q r:=rfl
    rw [e,e1,e2,h,Int.add_mul];lia
theorem ev_ml(k:Int)(p):∀r,ev (ml k p) r=k*ev p r:=by
 induction p with
 |nil=>intro r;exact(Int.mul_zero k).symm
 |cons a p h=>
  intro r
  cases r with
  |nil=>simp [ev_nil]
  |cons x r=>
   have e:ev (ml k (a::p)) (x::r)=k*a*x+ev (ml k p) r:=rfl
   have e1:ev (a::p) (x::r)=a*x+ev p r:=rfl
   rw [e,e1,h,Int.mul_add,Int.mul_assoc]
theorem ev_v(i):∀c,ev (List.replicate i 0++[1]) c=c.getD i 0:=by
 induction i with
 |zero=>intro c;cases c with
  |nil=>rfl
  |cons x c=>exact(by have e:ev [1] (x::c)=1*x+0:=rfl;rw [show List.replicate 0 (0:Int)++[1]=[1] from rfl,e];simp)
 |succ i h=>intro c;cases c with
  |nil=>simp [ev_nil]
  |cons x c=>
   have e:ev (List.replicate (i+1) 0++[1]) (x::c)=0*x+ev (List.replicate i 0++[1]) c:=rfl
   rw [e,h];simp
def di(c:List Int)(e:E):Int:=e.rec (fun k=>(k:Int)) (fun i=>c.getD i 0) (fun _ _ x y=>x+y) (fun k _ x=>k*x) fun _ x=> -x
theorem di_ev(c)(e):di c e=ev (po e) (1::c):=by
 induction e with
 |n k=>exact(by have e:ev [(k:Int)] (1::c)=k*1+0:=rfl;rw [show po (.n k)=[(k:Int)] from rfl,e,Int.mul_one,Int.add_zero];rfl)
 |v i=>exact(ev_v (i+1) (1::c)).symm
 |a x y h g=>exact(by rw [show po (.a x y)=ad (po x) (po y) from rfl,ev_ad,←h,←g];rfl)
 |m k x h=>exact(by rw [show po (.m k x)=ml k (po x) from rfl,ev_ml,←h];rfl)
 |g x h=>exact(by rw [show po (.g x)=ml (-1) (po x) from rfl,ev_ml,←h,Int.neg_one_mul];rfl)
def st(k:Nat)(l r:E)(p:List Int):List Int:=ad (ml k (ad (po l) (ml (-1) (po r)))) p
def cb(t:C):List Int:=t.rec [] fun k l r _ p=>st k l r p
def D(c:List Int)(G:Prop)(t:C):Prop:=t.rec G fun _ l r _ p=>di c l≤di c r→p
theorem st_le{c:List Int}{k:Nat}{l r:E}{p}(h:di c l≤di c r)(e:ev p (1::c)≤0):ev (st k l r p) (1::c)≤0:=by
 unfold st
 rw [ev_ad,ev_ml,ev_ad,ev_ml,←di_ev,←di_ev,Int.neg_one_mul]
 have:(k:Int)*(di c l+ -di c r)≤0:=Int.mul_nonpos_of_nonneg_of_nonpos (Int.natCast_nonneg k) (by lia)
 lia
theorem kD{c:List Int}{G:Prop}(t:C):(ev (cb t) (1::c)≤0→G)→D c G t:=by
 induction t with
 |z=>intro h;exact h (Int.le_refl 0)
 |c k l r t ih=>intro h z;exact ih fun e=>h (st_le z e)
def nn(p:List Int):Nat→Bool:=p.rec (fun _=>true) fun a _ f n=>match n,a with
 |n+1,.ofNat _=>f n
 |0,.ofNat 0=>f 0
 |_,_=>false
def ok(n:Nat)(p:List Int):Bool:=match p with
 |.ofNat (_+1)::p=>nn p n
 |_=>false
theorem nn_ev(d:List Int)(p):∀(n:Nat)(c:List Nat),n≤c.length→nn p n=true→0≤ev p (c.map (fun n:Nat=>(n:Int))++d):=by
 induction p with
 |nil=>intro n c h z;exact Int.le_refl 0
 |cons a p ih=>
  intro n c h z
  cases n with
  |succ n=>cases a with
   |negSucc a=>cases z
   |ofNat a=>cases c with
    |nil=>cases h
    |cons x c=>
     have:=ih n c (Nat.le_of_succ_le_succ h) z
     have e:ev (.ofNat a::p) ((x::c).map (fun n:Nat=>(n:Int))++d)=(a:Int)*(x:Int)+ev p (c.map (fun n:Nat=>(n:Int))++d):=rfl
     have:0≤(a:Int)*(x:Int):=Int.mul_nonneg (Int.natCast_nonneg a) (Int.natCast_nonneg x)
     lia
  |zero=>cases a with
   |negSucc a=>cases z
   |ofNat a=>cases a with
    |succ a=>cases z
    |zero=>
     generalize c.map (fun n:Nat=>(n:Int))++d=r at *
     have go:∀p,nn p 0=true→∀r,ev p r=0:=by
      intro p
      induction p with
      |nil=>intro _ r;rfl
      |cons a p h=>intro z r;cases a with
       |negSucc a=>cases z
       |ofNat a=>cases a with
        |succ a=>cases z
        |zero=>cases r with
         |nil=>rfl
         |cons x r=>exact(by have e:ev (.ofNat 0::p) (x::r)=0*x+ev p r:=rfl;rw [e,h z];simp)
     have h0:nn p 0=true:=z
     cases r with
     |nil=>rw [ev_nil];exact Int.le_refl 0
     |cons x r=>exact(by have e:ev (.ofNat 0::p) (x::r)=0*x+ev p r:=rfl;rw [e,go p h0];simp)
theorem f(c:List Nat)(d:List Int)(t:C)(k:Nat)(l r:E)(h:ok c.length (st k (.a r (.n 1)) l (cb t))=true):D (c.map (fun n:Nat=>(n:Int))++d) (di (c.map (fun n:Nat=>(n:Int))++d) l≤di (c.map (fun n:Nat=>(n:Int))++d) r) t:=
 kD t fun e=>by
  refine Int.not_lt.mp fun z=>?_
  have z':=st_le (k:=k) (l:=.a r (.n 1)) (r:=l) z e
  revert h z'
  generalize st k (.a r (.n 1)) l (cb t)=p
  intro h z'
  cases p with
  |nil=>cases h
  |cons a p=>cases a with
   |negSucc a=>cases h
   |ofNat a=>cases a with
    |zero=>cases h
    |succ a=>
     have:=nn_ev d p c.length c (Nat.le_refl _) h
     have e:ev (.ofNat (a+1)::p) (1::(c.map (fun n:Nat=>(n:Int))++d))=((a+1:Nat):Int)*1+ev p (c.map (fun n:Nat=>(n:Int))++d):=rfl
     lia
end
theorem i{a b:Nat}(h:a≤b):(a:Int)≤b:=Int.ofNat_le.mpr h
theorem o{a b:Nat}(h:(a:Int)≤b):a≤b:=Int.ofNat_le.mp h
theorem j{a b:Nat}(h:a=b):(a:Int)≤b:=i (Nat.le_of_eq h)
theorem j'{a b:Nat}(h:a=b):(b:Int)≤a:=i (Nat.le_of_eq h.symm)
theorem e{a b:Int}(h:a=b):a≤b:=Int.le_of_eq h
theorem e'{a b:Int}(h:a=b):b≤a:=Int.le_of_eq h.symm
theorem n{a b:Nat}(h:¬a≤b):((b+1:Nat):Int)≤a:=i (Nat.gt_of_not_le h)
theorem n'{a b:Int}(h:¬a≤b):b+1≤a:=Int.not_le.mp h
theorem m{a b:Nat}(h:¬a<b):(b:Int)≤a:=i (Nat.le_of_not_lt h)
theorem m'{a b:Int}(h:¬a<b):b≤a:=Int.not_lt.mp h
theorem q{a b:Nat}(h:(a:Int)≤b)(g:(b:Int)≤a):a=b:=Nat.le_antisymm (o h) (o g)
theorem x{p:Prop}(h:(1:Int)≤0):p:=absurd h (by decide)
open Lean Meta
def mp{α β}(f:α→β):List α→List β
 |[]=>[]
 |a::l=>f a::mp f l
def fi{α}(f:α→Bool):List α→List α
 |[]=>[]
 |a::l=>if f a then a::fi f l else fi f l
def fo{α β}(f:α→β→β)(b:β):List α→β
 |[]=>b
 |a::l=>f a (fo f b l)
def mem(i:Nat):List Nat→Bool:=fo (fun a b=>a==i||b) false
def dd(l:List Nat):List Nat:=fo (fun a b=>if mem a b then b else a::b) [] l
def nth{α}(d:α):Nat→List α→α
 |0,a::_=>a
 |n+1,_::l=>nth d n l
 |_,_=>d
def ix{α}(p:α→Bool)(n:Nat):List α→Nat
 |[]=>n
 |a::l=>if p a then n else ix p (n+1) l
def zp{α β γ}(f:α→β→γ):List α→List β→List γ
 |a::l,b::m=>f a b::zp f l m
 |_,_=>[]
def ra:Nat→List Nat
 |0=>[]
 |n+1=>ra n++[n]
def af:Expr→Expr
 |.app f _=>f
 |e=>e
def aa:Expr→Expr
 |.app _ a=>a
 |e=>e
def pa:Nat→Bool→Expr→List Expr→E×List Expr
 |0,_,_,s=>(.n 0,s)
 |k+1,b,e,s=>
  let x:=aa (af e)
  let y:=aa e
  let f:=fun(n:Name)(k:Nat)=>e.isAppOfArity n k
  let two:=fun(y:E→E)=>
   let p:=pa k b x s
   let q:=pa k b (aa e) p.2
   (E.a p.1 (y q.1),q.2)
  if f ``HAdd.hAdd 6 then two id
  else if f ``HSub.hSub 6&& !b then two .g
  else if f ``Neg.neg 3 then
   let p:=pa k b y s
   (.g p.1,p.2)
  else if f ``Nat.cast 3 then pa k true y s
  else if f ``Nat.succ 1 then
   let p:=pa k b y s
   (.a p.1 (.n 1),p.2)
  else match (if f ``OfNat.ofNat 3 then x else if f ``HMul.hMul 6&&x.isAppOfArity ``OfNat.ofNat 3 then aa (af x) else e) with
  |.lit (.natVal n)=>if f ``HMul.hMul 6 then
    let p:=pa k b y s
    (.m n p.1,p.2)
   else (.n n,s)
  |_=>
   let x:=if b then e else .mdata {} e
   let i:=ix (·==x) 0 s
   (.v i,if i<s.length then s else s++[x])
def cf(k:Nat):E→Int
 |.n c=>if k==0 then c else 0
 |.v i=>if k==i+1 then 1 else 0
 |.a x y=>cf k x+cf k y
 |.m c x=>c*cf k x
 |.g x=> -cf k x
abbrev R:=List Int×List Nat
def mx(k:Int)(x:R):R:=(mp (k*·) x.1,mp (k.toNat*·) x.2)
def ak(k:Nat)(x:R):Int:=nth 0 k x.1
def sg(k:Nat)(b:Int→Bool):List R→List R:=fi fun x=>b (ak k x)
def el(nat:Nat→Bool):Nat→List Nat→List R→R
 |0,_,_=>([],[])
 |f+1,ks,cs=>
  match fi (fun x=>0<ak 0 x&&fo (fun a b=>a==0&&b) true (x.1.drop 1)) cs with
  |x::_=>x
  |[]=>
   let P:=fun k=>sg k (0<·) cs
   let N:=fun k=>sg k (·<0) cs
   let cost:=fun k=>(P k).length*(N k).length
   let k:=fo (fun b a=>if a==0||cost b<cost a then b else a) 0 ks
   let u:=fo (fun x l=>fo (fun y l=>
     let a:=ak k x
     let b:= -ak k y
     let g:=(Int.gcd a b:Int)
     let x:=mx (b/g) x
     let y:=mx (a/g) y
     (zp (·+·) x.1 y.1,zp (·+·) x.2 y.2)::l) l (N k)) [] (P k)
   let cs:=sg k (·==0) cs++(if nat k then mp (fun x=>(x.1.set k 0,x.2)) (P k) else [])++u
   if 300<cs.length||k==0 then ([],[]) else el nat f (fi (·!=k) ks) cs
def tn:=mkConst ``Nat
def ti:=mkConst ``Int
def cm(T:Expr):Option (Expr×Bool×Expr×Expr):=
 let a:=aa (af T)
 let b:=aa T
 let t:=aa (af (af (af T)))
 let f:=fun n=>T.isAppOfArity n 4
 if f ``LE.le then some (t,false,a,b) else if f ``LT.lt then some (t,true,a,b) else if f ``GE.ge then some (t,false,b,a) else if f ``GT.gt then some (t,true,b,a) else none
def s1(t a:Expr)(s:Bool):Expr:=if s then if t==tn then mkApp (mkConst ``Nat.succ) a else mkIntAdd a (mkIntLit 1) else a
abbrev H:=Expr×Expr×Expr×Bool
def rel(p T:Expr):List H:=
 let c:=fun(s u:Name)(t a b x y:Expr)=>if t==tn then [(mkApp3 (mkConst s) a b p,x,y,true)] else if t==ti then [(if u==`p then p else mkApp3 (mkConst u) a b p,x,y,false)] else []
 match cm T with
 |some (t,s,a,b)=>
  let a:=s1 t a s
  c ``i `p t a b a b
 |none=>match T.eq? with
  |some (t,a,b)=>c ``j ``e t a b a b++c ``j' ``e' t a b b a
  |none=>match T.not?.bind cm with
   |some (t,s,a,b)=>
    if s then c ``m ``m' t a b b a else c ``n ``n' t a b (s1 t b true) a
   |none=>[]
def fs:Nat→Expr→Expr→List H
 |k+1,p,T=>match T.and? with
  |some (a,b)=>fs k (mkApp3 (mkConst ``And.left) a b p) a++fs k (mkApp3 (mkConst ``And.right) a b p) b
  |_=>rel p T
 |_,_,_=>[]
def qe(r:Nat→Nat):E→Expr
 |.n k=>mkApp (mkConst ``E.n) (mkRawNatLit k)
 |.v i=>mkApp (mkConst ``E.v) (mkRawNatLit (r i))
 |.a x y=>mkApp2 (mkConst ``E.a) (qe r x) (qe r y)
 |.m k x=>mkApp2 (mkConst ``E.m) (mkRawNatLit k) (qe r x)
 |.g x=>mkApp (mkConst ``E.g) (qe r x)
def vs:E→List Nat
 |.n _=>[]
 |.v i=>[i]
 |.a x y=>vs x++vs y
 |.m _ x=>vs x
 |.g x=>vs x
def li(t:Expr):List Expr→Expr:=fo (mkApp3 (mkConst ``List.cons [0]) t) (mkApp (mkConst ``List.nil [0]) t)
abbrev F:=Expr×E×E
def ve(x:F):List Nat:=vs x.2.1++vs x.2.2
def main(hs:List H)(a b:Expr)(n:Bool):Option Expr:=
 let l:=pa 99 n a []
 let r:=pa 99 n b l.2
 let g:=fo (fun h (x:List F×List Expr)=>
  let l:=pa 99 h.2.2.2 h.2.1 x.2
  let r:=pa 99 h.2.2.2 h.2.2.1 l.2
  ((h.1,l.1,r.1)::x.1,r.2)) ([],r.2) hs
 let S:=g.2
 let ex:=fun i=>nth a i S
 let isN:=fun i=> !(ex i).isMData
 let v0:=vs l.1++vs r.1
 let on:=fun(u:List Nat)(x:F)=>fo (fun i b=>mem i u||b) false (ve x)
 let u:=fo (fun _ u=>fo (fun x u=>if on u x then dd (ve x++u) else u) u g.1) v0 (ra 8)
 let us:=(a,.a r.1 (.n 1),l.1)::(if v0.isEmpty then g.1 else fi (on u) g.1)
 let N:=ra us.length
 let K:=ra (S.length+1)
 let z:=el (fun k=>isN (k-1)) 60 (K.drop 1) (zp (fun x i=>(mp (fun k=>cf k x.2.1-cf k x.2.2) K,mp (fun j=>if i==j then 1 else 0) N)) us N)
 if z.2.isEmpty then none else
 let T:=fi (·.2!=0) (zp (·,·) us z.2).tail
 let ks:=dd (v0++fo (fun x l=>ve x.1++l) [] T)
 let nk:=fi isN ks
 let ik:=fi (!isN ·) ks
 let q:=qe fun i=>ix (·==i) 0 (nk++ik)
 let t:=fo (fun x=>mkApp4 (mkConst ``C.c) (mkRawNatLit x.2) (q x.1.2.1) (q x.1.2.2)) (mkConst ``C.z) T
 some (mkAppRev (mkApp7 (mkConst ``f) (li tn (mp ex nk)) (li ti (mp (fun i=>(ex i).mdataExpr!) ik)) t (mkRawNatLit (nth 0 0 z.2)) (q l.1) (q r.1) (mkApp2 (mkConst ``Eq.refl [1]) (mkConst ``Bool) (mkConst ``Bool.true))) (fo (fun x (l:Array Expr)=>l.push x.1.1) #[] T))
def hy:List (Option LocalDecl)→MetaM (List H)
 |[]=>return []
 |some d::l=>do
  let h←hy l
  let t←instantiateMVars d.type
  return if d.isImplementationDetail then h else fs 9 d.toExpr t++h
 |_::l=>hy l
def goal(e:Expr):MetaM (Option Expr):=do
 let hs←hy (←getLCtx).decls.toList
 return match cm e with
 |some (t,s,a,b)=>
  let a:=s1 t a s
  if t==tn then (main hs a b true).map (mkApp3 (mkConst ``o) a b) else if t==ti then main hs a b false else none
 |none=>match e.eq? with
  |some (t,a,b)=>
   let n:=t==tn
   if n||t==ti then match main hs a b n,main hs b a n with
    |some p,some r=>some (mkApp4 (mkConst (if n then ``q else ``Int.le_antisymm)) a b p r)
    |_,_=>none
   else none
  |none=>if e.isFalse then (main hs (mkRawNatLit 1) (mkRawNatLit 0) true).map (mkApp2 (mkConst ``x) e) else none
end _M
simproc_decl _M.proc (_) := fun e => do
 match ← _M.goal e with
 | some p => return .done {expr:=Lean.mkConst ``True,proof? :=Lean.mkApp2 (Lean.mkConst ``eq_true) e p}
 | none => return .done {expr:=e}
local macro_rules
| `(tactic|ext)=>`(tactic|first|(simp only [↓_M.proc];done)|lia -abstractProof)
namespace _C
open Lean Meta
abbrev S:=Std.HashSet Expr
structure St where
 me:Std.HashMap Expr (Nat×Array Nat):={}
 ky:Std.HashMap (Expr×Array Nat×Array Nat) Nat:={}
 n:Nat:=0
 fa:Array (Option (Option (Expr×Array Nat))):=#[]
 vs:Array (Array Expr):=#[]
 cx:Std.HashMap Expr (List Expr):={}
 ou:Std.HashMap Expr Expr:={}
 de:Array (Name×Expr×Expr×Nat×Nat):=#[]
 ba:Std.HashSet Nat:={}
abbrev M:=StateRefT St MetaM
def ks:Expr→List (Expr×Option Expr)
 | .app f a=>[(f,none),(a,none)]
 | .lam _ t b _=>[(t,none),(b,some t)]
 | .forallE _ t b _=>[(t,none),(b,some t)]
 | .letE _ t v b d=>[(t,none),(v,none),(b,some (if d then t else .bvar 0))]
 | .mdata _ b=>[(b,none)]
 | .proj _ _ b=>[(b,none)]
 | _=>[]
def up (e:Expr) (a:Array Expr):Expr:=match e with
 | .app ..=>.app a[0]! a[1]!
 | .lam _ _ _ i=>.lam `a a[0]! a[1]! i
 | .forallE _ _ _ i=>.forallE `a a[0]! a[1]! i
 | .letE n _ _ _ i=>.letE n a[0]! a[1]! a[2]! i
 | .mdata ..=>a[0]!
 | .proj s i _=>.proj s i a[0]!
 | e=>e
def bv:Expr:=.bvar 0
def cl:Nat→Expr→M (Nat×Array Nat)
 | 0,_=>return default
 | k+1,e=>do
  if let some r:=(←get).me[e]? then return r
  let mut r:=#[]
  let mut m:=#[]
  let mut c:=#[]
  let mut h:=e
  if let .bvar i:=e then r:=#[i]; h:=bv
  else
   h:=match e with
    | .lam ..=>.lam .anonymous bv bv .default
    | .forallE ..=>.forallE .anonymous bv bv .default
    | .letE ..=>.letE .anonymous bv bv bv false
    | e=>up e #[bv,bv]
   for (x,b) in ks e do
    let (i,v)←cl k x
    c:=c.push i
    for j in v do
     let j:=if b.isSome then (if j==0 then 1000000 else j - 1) else j
     match r.idxOf? j with
     | some p=>m:=m.push p
     | none=>m:=m.push r.size; r:=r.push j
   r:=r.filter (· != 1000000)
  let q:=(h,c,m)
  let i←match (←get).ky[q]? with
   | some i=>pure i
   | none=>modifyGet fun s=>(s.n,{s with ky:=s.ky.insert q s.n,n:=s.n+1,fa:=s.fa.push none,vs:=s.vs.push #[]})
  modify fun s=>{s with me:=s.me.insert e (i,r)}
  return (i,r)
def big:=1000000
def pu:Nat→Expr→List Expr→M Unit
 | 0,_,_=>return
 | k+1,e,x=>do
  if (←get).cx.contains e then return
  let (c,_)←cl big e
  match (←get).fa[c]! with
  | some (some _)=>return
  | none=>modify fun s=>{s with cx:=s.cx.insert e x,vs:=s.vs.modify c (·.push e)}
  | some none=>
   modify fun s=>{s with cx:=s.cx.insert e x}
   for (y,b) in ks e do pu k y (match b with | some t=>t::x | none=>x)
def kids (e:Expr) (x:List Expr):M Unit:=do
 for (y,b) in ks e do pu big y (match b with | some t=>t::x | none=>x)
def sc (o:Bool) (l:Nat):Nat→Expr→S→S
 | 0,_,s=>s
 | k+1,e,s=>if s.size≥l||s.contains e||(o&&!e.hasLooseBVars) then s else (ks e).foldl (fun s y=>sc o l k y.1 s) (s.insert e)
def sub (t:Expr) (i:Nat) (f:Array (Nat×Expr)):Expr:=
 t.instantiate ((Array.range t.looseBVarRange).map fun j=>((f.find? (·.1==i+j)).getD (0,bv)).2)
def wv (k:Array (Nat×Expr)→M (Option (Expr×Expr))):List (Nat×Expr)→Array (Nat×Expr)→M (Option (Expr×Expr))
 | [],f=>k f
 | (i,t)::r,f=>withLocalDeclD `x (sub t (i+1) f) fun x=>wv k r (f.push (i,x))
def sy (e:Expr):M (List (Nat×Array Nat)):=do
 let (_,v)←cl big e
 let x:=(←get).cx.getD e []
 v.toList.mapM fun i=>do
  let (c,u)←cl big (x.getD i bv)
  return (c,u.map fun j=>(v.idxOf? (i+1+j)).getD 1000)
def t1 (p:Name) (c:Nat):M Bool:=do
 let a:=(←get).vs[c]!
 let n:=a.size
 if n < 2||(←get).ba.contains c then return false
 let e:=a[0]!
 if (ks e).isEmpty then return false
 let (_,vs)←cl big e
 let k:=vs.size
 if k==0||(n - 1) * (sc true 400 big e {}).size≤n * k+3 * k+450 then return false
 let some x:=(←get).cx[e]? | return false
 let ts:=(vs.qsort (· > ·)).map fun i=>(i,x.getD i bv)
 if ts.any fun (i,t)=>t==bv||(List.range t.looseBVarRange).any fun j=>t.hasLooseBVar j&&!vs.contains (i+1+j) then return false
 let n0:=(←get).n
 let w←sy e
 if ←a.anyM fun e=>return (←sy e)!=w then return false
 let some (v,y)←(try wv (fun f=>do
   let b:=sub e 0 f
   let z:=f.map (·.2)
   return some (←mkLambdaFVars z b,←mkForallFVars z (←inferType b))) ts.toList #[]
  catch _=>pure none) | return false
 if v.hasLooseBVars||y.hasLooseBVars||v.hasFVar||y.hasFVar then return false
 let m:=p.num (←get).de.size
 let l:=(collectLevelParams (collectLevelParams {} v) y).params.toList
 modify fun s=>{s with fa:=s.fa.set! c (some (some (mkConst m (l.map mkLevelParam),ts.map fun (i,_)=>(vs.idxOf? i).getD 0))),de:=s.de.push (m,y,v,k,c)}
 let _←cl big y
 for i in [n0:(←get).n] do modify fun s=>{s with fa:=s.fa.set! i (some none)}
 pu big y []
 let mut b:=v
 let mut x:=[]
 for _ in [0:k] do
  pu big b.bindingDomain! x
  x:=b.bindingDomain!::x
  b:=b.bindingBody!
 let _←cl big b
 unless (←get).cx.contains b do modify fun s=>{s with cx:=s.cx.insert b x}
 kids b x
 return true
def rb:Nat→Bool→Expr→M Expr
 | 0,_,e=>return e
 | k+1,t,e=>do
  unless t do
   if let some r:=(←get).ou[e]? then return r
   let (c,v)←cl big e
   if let some (some (f,p)):=(←get).fa[c]! then
    let r:=mkAppN f (p.map fun j=>.bvar v[j]!)
    modify fun s=>{s with ou:=s.ou.insert e r}
    return r
  let r←if (ks e).isEmpty then pure e else pure (up e (←(ks e).toArray.mapM fun y=>rb k false y.1))
  unless t do modify fun s=>{s with ou:=s.ou.insert e r}
  return r
def rv:Nat→Expr→M Expr
 | k+1,.lam _ t b i=>return .lam `a (←rb big false t) (←rv k b) i
 | _,b=>rb big true b
def pass (p:Name) (v:Expr):M (Expr×Array (Name×Expr×Expr)):=do
 modify fun s=>{s with fa:=Array.replicate s.n none,vs:=Array.replicate s.n #[],cx:={},ou:={},de:=#[]}
 let (c,_)←cl big v
 pu big v []
 for i in [0:c+1] do
  let d:=c - i
  if (←get).fa[d]!.isNone then
   unless←t1 p d do
    modify fun s=>{s with fa:=s.fa.set! d (some none)}
    for e in (←get).vs[d]! do kids e ((←get).cx.getD e [])
 let w←rb big false v
 return (w,←(←get).de.mapM fun (m,y,z,k,_)=>return (m,←rb big false y,←rv k z))
def all (r:Expr×Array (Name×Expr×Expr)):S:=r.2.foldl (fun s x=>sc false big big x.2.2 (sc false big big x.2.1 s)) (sc false big big r.1 {})
def bo (k:Nat) (e:Expr):Nat:=(sc true 4000 big (k.fold (fun _ _ e=>e.bindingBody!) e) {}).size
def small (v:Expr):MetaM Expr:=do
 let v←instantiateMVars v
 if v.hasExprMVar||v.hasLevelMVar then return v
 let d:=(←(←(collectFVars {} v).addDependencies).fvarIds.mapM (·.getDecl)).qsort (·.index < ·.index)
 if d.any (·.isLet) then return v
 let xs:=d.map (·.toExpr)
 let w←Core.transform (←mkLambdaFVars xs v) (pre:=fun e=>do
  if e.isAppOfArity ``id 2 then return .visit e.appArg!
  return .continue)
 let n:=(sc false big big w {}).size
 if n < 800 then return w.beta xs
 let p←mkAuxDeclName `_c
 let r←(do
  let r←pass p w
  let a:=all r
  let mut u:Std.HashMap Name Nat:={}
  for e in a do
   if let .const m _:=e.getAppFn then
    if p.isPrefixOf m then u:=u.insert m (u.getD m 0+1)
  let mut i:=0
  for (m,y,z) in r.2 do
   let k:=(←get).de[i]!.2.2.2.1
   let b:=bo k z
   let f:=(u.getD m 0 - 1) / max 1 k
   if f * b≤b+bo k y+2 * k+90+f * k then modify fun s=>{s with ba:=s.ba.insert s.de[i]!.2.2.2.2}
   i:=i+1
  pass p w:M _).run' {}
 if n≤(all r).size+12 * r.2.size then return w.beta xs
 let mut o:=r.2
 let mut t:=r.2.size+1
 while o.size > 0&&t > 0 do
  t:=t - 1
  let mut q:=#[]
  for (m,y,z) in o do
   let env←getEnv
   if (y.getUsedConstants++z.getUsedConstants).all fun c=>!p.isPrefixOf c||env.contains c then
    let l:=(collectLevelParams (collectLevelParams {} z) y).params.toList
    addDecl (if←isProp y then .thmDecl {name:=m,levelParams:=l,type:=y,value:=z} else .defnDecl {name:=m,levelParams:=l,type:=y,value:=z,hints:=.abbrev,safety:=.safe})
   else q:=q.push (m,y,z)
  o:=q
 return r.1.beta xs
end _C
simproc_decl _C.proc (_):=fun e=>do
 let m←Lean.Meta.Simp.getMethods
 Lean.Meta.withConfig (fun _=>{}) (Lean.Meta.withTransparency .default do
  let some p←m.discharge? e | return .continue
  return .done {expr:=Lean.mkConst ``True,proof?:=Lean.mkApp2 (Lean.mkConst ``eq_true) e (←_C.small p)})
local macro_rules
|`(tactic|walk_at"z")=>`(tactic|first|exact .inl rfl|exact .inr rfl|exact .inr (.inl rfl)|exact .inr (.inr rfl)|assumption)
set_option hygiene false
theorem _bg:100000<=PySem.sizeLine:=by unfold PySem.sizeLine;decide
theorem _art(a:0=0:=by rfl):True:=trivial
theorem _adt(a:0=0:=by decide):True:=trivial
theorem _aet(a:0=0:=by ext):True:=trivial
def _ae:=_aet._auto_1
theorem _awt(a:0=0:=by walk_at"z"):True:=trivial
def _aw:=_awt._auto_1
theorem _ait(a:∀_:Nat,0=0:=by intro _;rfl):True:=trivial
def _ai:=_ait._auto_1
local macro_rules
|`(‹$p›)=>`(autoParam $p _art._auto_1)
|`(($p)⁻¹)=>`(autoParam $p _adt._auto_1)
|`($x⁻¹)=>`($x (P:=l.prog) (w:=w) (mg:=mg) (base:=base))
|`(#print y)=>`(namespace _L open PySem PySem.Spec PyProof.Rows)
|`(#print z)=>`(namespace _K open PySem _L)
|`(#print a)=>`(section variable{P:S9}{w:Td}{K:RP}{mg:VA->Option S5}{base:Heap})
|`(#print b)=>`(section variable{X:Cx})
|`(#print c)=>`(section variable{C:CA}{K:RP}{P:S9}{w:Td}{mg:VA->Option S5}{base:Heap})
|`(#print d)=>`(section variable{prog:S9}{w:Td}{A:Tj}{E:S5->S8->Prop}{s:S8})
|`(#print e)=>`(section variable{prog:S9}{w:Td})
|`(#print f)=>`(section variable{P:S9}{w:Td}{K:RP}{mg:VA->Option S5}{base:Heap}{N:List VA}{qual:VA}{scope:UQ}{f:Tu}{cd:S5}{A:Tj}{outer:List Env}{s:S8}{H:Hp}{E:XK})
|`(#print g)=>`(section variable{X:Cx}{Xg:List (Tu×Obj)}{σ:St}{H:Hp}{s:S8})
|`(#print h)=>`(section variable{X:Cx}{scope:UQ}{cl:List (VA×Tu)}{N:List VA}{cap:List Nat}{k:Nat}{tg:Expr}{g:TG}{pos:Pos}{iter elt:Expr}{ifs:List Expr}{wi:TI}{tc:TT}{te:TE})
|`(#print i)=>`(section variable{X:Cx}{o e f:Expr}{apos cpos:Pos}{td ty tx:TE})
|`(#print j)=>`(section variable{P:S9}{w:Td}{K:RP}{mg:VA->Option S5}{base:Heap}{x:VA}{st:Stmt}{N ps:List VA}{k:Nat}{sp:Sp})
|`(#print k)=>`(section variable{X:Cx}{k n:Nat}{ps:List VA}{sp:Sp}{x:VA}{p pos:Pos}{e:Expr}{es:List Expr}{t:TA})
|`(#print l)=>`(section variable{M:Model}{A:Tj}{E:S5->S8->Prop}{s:S8}{base:Heap}{env:Env}{outer:List Env}{L x:Tu}{oe:Obj}{vs:Array S5}{Q:Unit->S8->Prop})
|`(#print m)=>`(section variable{H0 H H':Hp}{y:Tu}{tg:Tu->Nat}{F F2:Hp->Prop})
|`(#print n)=>`(variable{z TI TO i j:Tu}{f1 f2:List Tu}{T1 T2:Nat->Heap->Prop}{e1 e2:Nat->Option S5})
local macro_rules(kind:=Lean.Parser.Command.declaration)|s=>do
 if s.getPos?.isNone then Lean.Macro.throwUnsupported
 let mut s:=s.rewriteBottomUp (·.setInfo .none)
 let v:=s[1][3]
 if v[1].isOfKind ``Lean.Parser.Term.byTactic then s:=s.setArg 1 (s[1].setArg 3 (v.setArg 1 (←`(by simp (disch:=($(⟨v[1][1]⟩))) only [↓_C.proc]))))
 if s[1].isOfKind ``Lean.Parser.Command.definition&&s[0].getArgs.all (·.getNumArgs==0)&&s[1][1][0].getId.getRoot != `_L then s:=s.setArg 0 (s[0].setArg 4 (Lean.mkNullNode #[Lean.mkNode ``Lean.Parser.Command.noncomputable #[Lean.mkAtom "noncomputable"]]))
 return s
local macro_rules
| `(%[$n,$x:str,$c,[$p,*]|$s])=>`(_Q P w K mg base $n $x $c ["self",$p,*] $s)
| `(%[$n,$c,$m,[$p,*]|$s])=>`(Zz P w K mg base $n $c $m ["self",$p,*] $s)
| `(%[$n,$x,$p|$s])=>`(_h P w K mg base $n $x $p $s)
| `($x \ $y)=>`(List.lookup (α:=PySem.Str) (β:=_L.V) $x $y)
| `(~~~$x)=>`(by simpa using $x)
local macro_rules
| `(tactic|exists $t)=>`(tactic|first | refine $t (fun _ => rfl) fun a f cdv A outer s0 H Q E hr p q => ?_ | refine $t (fun vs H Q E h => by (repeat obtain ⟨_,h⟩:=h);subst_vars;rfl) fun f cdv A outer s H vs Q E hr h => ?_)
set_option hygiene true
local macro_rules
|`(tactic|exists $a,$b,*)=>do`(tactic|refine ⟨$(#[a]++b.getElems.push (←`(?_))),*⟩)
theorem eq{p:Prop}(h:p:=by simp):p:=h
open Lean in
def _L._2:Nat → Syntax → MacroM (TSyntax `rcasesPat)
 | n+1,s=>do
  if s.isIdent then return ←`(rcasesPat|$(⟨s⟩):ident)
  if s.isOfKind `Lean.Parser.Term.hole then return ←`(rcasesPat|_)
  let s:=if s.getKind==choiceKind then s[0] else s
  `(rcasesPat|⟨$(←s[1].getSepArgs.mapM fun z=>do`(Parser.Tactic.rcasesPatLo|$(←_L._2 n z):rcasesPat)),*⟩)
 | _,_=>Macro.throwUnsupported
local macro_rules
| `(tactic|let $p:term:=$e)=>do`(tactic|obtain $(←_L._2 99 p):rcasesPat:=$e)
| `(!$x)=>`(some $x)
theorem Xe{c:Prop}{_:Decidable c}(h: ¬c){α}{t e:α}:ite c t e=e:=if_neg h
theorem Xf{c:Prop}{_:Decidable c}(h:c){α}{t e:α}:ite c t e=t:=if_pos h
theorem Xh{α}{a b:α}(h:a∈[b]):a=b:=List.mem_singleton.mp h
def Xi{α}{a b:α}{l}(h:a∈b::l):a=b\/a∈l:=List.mem_cons.mp h
theorem Xj{α}{l:List α}{i:Nat}{a}(h:l[i]?=!a):∃h:i<l.length,l[i]=a:=List.getElem?_eq_some_iff.mp h
def Xk{α}{a:α}{s t:List α}(h:a∈s++t):a∈s\/a∈t:=List.mem_append.mp h
def Xl{α β}{f:α->β}{b l}(h:b∈List.map f l):∃a,a∈l/\f a=b:=List.mem_map.mp h
theorem Xm(n:Nat):n<=n:=Nat.le_refl n
theorem Xn{n m k:Nat}(h:n<=m)(g:m<=k):n<=k:=Nat.le_trans h g
def Xo{x y:Bool}(h:(x&&y)=true):x=true/\y=true:=Bool.and_eq_true_iff.mp h
theorem Xp:false≠true:=Bool.false_ne_true
def Xq{α β}{f:α->β}{x:Option α}{b}(h:x.map f=!b):∃a,x=!a/\f a=b:=Option.map_eq_some_iff.mp h
def Xr{α}{a b:α}(h:some a=!b):a=b:=Option.some.inj h
local macro_rules
| `(tactic|symm)=>`(tactic|walk_at "r2")
| `(tactic|decide)=>`(tactic|decide +kernel)
local macro_rules
| `({$x:term,*})=>`(⟨$x,*⟩)
theorem Xs{p:Prop}(h:(p)⁻¹):p:=h
theorem Xu{p:Prop}(h:autoParam (p) _ae):p:=h
set_option genInjectivity false
set_option genSizeOf false
set_option Elab.async false
set_option linter.all false
set_option maxRecDepth 100000
#print y
abbrev hH:=Sum Int VA
def jc:hH->S5->Bool
 |.inl k,v=>S5.isInt k v
 |.inr x,v=>S5.isStrOf x v
def uf(w:Td):hH->Int
 |.inl k=>hashInt k
 |.inr x=>hashStr w x
theorem bQ:∀{k:hH} {v:S5},jc k v=true->(∃i t,k=Sum.inl i/\v=S5.int i t)\/(∃x t,k=Sum.inr x/\v=S5.str x t)
 |.inl i,v,h=>by let{t,e}:=S5.isInt_shape h;exact .inl {(i),t,rfl,e}
 |.inr x,v,h=>by let{t,e}:=S5.isStrOf_shape h;exact .inr {(x),t,rfl,e}
def zU(i:Int)(t:Tok):jc (.inl i) (.int i t)=true:=by simp[jc,S5.isInt]
def zV(x:VA)(t:Tok):jc (.inr x) (.str x t)=true:=by simp[jc,S5.isStrOf]
theorem HH(a b:Int):decide ((Sum.inl a:hH)=Sum.inl b)=(a==b):=by grind
theorem HI(a b:VA):decide ((Sum.inr a:hH)=Sum.inr b)=decide (a=b):=by grind
theorem HJ(a:Int)(b:VA):decide ((Sum.inl a:hH)=Sum.inr b)=false:=decide_eq_false (λq=>nomatch q)
theorem HK(a:VA)(b:Int):decide ((Sum.inr a:hH)=Sum.inl b)=false:=decide_eq_false (λq=>nomatch q)
def aF(prog:S9)(w:Td):VQ prog w hH where
 is:=jc
 hash:=uf w
 inj:=λv a b f d=>by
  rcases bQ f with ⟨i,t,rfl,rfl⟩|⟨x,t,rfl,rfl⟩
  .rcases bQ d with ⟨j,u,rfl,e⟩|⟨y,u,rfl,e⟩
   .injection e with e1 _;rw[e1]
   .exact nomatch e
  .rcases bQ d with ⟨j,u,rfl,e⟩|⟨y,u,rfl,e⟩
   .exact nomatch e
   .injection e with e1 _;rw[e1]
 byValue := fun k v h => by rcases bQ h with ⟨i,t,rfl,rfl⟩|⟨x,t,rfl,rfl⟩<;>rfl
 pyHash:=λc h=>by
  rcases bQ c with ⟨i,t,rfl,rfl⟩|⟨x,t,rfl,rfl⟩
  .exact wpAny_pyHash_int h
  .exact wpAny_pyHash_str h
 eqBool:=λn c h=>by
  rcases bQ n with ⟨i,t,rfl,rfl⟩|⟨x,t,rfl,rfl⟩
  .rcases bQ c with ⟨j,u,rfl,rfl⟩|⟨y,u,rfl,rfl⟩
   .rw [HH]at h;exact Vi h
   .rw [HJ]at h;exact SeqAt.EqAt.int_str i t y u _ _ _ _ h
  .rcases bQ c with ⟨j,u,rfl,rfl⟩|⟨y,u,rfl,rfl⟩
   .rw [HK]at h;exact SeqAt.EqAt.str_int x t j u _ _ _ _ h
   .rw [HI]at h;exact wpAny_eqBool_str h
 «strs»:=λk x t v h=>by
  rcases bQ h with ⟨i,u,rfl,e⟩|⟨y,u,rfl,e⟩
  .exact nomatch e
  .injection e with e1 _;subst e1;cases v<;>rfl
def wc(prog:S9)(w:Td)(i:Int)(t:Tok):(aF prog w).is (.inl i) (.int i t)=true:=zU i t
def we(prog:S9)(w:Td)(x:VA)(t:Tok):(aF prog w).is (.inr x) (.str x t)=true:=zV x t
set_option genInjectivity true in
inductive V where
 |non | bl (b:Bool) | int (i:Int) | str (x:VA) | byt (b:Array UInt8) | flt (b:UInt64) | ref (a:Tu) | ty (n:String)
 deriving DecidableEq
def hB:V->S5->Prop
 |.non,u=>u=S5.none
 |.bl b,u=>u=S5.bool b
 |.int i,u=>∃t,u=S5.int i t
 |.str x,u=>∃t,u=S5.str x t
 |.byt b,u=>∃t,u=S5.bytes b t
 |.flt b,u=>∃t,u=S5.float b t
 |.ref a,u=>u=S5.ref a
 |.ty n,u=>u=S5.type n
abbrev eC:List V->List S5->Prop:=UM hB
theorem eC.length(r:eC xs us):xs.length=us.length:=UM.length r
theorem eC.get:∀{xs:List V} {us:List S5} {i:Nat} {x:V},eC xs us->xs[i]? =!x->∃u,us[i]? =!u/\hB x u
 |_,_,_,_,.nil,e=>by simp at e
 |_,_,0,_,.cons r _,e=>by simp at e;subst e;exact{_,rfl,r}
 |_,_,i+1,x,.cons _ t,e=>by let{u,a,b}:=eC.get (i:=i) t (~~~e);exact{u,by simpa using a,b}
theorem eC.set(r:hB x u):∀{xs:List V} {us:List S5} (i:Nat),eC xs us->eC (xs.set i x) (us.set i u)
 |_,_,_,.nil=>.nil
 |_,_,0,.cons _ t=>.cons r t
 |_,_,i+1,.cons q t=>.cons q (eC.set r i t)
theorem eC.append:∀{xs a:List V} {us ws:List S5},eC xs us->eC a ws->eC (xs++a) (us++ws):=by
 intro _ _ _ _ h s;induction h with
 |nil=>exact s
 |cons r t b=>exact .cons r b
theorem eC.take:∀{xs:List V} {us:List S5} (n:Nat),eC xs us->eC (xs.take n) (us.take n)
 |_,_,0,_=>.nil
 |_,_,_+1,.nil=>.nil
 |_,_,n+1,.cons r t=>.cons r (eC.take n t)
theorem eC.drop:∀{xs:List V} {us:List S5} (n:Nat),eC xs us->eC (xs.drop n) (us.drop n)
 |_,_,0,r=>r
 |_,_,_+1,.nil=>.nil
 |_,_,n+1,.cons _ t=>eC.drop n t
def si:Option V->Option S5->Prop
 |some v,!u=>hB v u
 |none,none=>True
 |_,_=>False
def KV{κ:Type}:List (κ×V)->List (κ×S5)->Prop:=UM λ(p:κ×V) (q:κ×S5)=>p.1=q.1/\hB p.2 q.2
def kV:hH->V
 |.inl i=>.int i
 |.inr x=>.str x
set_option genInjectivity true in
inductive HO where
 |lst (xs:List V)
 |tup (xs:List V)
 |dK (kvs:List (hH×V)) | dT (kvs:List (List hH×V))
 |set (S:Int->Bool) (n:Nat)
 |ins (C dx:Tu) (fs:List (VA×V))
 |own (x:Tu)
 |xd (fs:List (VA×V))
 |met (f x:Tu)
 |rng (lo hi:Int)
 |frz (o:Obj) (u:HO)
 |tbl (ps:Array S5)
 |ext (φ:Heap->Prop)
abbrev Hp:=Tu->Option HO
def jl(H:Hp)(a:Tu)(o:HO):Hp:=λb=>if b=a then some o else H b
theorem aA:jl H a o a=!o:=by unfold jl;rw[Xf rfl]
theorem aN(h:b≠a):jl H a o b=H b:=by unfold jl;rw[Xe h]
theorem Lf{H:Hp}(h:H a=!o)(h':H b=!u)(d:o≠u):a≠b:=by intro e;subst e;rw[h]at h';exact d (Xr h')
theorem ax{H:Hp}(h:H a=!o)(h':H b=none):a≠b:=by grind
section
variable(P:S9)(w:Td)
def KX(h:Heap)(a:Tu)(items:Array S5):Prop:=∃o,h.get? a=!o/\o.cls=.type "tuple"/\∃n,o.data=.seq items n/\o.dict=none
theorem KX.t(x:KX h a items):VS h a items:=let ⟨o,b,c,n,d,_⟩:=x;{(o),b,c,n,d}
def KX.new(h:Heap)(items:Array S5):KX (h.push {cls:=.type "tuple",data:=.seq items}) h.objs.size items:={_,QR _ rfl,rfl,_,rfl,rfl}
def ni(H:Hp)(h:Heap)(a:Tu):HO->Prop
 |.lst d=>d.length<=S6/\∃(b:List S5) (n:Nat),eC d b/\h.get? a=some {cls:=.type "list",data:=.seq b.toArray n}
 |.tup d=>d.length<=S6/\∃b:List S5,eC d b/\KX h a b.toArray
 |.dK c=>c.length<=S6/\(a==TK)=false/\∃j,KV c j/\h.DictOf (aF P w) a j
 |.dT c=>c.length<=S6/\(a==TK)=false/\∃d:List (List hH×Tu×S5),
  UM (λ(p:List hH×V) (q:List hH×Tu×S5)=>p.1=q.1/\H q.2.1=!(.tup (p.1.map kV))/\hB p.2 q.2.2) c d/\
  ∃o es z,h.get? a=!o/\o.ExactDict/\o.data=.dict es z/\es.toList=d.map (entryOfKey (Vo (aF P w)))/\(d.map (·.1)).Nodup
 |.set S n=>h.SetOf (intKind P w) a S n
 |.ins C i fs=>H i=!(.own a)/\fs.length<=1000/\i≠a/\h.get? a=!(TY C i)/\
  ∃e,h.Ns1 i e/\(∀f,si (fs.lookup f) (e f))/\V4 e (fs.map (·.1))
 |.own _=>∃o,h.get? a=!o
 |.xd fs=>∃e,h.Ns1 a e/\∀f,si (fs.lookup f) (e f)
 |.rng A B=>∃t u v,h.get? a=some {cls:=.type "range",data:=.fields #[.int A t,.int B u,.int 1 v]}
 |.frz o u=>h.get? a=!o/\ni H h a u
 |.tbl E=>h.get? a=some {cls:=.none,data:=.fields E}
 |.met f x=>h.get? a=!(PySem.W.methodObj (.ref f) (.ref x))
 |.ext φ=>φ h/\(∃o,h.get? a=!o)/\∀r y:Heap,φ r->(∀o,r.get? a=!o->y.get? a=!o)->φ y
def LX(H:Hp)(h:Heap):Prop:=∀a o,H a=!o->ni P w H h a o
end
section
variable{P:S9}{w:Td}{H H':Hp}{h h':Heap}{a:Tu}{o:HO}
theorem ni.lt(x:ni P w H h a o):a<h.objs.size:=by
 cases o with
 |lst c=>let{_,_,_,_,e}:=x;exact Q5 e
 |tup c=>let{_,_,_,p}:=x;exact p.t.lt
 |dK b=>let{_,_,_,_,o,_,_,e,_}:=x;exact Q5 e
 |dT b=>let{_,_,_,_,o,_,_,e,_}:=x;exact Q5 e
 |set S n=>let{o,_,_,_,e,_}:=x;exact Q5 e
 |ins C d fs=>let{_,_,_,e,_}:=x;exact Q5 e
 |own y=>let{_,e}:=x;exact Q5 e
 |xd fs=>let{_,{_,_,_,e,_},_}:=x;exact Q5 e
 |rng i j=>let{_,_,_,e}:=x;exact Q5 e
 |frz q u=>let{e,_}:=x;exact Q5 e
 |tbl r=>exact Q5 (x)
 |met f y=>exact Q5 (x)
 |ext φ=>let{_,{_,e},_}:=x;exact Q5 e
def UM.b6{α β:Type}{F G:α->β->Prop}:∀{l₁:List α} {l₂:List β},UM F l₁ l₂->(∀a b,F a b->G a b)->UM G l₁ l₂:=by
 intro _ _ h f;induction h with
 |nil=>exact .nil
 |cons r _ c=>exact .cons (f _ _ r) c
def ni.a4(x:ni P w H h a o)(k:∀b u,(b=a\/H b=!(.own a))->h.get? b=!u->h'.get? b=!u) (G:∀b,H b=!(.own a)->H' b=!(.own a)) (I:∀b xs,H b=!(.tup xs)->H' b=!(.tup xs)):ni P w H' h' a o:=by
 induction o with
 |lst xs=>let{z,A,n,r,e}:=x;exact{z,A,n,r,k _ _ (.inl rfl) e}
 |tup xs=>let{z,A,r,i,e,c}:=x;exact{z,A,r,i,k _ _ (.inl rfl) e,c}
 |dK B=>let{z,y,J,r,i,es,j,e,c}:=x;exact{z,y,J,r,i,es,j,k _ _ (.inl rfl) e,c}
 |dT B=>let{z,y,xs,r,i,es,j,e,c}:=x;exact{z,y,xs,UM.b6 r λp q z=>{z.1,I _ _ z.2.1,z.2.2},i,es,j,k _ _ (.inl rfl) e,c}
 |set S n=>let{i,es,j,t,e,c}:=x;exact{i,es,j,t,k _ _ (.inl rfl) e,c}
 |ins C N fs=>let{d,z,ne,e,E,{F,es,j,e2,c},r}:=x;exact{G _ d,z,ne,k _ _ (.inl rfl) e,E,{F,es,j,k _ _ (.inr d) e2,c},r}
 |own y=>let{i,e}:=x;exact{i,k _ _ (.inl rfl) e}
 |xd fs=>let{E,{F,es,j,e,c},r}:=x;exact{E,{F,es,j,k _ _ (.inl rfl) e,c},r}
 |rng O Q=>let{t,u,v,e}:=x;exact{t,u,v,k _ _ (.inl rfl) e}
 |frz i u K=>let{e,q}:=x;exact{k _ _ (.inl rfl) e,K q}
 |tbl M=>have e:h.get? a=some {cls:=.none,data:=.fields M}:=x;exact k a _ (.inl rfl) e
 |met f y=>have e:=x;exact k a _ (.inl rfl) e
 |ext φ=>let{p,{o,e},st}:=x;exact{st _ _ p λo q=>k _ _ (.inl rfl) q,{o,k _ _ (.inl rfl) e},st}
theorem LX.lt(x:LX P w H h)(e:H a=!o):a<h.objs.size:=(x a o e).lt
def LX.fresh(x:LX P w H h)(e:h.objs.size<=a):H a=none:=by
 cases q:H a with
 |none=>rfl
 |some u=>exact absurd (Q4 (x.lt q) e) (Ro _)
theorem LX.kept(x:LX P w H h)(k:∀b u,h.get? b=!u->h'.get? b=!u):LX P w H h':=λa o e=>
 (x a o e).a4 (λb u _ q=>k b u q) (λ_ q=>q) λ_ _ q=>q
theorem LX.laid(x:LX P w H h)(k:∀b u,h.get? b=!u->h'.get? b=!u)(f:h.objs.size<=a)(new:ni P w (jl H a o) h' a o):LX P w (jl H a o) h':=λb u e=>by
 have hn:=x.fresh f;by_cases d:b=a;.subst d;rw[aA]at e;cases e;exact new
 .rw [aN d]at e;exact(x b u e).a4 (λc v _ q=>k c v q) (λc q=>by rw[aN (ax q hn)];exact q) λc i q=>by rw[aN (ax q hn)];exact q
end
def Rd(H:Hp)(a:Tu)(u:HO):Prop:=H a=!u\/∃o,H a=!(.frz o u)
theorem Rd.of(h:H a=!u):Rd H a u:=.inl h
theorem Rd.ok(r:Rd H a u)(x:LX P w H h):ni P w H h a u:=by
 rcases r with r|⟨o,r⟩;.exact x a u r
 .let{_,q}:=x a _ r;exact q
def _Z:Option HO->Prop
 |some (.lst _)=>True
 |some (.dK _)=>True
 |some (.dT _)=>True
 |some (.set _ _)=>True
 |some (.ins _ _ _)=>True
 |some (.ext _)=>True
 |_=>False
section
variable{P:S9}{w:Td}{H:Hp}{h h':Heap}{x e:Tu}{o':HO}
def LX.write(ok:LX P w H h)(mu:_Z (H x))(n:e=x\/H e=!(.own x))(k:∀b u,b≠e->h.get? b=!u->h'.get? b=!u)(j:∃u,h'.get? e=!u) (new:ni P w (jl H x o') h' x o'):LX P w (jl H x o') h':=λb u q=>by
 have a:∀c y,H c=!(.own y)->c≠x:=λc y r z=>by subst z;rw[r]at mu;exact mu
 have f:∀c i,H c=!(.tup i)->c≠x:=λc i r z=>by subst z;rw[r]at mu;exact mu
 by_cases o:b=x;.subst o;rw[aA]at q;cases q;exact new
 .rw [aN o]at q;by_cases d:b=e
  .have p:H b=!(.own x):=by
    rcases n with z|z
    .simp_all
    .rw [d];exact z
   rw[q]at p;cases p
   let{v,A}:=j
   exact{v,by rw[d];exact A}
  .refine(ok b u q).a4 (λc v hc r=>k c v ?_ r) (λc r=>by rw[aN (a c b r)];exact r) λc i r=>by rw[aN (f c i r)];exact r
   rcases hc with rfl|hc;.exact d
   .rintro rfl;rcases n with z|z;.exact a c b hc z
    .grind
end
structure Un(fs ex:List Tu)(H H':Hp)(h h':Heap):Prop where
 keep:∀b o,h.get? b=!o->H b=none->b∉fs->b∉ex->h'.get? b=!o
 slot:∀b o,h.get? b=!o->H b=none->b∈fs->b∉ex->∃sl,h'.get? b=some {o with slots:=sl}
 free:∀b o,h.get? b=!o->H b=none->b∉ex->H' b=none
 there:∀b o,h.get? b=!o->b∉ex->∃o',h'.get? b=!o'
 tups:∀b xs,H b=!(.tup xs)->H' b=!(.tup xs)
 frzs:∀b o u,H b=!(.frz o u)->H' b=!(.frz o u)
 tbls:∀b ps,H b=!(.tbl ps)->∃more,H' b=!(.tbl (ps++more))
section
variable{fs fs' ex ex':List Tu}{H H1 H2:Hp}{h h1 h2 h':Heap}{a x e:Tu}{o:HO}
theorem Un.any(u:Un fs ex H H1 h h1)(q:h.get? b=!ob)(n:H b=none)(c:b∉ex):∃f,h1.get? b=some {ob with slots:=f}:=by
 by_cases d:b∈fs;.exact u.slot b ob q n d c
 .exact{ob.slots,u.keep b ob q n d c}
theorem Un.kept(k:∀b u,h.get? b=!u->h'.get? b=!u):Un fs ex H H h h':=
 {λb c q _ _ _=>k b c q,λb c q _ _ _=>{c.slots,k b c q},λ_ _ _ n _=>n,λb c q _=>{c,k b c q},λ_ _ q=>q,λ_ _ _ q=>q,λ_ d q=>{#[],by rw[q];simp}}
def Un.refl:Un fs ex H H h h:=Un.kept λ_ _ q=>q
theorem Un.laid(k:∀b u,h.get? b=!u->h'.get? b=!u)(c:h.objs.size<=a)(hn:H a=none):Un fs ex H (jl H a o) h h' where
 keep:=λb u q _ _ _=>k b u q
 slot:=λb u q _ _ _=>{u.slots,k b u q}
 free:=λb u q n _=>by rw[aN (Q8 (Q4 (Q5 q) c))];exact n
 there:=λb u q _=>{u,k b u q}
 tups:=λb d q=>by rw[aN (ax q hn)];exact q
 frzs:=λb u d q=>by rw[aN (ax q hn)];exact q
 tbls:=λb f q=>{#[],by rw[aN (ax q hn),q];simp}
def Un.write(mu:_Z (H x))(j:e=x\/H e=!(.own x))(k:∀b u,b≠e->h.get? b=!u->h'.get? b=!u)(p:∃u,h'.get? e=!u):Un fs ex H (jl H x o) h h':=by
 have f:∀b,H b=none->b≠x:=λb n z=>by subst z;rw[n]at mu;exact mu
 have i:∀b,H b=none->b≠e:=λb n z=>by
  subst z;rcases j with r|r
  .exact f b n r
  .grind
 have c:∀b u,H b=!u->¬_Z (!u)->b≠x:=λb u q v z=>by subst z;rw[q]at mu;exact v mu
 refine{λb u q n _ _=>k b u (i b n) q,λb u q n _ _=>{u.slots,k b u (i b n) q},λb u q n _=>by rw[aN (f b n)];exact n,λb u q _=>?_,
  λb y q=>by rw[aN (c b _ q λz=>z)];exact q,λb u y q=>by rw[aN (c b _ q λz=>z)];exact q,λb A q=>{#[],by rw[aN (c b _ q λz=>z),q];simp}}
 by_cases d:b=e;.simp_all
 .exact{u,k b u d q}
end
def trk(h:Heap)(H:Hp):List Tu:=(List.range h.objs.size).filter λa=>(H a).isSome
def kX(h:Heap)(H:Hp):Heap:=PySem.W.hideAll h (trk h H)
def zW(h:Heap)(H:Hp):(kX h H).objs.size=h.objs.size:=PySem.W.hideAll_size _ _
theorem BS(e:h.get? b=!o)(n:H b=none):(kX h H).get? b=!o:=
 PySem.W.hideAll_get _ e λa=>by have q:=(List.mem_filter.mp a).2;rw[n]at q;simp at q
def E4(e:(kX h H).get? b=!o):h.get? b=!o/\H b=none:=by
 have a:=PySem.W.of_hideAll (trk h H) e;refine{a,?_};cases q:H b with
 |none=>rfl
 |some x=>have c:b∈trk h H:=List.mem_filter.mpr {List.mem_range.mpr (Q5 a),by simp[q]};have z:(kX h H).get? b=none:=PySem.W.hideAll_none (trk h H) c;rw[z]at e;cases e
def E5(g h:Heap)(L:Tu):List (Tu×Obj):=(List.range h.objs.size).filterMap λa=>if a=L\/(g.get? a).isSome=true then none else(h.get? a).map λo=>(a,o)
def rest(g h:Heap)(L d:Tu):List (Tu×Obj):=(E5 g h L).filter λp=>decide (p.1≠d)
structure Mod(K:RP)(mg:VA->Option S5)(base:Heap):Prop where
 kin:K.In base
 glob:base.Ns Ti mg
 blt:∃mb,base.Ns VT mb/\∀x:VA,x≠"__name__"->mb x=Tx x
 nolimit:base.NoLimit
set_option genInjectivity true in
structure Cx where
 prog:S9
 w:Td
 K:RP
 mg:VA->Option S5
 base:Heap
 A:Tj
 N:List VA
 s₀:S8
 H₀:Hp
 env:Env
 outer:List Env
 stack:List Env
 ex:List Tu
 fn:VA->Bool
 calm:Bool
 pn:List (Tu×Obj)
 xe:S5->S8->Prop
def YZ(l:List Env):List Tu:=l.filterMap (·.frame)
abbrev Cx.fs(X:Cx):List Tu:=YZ X.outer
def Vis(a:UQ)(x:VA):Prop:=a.names.lookup x=!.local\/a.names.lookup x=!.cell\/a.names.lookup x=!.free
def ZW(a:UQ)(x:VA):Prop:=a.names.lookup x=!.local\/a.names.lookup x=!.cell
def MF(env:Env)(h:Heap)(m:VA->Option S5)(x:VA)(u:S5):Prop:=
 (env.kindOf x=!.local/\m x=!u)\/((env.kindOf x=!.cell\/env.kindOf x=!.free)/\∃c,env.cells.lookup x=!c/\h.IsCell c (!u))
structure Cx.Ok(X:Cx):Prop where
 mod:Mod X.K X.mg X.base
 kind:X.env.scope.kind=.function
 glob:X.env.globals=Ti
 blt:X.env.builtins=VT
 above:X.s₀.heap.objs.size<=X.env.locals
 inj:∀x y c,X.env.cells.lookup x=!c->X.env.cells.lookup y=!c->x=y
 has:∀x,(X.env.kindOf x=!.cell\/X.env.kindOf x=!.free)->∃c,X.env.cells.lookup x=!c
 cab:∀x c,X.fn x=true->X.env.cells.lookup x=!c->X.s₀.heap.objs.size<=c
 hd:X.calm=true->X.A.handled=none
 frames:X.A.frames=!X.stack
 stk:X.stack=X.outer\/(X.stack=X.env::X.outer/\X.env.frame=!X.env.locals)
 exf:∀b∈X.ex,b≠X.env.locals/\∀x c,X.env.cells.lookup x=!c->c≠b
 bs:∀b o,X.base.get? b=!o->X.s₀.heap.get? b=!o/\X.H₀ b=none
 bsz:X.base.objs.size<=X.s₀.heap.objs.size
 noex:∀b o,X.base.get? b=!o->b∉X.ex
 exfs:∀b∈X.ex,b∉X.fs
 funs:X.s₀.heap.FunFrames X.base X.outer
 frf:∀b∈X.fs,X.H₀ b=none
structure dN(X:Cx)(Xg:List (Tu×Obj))(σ:List (Option V))(H:Hp)(s:S8):Prop where
 ok:X.Ok
 os:s.os=X.s₀.os
 bare:Vp s.gens
 base:Un X.fs X.ex X.H₀ H X.s₀.heap s.heap
 loc:∃m,s.heap.Ns X.env.locals m/\∀(i:Nat) (x:VA) (v:V),X.N[i]? =!x->σ[i]? =!(!v)->Vis X.env.scope x->∃u,hB v u/\MF X.env s.heap m x u
 cell:∀x c,X.env.cells.lookup x=!c->∃v,s.heap.IsCell c v
 free:H X.env.locals=none
 freeC:∀x c,X.env.cells.lookup x=!c->H c=none
 pin:∀p∈X.pn++Xg,s.heap.get? p.1=!p.2/\H p.1=none/\p.1≠X.env.locals/\p.1∉X.fs/\∀v,p.2.data≠.cell v
 hok:LX X.prog X.w H s.heap
 len:σ.length=X.N.length
section
variable{X:Cx}{Xg:List (Tu×Obj)}{σ:List (Option V)}{H H':Hp}{s:S8}{h':Heap}
def Cx.Ok.nofr(ok:X.Ok)(e:X.base.get? b=!o):b∉X.fs:=λa=>by have:=(ok.funs.mem a).1;rw[e]at this;cases this
def dN.bs(I:dN X Xg σ H s):∀b o,X.base.get? b=!o->s.heap.get? b=!o/\H b=none:=λb o e=>
 {I.base.keep b o (I.ok.bs b o e).1 (I.ok.bs b o e).2 (I.ok.nofr e) (I.ok.noex b o e),I.base.free b o (I.ok.bs b o e).1 (I.ok.bs b o e).2 (I.ok.noex b o e)}
def dN.bk(I:dN X Xg σ H s):∀b o,X.base.get? b=!o->s.heap.get? b=!o:=λb o e=>(I.bs b o e).1
def dN.mod(I:dN X Xg σ H s):Mod X.K X.mg X.base:=I.ok.mod
def dN.J(I:dN X Xg σ H s):X.K.In s.heap:=I.ok.mod.kin.keeps I.bk
theorem dN.lt(I:dN X Xg σ H s):X.env.locals<s.heap.objs.size:=let ⟨_,hn,_⟩:=I.loc;hn.lt
theorem dN.sz(I:dN X Xg σ H s):X.s₀.heap.objs.size<=s.heap.objs.size:=Xn I.ok.above (Nat.le_of_lt I.lt)
def dN.nofs(I:dN X Xg σ H s){a:Tu}(h:s.heap.objs.size<=a):a∉X.fs:=λb=>by let{_,o,c,_}:=I.ok.funs.mem b;exact absurd (Q4 (Q5 c) (Xn I.sz h)) (Ro _)
def dN.b7(I:dN X Xg σ H s):∀x c,X.env.cells.lookup x=!c->c≠X.env.locals:=λx c e z=>by let{v,o,d,f}:=I.cell x c e;let{m,{h,es,i,a,b,_},_}:=I.loc;rw[z,a]at d;cases d;rw[b]at f;cases f
def dN.funs(I:dN X Xg σ H s):s.heap.FunFrames X.base X.outer:=by
 have all:∀(l:List Env),(∀b∈YZ l,b∈X.fs)->X.s₀.heap.FunFrames X.base l->s.heap.FunFrames X.base l:=by
  intro l;induction l with
  |nil=>intro _ _;trivial
  |cons f r h=>intro hs hl;let{hk,{L,o,a,hn,i,j},n}:=hl;have c:=hs L (by unfold YZ;rw[Rs,a];exact QO);let{p,e}:=I.base.slot L o i (I.ok.frf L c) c λz=>I.ok.exfs L z c;exact{hk,{L,_,a,hn,e,j},h (λb d=>hs b (by unfold YZ;rw[Rs,a];exact QM _ d)) n}
 exact all X.outer (λ_ d=>d) I.ok.funs
theorem dN.stack(I:dN X Xg σ H s):s.heap.FunFrames X.base X.stack:=by
 rcases I.ok.stk with e|⟨e,a⟩;.rw [e];exact I.funs
 .rw [e];let{m,hn,_}:=I.loc;refine .cons (by rw[I.ok.kind];decide) a hn ?_ I.funs;exact Heap.get?_none_of_le (Xn I.ok.bsz I.ok.above)
def dN.a6(I:dN X Xg σ H s):∀b∈YZ X.stack,b∈X.env.locals::X.fs:=λb a=>by
 rcases I.ok.stk with e|⟨e,c⟩;.simp_all
 .rw [e]at a;unfold YZ at a;rw[Rs,c]at a;exact a
def dN.bm(I:dN X Xg σ H s):∀b∈YZ X.stack,H b=none:=λb a=>by
 rcases Xi (I.a6 b a)with e|a;.rw [e];exact I.free
 .let{_,o,c,_}:=I.ok.funs.mem a;exact I.base.free b o c (I.ok.frf b a) λz=>I.ok.exfs b z a
theorem dN.step{ch:List Tu}(I:dN X Xg σ H s) (f:∀b∈ch,(b∈X.ex\/X.s₀.heap.objs.size<=b)/\b≠X.env.locals/\(∀x c,X.env.cells.lookup x=!c->c≠b)/\∀p∈X.pn++Xg,p.1≠b) (keep:∀b o,b≠X.env.locals->b∉X.fs->b∉ch->s.heap.get? b=!o->H b=none->h'.get? b=!o) (A:∀b o,b≠X.env.locals->b∈X.fs->b∉ch->s.heap.get? b=!o->H b=none->∃P,h'.get? b=some {o with slots:=P}) (free:∀b o,b∉ch->s.heap.get? b=!o->H b=none->H' b=none)
 (B:∀b o,b∉ch->s.heap.get? b=!o->∃K,h'.get? b=!K)
 (F:∀b xs,H b=!(.tup xs)->H' b=!(.tup xs)) (G:∀b o u,H b=!(.frz o u)->H' b=!(.frz o u)) (J:∀b N,H b=!(.tbl N)->∃more,H' b=!(.tbl (N++more)))
 (ns:∀m,s.heap.Ns X.env.locals m->h'.Ns X.env.locals m) (O:LX X.prog X.w H' h') (U:Vp g'):
 dN X Xg σ H' {s with heap:=h',gens:=g',drawn:=d',toks:=t'}:=by
 have M:∀b o,X.s₀.heap.get? b=!o->b≠X.env.locals:=λb o e=>Q8 (Q4 (Q5 e) I.ok.above);have y:∀b o,X.s₀.heap.get? b=!o->b∉X.ex->b∉ch:=λb o e a C=>by
  rcases(f b C).1 with z|z;.exact a z
  .exact absurd (Q4 (Q5 e) z) (Ro _)
 have h:∀x c,X.env.cells.lookup x=!c->∀v,s.heap.IsCell c v->h'.IsCell c v:=λx c e v ⟨o,E,Q⟩=>by
  have j:=λz=>(f c z).2.2.1 x c e rfl;by_cases hc:c∈X.fs;.let{P,q}:=A c o (I.b7 x c e) hc j E (I.freeC x c e);exact{_,q,Q}
  .exact{o,keep c o (I.b7 x c e) hc j E (I.freeC x c e),Q}
 refine{I.ok,I.os,U,{λb o e n C a=>?_,λb o e n C a=>?_,λb o e n a=>?_,λb o e a=>?_,λb xs e=>F b xs (I.base.tups b xs e),λb o xs e=>G b o xs (I.base.frzs b o xs e),λb N e=>?_},?_,λx c e=>?_,?_,λx c e=>?_,λp S=>?_,O,I.len};.exact keep b o (M b o e) C (y b o e a) (I.base.keep b o e n C a) (I.base.free b o e n a)
 .let{P,e1}:=I.base.slot b o e n C a;let{R,e2}:=A b _ (M b o e) C (y b o e a) e1 (I.base.free b o e n a);exact{(R),e2}
 .let{K,e1}:=I.base.there b o e a;exact free b K (y b o e a) e1 (I.base.free b o e n a)
 .let{K,e1}:=I.base.there b o e a;exact B b K (y b o e a) e1
 .let{W,e1}:=I.base.tbls b N e;let{Y,e2}:=J b _ e1;exact{W++Y,by rw[e2,Array.append_assoc]}
 .let{m,hn,hl}:=I.loc;refine{m,ns m hn,λi x v e1 e2 e3=>?_};let{u,r,l}:=hl i x v e1 e2 e3;exists u,r;rcases l with l|⟨k,c,e,z⟩
  .exact .inl l
  .exact .inr {k,c,e,h x c e _ z}
 .let{v,z}:=I.cell x c e;exact{v,h x c e v z}
 .let{m,{o,_,_,E,_},_}:=I.loc;exact free _ o (λz=>(f _ z).2.1 rfl) E I.free
 .let{v,o,E,Q}:=I.cell x c e;exact free c o (λz=>(f c z).2.2.1 x c e rfl) E (I.freeC x c e)
 .let{e,n,ne,T,d}:=I.pin p S;have j:=λz=>(f p.1 z).2.2.2 p S rfl;exact{keep p.1 p.2 ne T j e n,free p.1 p.2 j e n,ne,T,d}
theorem dN.un(I:dN X Xg σ H s)(u:Un X.fs [] H H' s.heap h')(c:LX X.prog X.w H' h'):dN X Xg σ H' {s with heap:=h',toks:=t'}:=by let{m,{o,es,v,i,r},_}:=id I.loc;let{x,j}:=u.any i I.free eq;exact I.step (ch:=[]) (λ_ z=>nomatch z) (λb o _ d _ e n=>u.keep b o e n d eq) (λb o _ d _ e n=>u.slot b o e n d eq) (λb o _ e n=>u.free b o e n eq) (λb o _ e=>u.there b o e eq) u.tups u.frzs u.tbls (λy p=>by let{A,f,h,a,q}:=p;rw[i]at a;cases a;exact{_,f,h,j,q}) c I.bare
def dN.call(I:dN X Xg σ H s)(u:Un (YZ X.stack) ch H H' s.heap h')(f:LX X.prog X.w H' h')(v:Vp g') (a:∀b∈ch,(b∈X.ex\/X.s₀.heap.objs.size<=b)/\b≠X.env.locals/\(∀x c,X.env.cells.lookup x=!c->c≠b)/\∀p∈X.pn++Xg,p.1≠b):dN X Xg σ H' {s with heap:=h',gens:=g',drawn:=d',toks:=t'}:=by
 let{m,{o,es,C,q,r},_}:=id I.loc;let{E,h}:=u.any q I.free λz=>(a _ z).2.1 rfl;exact I.step a (λb o h y hc e n=>u.keep b o e n (λz=>(Xi (I.a6 b z)).elim h y) hc) (λb o _ _ hc e n=>u.any e n hc) (λb o hc e n=>u.free b o e n hc) (λb o hc e=>u.there b o e hc) u.tups u.frzs u.tbls (λF A=>by let{G,i,j,d,B}:=A;rw[q]at d;cases d;exact{_,i,j,h,B}) f v
def dN.turned(I:dN X Xg σ H s)(k:∀b o,b≠it->s.heap.get? b=!o->h'.get? b=!o)(hn:H it=none)(d:it≠X.env.locals) (f:it∈X.ex\/X.s₀.heap.objs.size<=it) (h:∀x c,X.env.cells.lookup x=!c->c≠it) (i:∀p∈X.pn++Xg,p.1≠it):dN X Xg σ H {s with heap:=h',toks:=t'}:=by
 have a:∀b u,H b=!u->b≠it:=λb u e z=>by rw[z,hn]at e;cases e
 refine I.step (ch:=[it]) (λb j=>?_) (λb o _ _ hc e _=>k b o (λz=>hc (by simp[z])) e) (λb o _ _ hc e _=>{o.slots,k b o (λz=>hc (by simp[z])) e}) (λ_ _ _ _ n=>n)
  (λb o hc e=>{o,k b o (λz=>hc (by simp[z])) e}) (λ_ _ e=>e) (λ_ _ _ e=>e) (λb C e=>{#[],by rw[e];simp}) (λm y=>?_) (λb u e=>?_) I.bare
 .have e:b=it:= ~~~j;subst e;exact{(f),d,h,i}
 .let{o,es,A,B,r}:=y;exact{o,es,A,k _ o (Ne.symm d) B,r}
 .refine(I.hok b u e).a4 (λc v hc q=>k c v ?_ q) (λ_ q=>q) λ_ _ q=>q;rcases hc with z|z;.rw [z];exact a b u e
  .exact a c _ z
def dN.tok(I:dN X Xg σ H s)(t:Nat):dN X Xg σ H {s with toks:=t}:=I.un Un.refl I.hok
theorem dN.kept(I:dN X Xg σ H s)(k:∀b u,s.heap.get? b=!u->h'.get? b=!u):dN X Xg σ H {s with heap:=h',toks:=t'}:=I.un (Un.kept k) (I.hok.kept k)
theorem dN.laid{a:Tu}(I:dN X Xg σ H s)(k:∀b u,s.heap.get? b=!u->h'.get? b=!u)(c:s.heap.objs.size<=a)(new:ni X.prog X.w (jl H a o) h' a o):dN X Xg σ (jl H a o) {s with heap:=h',toks:=t'}:=I.un (Un.laid k c (I.hok.fresh c)) (I.hok.laid k c new)
def dN.write(I:dN X Xg σ H s)(mu:_Z (H x))(c:e=x\/H e=!(.own x))(k:∀b u,b≠e->s.heap.get? b=!u->h'.get? b=!u)(a:∃u,h'.get? e=!u) (new:ni X.prog X.w (jl H x o) h' x o):dN X Xg σ (jl H x o) {s with heap:=h',toks:=t'}:=I.un (Un.write mu c k a) (I.hok.write mu c k a new)
theorem dN.bo(I:dN X Xg σ H s)(h:∀p∈pins',s.heap.get? p.1=!p.2/\H p.1=none/\p.1≠X.env.locals/\p.1∉X.fs/\∀v,p.2.data≠.cell v):dN X pins' σ H s:=
 {I.ok,I.os,I.bare,I.base,I.loc,I.cell,I.free,I.freeC,λp a=>(Xk a).elim (λz=>I.pin p (Q9 _ z)) (h p),I.hok,I.len}
def ug{N:List VA}(c:N.Nodup){j:Nat}(a:N[i]? =!x)(b:N[j]? =!x):i=j:=by let{d,e1}:=Xj a;let{e,e2}:=Xj b;exact(List.getElem_inj c).mp (e1.trans e2.symm)
def rQ(I:dN X Xg σ H s)(hN:X.N.Nodup)(K:X.N[i]? =!x)(B:ZW X.env.scope x)(r:hB v u) (h:∀s',dN X Xg (σ.set i (!v)) H s'->(∃a,Heap.SameBut a s.heap s'.heap/\(a=X.env.locals\/X.env.cells.lookup x=!a))->Q () s') (hf:autoParam (X.fn x=true\/X.env.scope.names.lookup x=!.local) _aw):Tc M A (storeName X.env x u) Q E s:=by
 let{m,hn,hl}:=id I.loc;have N:(X.env.scope.kind== .class || (X.env.scope.kind== .module&&X.env.locals != X.env.globals))=false:=by rw[I.ok.kind];rfl
 have O:i<σ.length:=by rw[I.len];exact(Xj K).1
 have cne:=I.b7;have f:∀{a:Tu} {h':Heap},(∃o,s.heap.get? a=!o/\H a=none)->Heap.SameBut a s.heap h'->LX X.prog X.w H h':=λ{a h'} ha hs b ob e=>by
  let{_,_,C}:=ha;refine(I.hok b ob e).a4 (λc U hc q=>(hs.2 c ?_).trans q) (λ_ q=>q) λ_ _ q=>q;rintro rfl;rcases hc with rfl|hc
  .rw [C]at e;cases e
  .rw [C]at hc;cases hc
 rcases B with hk|hk
 .refine wpAny_storeName_local hk hn (λh' Y hs=>?_) N;let{oL,_,_,Z,_}:=id hn;refine h _ {I.ok,I.os,I.bare,{λb o e n F B=>?_,λb o e n F B=>?_,I.base.free,λb o e B=>?_,I.base.tups,I.base.frzs,I.base.tbls},{_,Y,λj y v' e1 e2 e3=>?_},λy c e=>?_,I.free,I.freeC,λp hp=>?_,f {(oL),Z,I.free} hs,by simpa using I.len} {_,hs,.inl rfl};.exact(hs.2 b (Q8 (Q4 (Q5 e) I.ok.above))).trans (I.base.keep b o e n F B)
  .let{sl,e1}:=I.base.slot b o e n F B;exact{sl,(hs.2 b (Q8 (Q4 (Q5 e) I.ok.above))).trans e1}
  .let{o',e1}:=I.base.there b o e B;exact{o',(hs.2 b (Q8 (Q4 (Q5 e) I.ok.above))).trans e1}
  .by_cases G:j=i
   .subst G;rw[K]at e1;cases e1;rw[List.getElem?_set_self O]at e2;cases e2;exact{u,r,.inl {hk,by simp}}
   .rw [List.getElem?_set_ne (Ne.symm G)]at e2;let{u',r',q}:=hl j y v' e1 e2 e3;exists u',r';rcases q with ⟨k,e⟩|⟨k,c,e,z⟩
    .refine .inl {k,?_};have:y≠x:=λe=>G (ug hN e1 (e▸K));simp[this,e]
    .exact .inr {k,c,e,z.sameBut hs (cne y c e)}
  .let{U,z}:=I.cell y c e;exact{U,z.sameBut hs (cne y c e)}
  .let{e,n,ne,nf,d}:=I.pin p hp;exact{(hs.2 p.1 ne).trans e,n,ne,nf,d}
 .have J:X.fn x=true:=by
   rcases hf with z|z
   .exact z
   .rw [z]at hk;cases hk
  let{c,hc}:=I.ok.has x (.inl hk)
  let{U,z}:=I.cell x c hc
  refine wpAny_storeName_cell I.ok.kind hk hc z (λh' P hs=>?_)
  let{oc,R,S}:=id z
  refine h {s with heap:=h'} {I.ok,I.os,I.bare,{λb o e n F B=>?_,λb o e n F B=>?_,I.base.free,λb o e B=>?_,I.base.tups,I.base.frzs,I.base.tbls},{m,hn.sameBut hs (Ne.symm (cne x c hc)),λj y v' e1 e2 e3=>?_},λy W e=>?_,I.free,I.freeC,λp hp=>?_,f {oc,R,I.freeC x c hc} hs,by simpa using I.len} {c,hs,.inr hc}
  .exact(hs.2 b (Q8 (Q4 (Q5 e) (I.ok.cab x c J hc)))).trans (I.base.keep b o e n F B)
  .let{sl,e1}:=I.base.slot b o e n F B;exact{sl,(hs.2 b (Q8 (Q4 (Q5 e) (I.ok.cab x c J hc)))).trans e1}
  .let{o',e1}:=I.base.there b o e B;exact{o',(hs.2 b (Q8 (Q4 (Q5 e) (I.ok.cab x c J hc)))).trans e1}
  .by_cases G:j=i
   .subst G;rw[K]at e1;cases e1;rw[List.getElem?_set_self O]at e2;cases e2;exact{u,r,.inr {.inl hk,c,hc,P}}
   .rw [List.getElem?_set_ne (Ne.symm G)]at e2;let{u',r',q}:=hl j y v' e1 e2 e3;exists u',r';rcases q with q|⟨k,W,e,z'⟩
    .exact .inl q
    .refine .inr {k,W,e,z'.sameBut hs ?_};rintro rfl;exact G (ug hN e1 (I.ok.inj _ _ _ e hc▸K))
  .by_cases T:W=c
   .subst T;exact{_,P}
   .let{w2,z2}:=I.cell y W e;exact{w2,z2.sameBut hs T}
  .let{e,n,ne,nf,d}:=I.pin p hp;refine{(hs.2 p.1 ?_).trans e,n,ne,nf,d};intro q;rw[q,R]at e;have q':=Xr e;exact d U (by rw[<-q'];exact S)
def jZ(I:dN X Xg σ H s)(a:X.N.Nodup)(b:X.N[i]? =!x)(c:ZW X.env.scope x)(r:hB v u) (h:∀s',dN X Xg (σ.set i (!v)) H s'->Q () s') (d:autoParam (X.fn x=true\/X.env.scope.names.lookup x=!.local) _aw):Tc M A (storeName X.env x u) Q E s:=
 rQ I a b c r (λs' e _=>h s' e) d
def dN.ci(I:dN X Xg σ H s)(f:s'.os=s.os)(u:Un (YZ X.stack) ch H H' s.heap s'.heap)(a:LX X.prog X.w H' s'.heap)(h:Vp s'.gens) (d:∀b∈ch,(b∈X.ex\/X.s₀.heap.objs.size<=b)/\b≠X.env.locals/\(∀x c,X.env.cells.lookup x=!c->c≠b)/\∀p∈X.pn++Xg,p.1≠b):dN X Xg σ H' s':=by
 let{h',i,j,n,o}:=s';have e:=f;subst e;exact I.call u a h d
end
abbrev XK:=S5->Option Tu->Hp->Prop
abbrev St:=List (Option V)
abbrev VK:=V->Hp->Prop
abbrev TE:=St->Hp->VK->Prop
abbrev TT:=St->Hp->(Bool->Hp->Prop)->Prop
abbrev TA:=St->Hp->(List V->Hp->Prop)->Prop
structure hX where
 nx:St->Hp->Prop
 rt:VK
 bk:St->Hp->Prop:=λ_ _=>False
 ct:St->Hp->Prop:=λ_ _=>False
abbrev TS:=hX->St->Hp->Prop
def EP(X:Cx)(b:List (Tu×Obj))(σ:St)(Q:VK)(u:S5)(s':S8):Prop:=∃v a,dN X b σ a s'/\hB v u/\Q v a
def TP(X:Cx)(c:List (Tu×Obj))(σ:St)(Q:Bool->Hp->Prop)(b:Bool)(s':S8):Prop:=∃a,dN X c σ a s'/\Q b a
def AP(X:Cx)(c:List (Tu×Obj))(σ:St)(Q:List V->Hp->Prop)(us:List S5)(s':S8):Prop:=∃a b,dN X c σ b s'/\eC a us/\Q a b
def SP(X:Cx)(c:List (Tu×Obj))(D:hX)(f:Flow)(s':S8):Prop:=
 match f with
 |.next=>∃b a,dN X c b a s'/\D.nx b a
 |.brk=>∃b a,dN X c b a s'/\D.bk b a
 |.cont=>∃b a,dN X c b a s'/\D.ct b a
 |.ret u=>∃v b a,dN X c b a s'/\hB v u/\D.rt v a
def PE(X:Cx)(e:Expr)(t:TE):Prop:=
 ∀(a:List (Tu×Obj)) (s:S8) (σ:St) (H:Hp) (Q:VK),dN X a σ H s->t σ H Q->Tc (model X.prog X.w) X.A (eval e X.env) (EP X a σ Q) X.xe s
def PT(X:Cx)(e:Expr)(t:TT):Prop:=
 ∀(a:List (Tu×Obj)) (s:S8) (σ:St) (H:Hp) (Q:Bool->Hp->Prop),dN X a σ H s->t σ H Q->Tc (model X.prog X.w) X.A (WX e X.env (eval e X.env)) (TP X a σ Q) X.xe s
def PW(X:Cx)(e:Expr)(t:TT):Prop:=
 ∀(a:Sem S5) (b:List (Tu×Obj)) (s:S8) (σ:St) (H:Hp) (Q:Bool->Hp->Prop),dN X b σ H s->t σ H Q->Tc (model X.prog X.w) X.A (WX e X.env a) (TP X b σ Q) X.xe s
def PW.pt(h:PW X e t):PT X e t:=h _
def PA(X:Cx)(es:List Expr)(t:TA):Prop:=
 ∀(pos:Pos) (a:List (Tu×Obj)) (s:S8) (σ:St) (H:Hp) (Q:List V->Hp->Prop),dN X a σ H s->t σ H Q->Tc (model X.prog X.w) X.A (spliced (Um pos (Te es X.env))) (AP X a σ Q) X.xe s
def PS(X:Cx)(st:Stmt)(t:TS):Prop:=
 ∀(a:List (Tu×Obj)) (s:S8) (σ:St) (H:Hp) (D:hX),dN X a σ H s->t D σ H->Tc (model X.prog X.w) X.A (exec st X.env) (SP X a D) X.xe s
def XM(X:Cx)(st:List Stmt)(t:TS):Prop:=
 ∀(a:List (Tu×Obj)) (s:S8) (σ:St) (H:Hp) (D:hX),dN X a σ H s->t D σ H->Tc (model X.prog X.w) X.A (execs st X.env) (SP X a D) X.xe s
def thn{t:Sem α}{Q b:α->S8->Prop}(h:Tc M A t Q E s)(c:∀a s,Q a s->b a s):Tc M A t b E s:=Tp h c λ_ _ x=>x
#print b
def eT(i:Nat):TE:=λσ H Q=>∃v,σ[i]? =!(!v)/\Q v H
def tC(v:V):TE:=λ_ H Q=>Q v H
def HM{pos:Pos}(f:X.N[i]? =!x)(j:Vis X.env.scope x)(b:((x==("__debug__":VA))=false)⁻¹)(d:((x==("__classdict__":VA))=false)⁻¹):PE X (.Name x pos) (eT i):=by
 intro n s σ H Q I h;let{v,e,h}:=h;let{m,hn,hl}:=I.loc;let{u,r,l}:=hl i x v f e j;have fin:EP X n σ Q u s:={(v),H,I,r,h}
 rcases l with ⟨hk,o⟩|⟨hk,c,hc,a⟩
 .exact Wz (wpAny_loadName_local I.ok.kind hk hn o fin) b
 .rcases hk with hk|hk
  .exact Wz (wpAny_loadName_cell I.ok.kind hk hc a fin) b
  .exact Wz (wpAny_loadName_free I.ok.kind hk hc a fin d) b
def ac:PE X (.Constant (.int i) j pos) (tC (.int i)):=λ_ _ _ H _ I h=>wpAny_Constant_int {.int i,H,I.tok _,{_,rfl},h}
def cX:PE X (.Constant (.bool b) j pos) (tC (.bl b)):=λ_ _ _ H _ I h=>Constant_bool {.bl b,H,I,rfl,h}
def cv:PE X (.Constant .none j pos) (tC .non):=λ_ _ _ H _ I h=>Constant_none {.non,H,I,rfl,h}
def aq:PE X (.Constant (.str x) j pos) (tC (.str x)):=λ_ _ _ H _ I h=>Calls.Constant_str {.str x,H,I.tok _,{_,rfl},h}
def Gl(X:Cx)(x:VA):Prop:=X.env.kindOf x=!.globalImplicit
def jD{σ:St}(I:dN X Xg σ H s)(a:Gl X x)(b:X.mg x=!u)(h:Q u s) (c:((x==("__debug__":VA))=false)⁻¹):Tc (model X.prog X.w) X.A (eval (.Name x pos) X.env) Q E s:=
 Calls.Name_function_global I.ok.kind a (Calls.loadGlobal_global (by rw[I.ok.glob];exact I.mod.glob.keeps I.bk) b h) c
def gJ{E:S5->S8->Prop}{σ:St}{pos:Pos}(I:dN X Xg σ H s)(a:Gl X x)(b:X.mg x=none)(c:Tx x=!u)(h:Q u s) (hn:(x≠"__name__")⁻¹) (d:((x==("__debug__":VA))=false)⁻¹):Tc (model X.prog X.w) X.A (eval (.Name x pos) X.env) Q E s:=by
 let{i,e,f}:=I.mod.blt;exact Calls.Name_function_global I.ok.kind a (Calls.loadGlobal_builtin (by rw[I.ok.glob];exact I.mod.glob.keeps I.bk) b (by rw[I.ok.blt];exact e.keeps I.bk) ((f x hn).trans c) h) d
def iC(a:Gl X x)(b:X.mg x=!u)(r:hB v u)(c:((x==("__debug__":VA))=false)⁻¹):PE X (.Name x pos) (tC v):=
 λ_ _ _ H _ I h=>jD I a b {(v),H,I,r,h} c
def E6{pos:Pos}(a:Gl X x)(b:X.mg x=none)(c:Tx x=!u)(r:hB v u)(hn:(x≠"__name__")⁻¹)(d:((x==("__debug__":VA))=false)⁻¹):PE X (.Name x pos) (tC v):=
 λ_ _ _ H _ I h=>gJ I a b c {(v),H,I,r,h} hn d
variable{a b:Expr}{ta tb:TE}{pos:Pos}
def PC(X:Cx)(op:CmpOp)(a b:Expr)(t:TE):Prop:=
 ∀(c:List (Tu×Obj)) (s:S8) (σ:St) (H:Hp) (Q:VK),dN X c σ H s->t σ H Q->
  Tc (model X.prog X.w) X.A (eval a X.env) (λv d=>Tc (model X.prog X.w) X.A (eval b X.env) (λu e=>Tc (model X.prog X.w) X.A (TD op v u) (EP X c σ Q) X.xe e) X.xe d) X.xe s
def tB(t:TE):TT:=λσ H Q=>t σ H λx d=>∃c,x=.bl c/\Q c d
def zX(h:PC X op a b t)(e:Uh op b=false:=by first|exact nobehind _ Xs Xs|rfl):PT X (.Compare a [op] [b] pos) (tB t):=by intro f s σ H Q I hw;refine wpAny_isTrue_Compare1 (thn (h f s σ H _ I hw) λv r e=>thn e λu y i=>thn i λc A z=>?_) e;let{x,j,n,o,p}:=z;let{d,rfl,q}:=p;cases o;exact Ui {(j),n,q}
def gK(h:PE X e t)(f:autoParam (∀c,WX e X.env c=(do let v <-c;U9 e.pos;holding [v] (truthy v))) _ai):PT X e (tB t):=by intro i s σ H Q I hw;refine isTrue_plain (thn (h i s σ H _ I hw) λv r z=>?_) (f _);let{x,j,n,o,p}:=z;let{d,rfl,q}:=p;cases o;exact Ui {(j),n,q}
variable{tA tB':TT}{rest:List Expr}
def HQ(t u:TT):TT:=λσ H Q=>t σ H λc d=>if c=true then u σ d Q else Q false d
def tOr(t u:TT):TT:=λσ H Q=>t σ H λc d=>if c=true then Q true d else u σ d Q
def HR(t:TT):TT:=λσ H Q=>t σ H λc d=>Q (not c) d
def iD(d:PT X a tA):PW X (.BoolOp .And [a] pos) tA:=by
 intro wh f s σ H Q I h;refine isTrue_and (thn (d f s σ H Q I h) λc i e=>?_);cases c with
 |true=>exact isTrue_and_nil e
 |false=>exact e
def o6(d:PT X a tA):PW X (.BoolOp .Or [a] pos) tA:=by
 intro wh f s σ H Q I h;refine isTrue_or (thn (d f s σ H Q I h) λc i e=>?_);cases c with
 |false=>exact isTrue_or_nil e
 |true=>exact e
def jE(j:PT X a tA)(n:PW X (.BoolOp .And (b::rest) pos) tB'):PW X (.BoolOp .And (a::b::rest) pos) (HQ tA tB'):=by
 intro wh d s σ H Q I h;refine isTrue_and (thn (j d s σ H _ I h) λc o z=>?_);let{e,f,i}:=z;cases c with
 |true=>exact n wh d o σ e Q f i
 |false=>exact{(e),f,i}
def tO(j:PT X a tA)(n:PW X (.BoolOp .Or (b::rest) pos) tB'):PW X (.BoolOp .Or (a::b::rest) pos) (tOr tA tB'):=by
 intro wh d s σ H Q I h;refine isTrue_or (thn (j d s σ H _ I h) λc o z=>?_);let{e,f,i}:=z;cases c with
 |true=>exact{(e),f,i}
 |false=>exact n wh d o σ e Q f i
def zY(d:PT X a tA):PT X (.UnaryOp .Not a pos) (HR tA):=by intro e s σ H Q I h;exact isTrue_not (d e s σ H (λc f=>Q (not c) f) I h)
def HS(ta tb:TE):TE:=λσ H Q=>ta σ H λx d=>∃c,x=.bl c/\if c=true then Q (.bl true) d else tb σ d Q
def zZ(h:PE X a t):PE X (.BoolOp op [a] pos) t:=λc s σ H Q I hw=>BoolOp_one (h c s σ H Q I hw)
def D9(j:PE X a ta)(n:PE X (.BoolOp .Or (b::rest) pos) tb):PE X (.BoolOp .Or (a::b::rest) pos) (HS ta tb):=by
 intro e s σ H Q I h;refine BoolOp_or (thn (j e s σ H _ I h) λv o z=>?_);let{x,f,i,p,d}:=z;let{c,rfl,d}:=d;cases p;apply Ui;cases c with
 |false=>exact n e o σ f Q i d
 |true=>exact{.bl true,f,i,rfl,d}
def tIf(t:TT)(ta tb:TE):TE:=λσ H Q=>t σ H λc d=>if c=true then ta σ d Q else tb σ d Q
def uh(hc:PT X c tA)(o:PE X a ta)(p:PE X b tb):PE X (.IfExp c a b pos) (tIf tA ta tb):=by
 intro e s σ H Q I h;refine wpAny_IfExp (thn (hc e s σ H _ I h) λd f z=>?_);let{i,j,n}:=z;cases d with
 |true=>exact o e f σ i Q j n
 |false=>exact p e f σ i Q j n
end
def ip(K:RP)(H:Hp)(a:Tu)(xs:List V):Prop:=
 Rd H a (.lst xs)\/
  ∃(o:Obj) (b:Array S5) (n:Nat),K.lookup a=!o/\o.cls=.type "list"/\o.dict=none/\o.data=.seq b n/\b.size<=S6/\eC xs b.toList
def qu(K:RP)(H:Hp)(a:Tu)(xs:List V):Prop:=
 Rd H a (.tup xs)\/
  ∃(o:Obj) (b:Array S5) (n:Nat),K.lookup a=!o/\o.cls=.type "tuple"/\o.data=.seq b n/\b.size<=S6/\eC xs b.toList
def MG:S5->Option V
 |.none=> !.non
 |.bool b=> !(.bl b)
 |.int i _=> !(.int i)
 |.str x _=> !(.str x)
 |.bytes b _=> !(.byt b)
 |.float b _=> !(.flt b)
 |.ref a=> !(.ref a)
 |.type n=> !(.ty n)
 |_=>none
theorem hB.abs(r:hB x u):MG u=!x:=by
 cases x with
 |non=>cases r;rfl
 |bl _=>cases r;rfl
 |int _=>let{t,rfl}:=r;rfl
 |str _=>let{t,rfl}:=r;rfl
 |byt _=>let{t,rfl}:=r;rfl
 |flt _=>let{t,rfl}:=r;rfl
 |ref _=>cases r;rfl
 |ty _=>cases r;rfl
theorem hB.inj(r:hB x u)(q:hB y u):x=y:=Xr (r.abs.symm.trans q.abs)
theorem eC.inj:∀{xs a:List V} {us:List S5},eC xs us->eC a us->xs=a:=by
 intro xs a us h;induction h generalizing a with
 |nil=>intro h;cases h;rfl
 |cons r t b=>
  intro h;cases h with
  |cons c d=>rw[r.inj c,b d]
section
variable{X:Cx}{Xg:List (Tu×Obj)}{σ:St}{H:Hp}{s:S8}{a:Tu}{xs ys:List V}
theorem ip.of{K:RP}(h:H a=!(.lst xs)):ip K H a xs:=.inl (.inl h)
theorem qu.of{K:RP}(h:H a=!(.tup xs)):qu K H a xs:=.inl (.inl h)
theorem dN.list(I:dN X Xg σ H s)(h:ip X.K H a xs):∃b,eC xs b/\PlainL s.heap a b.toArray/\xs.length<=S6:=by
 rcases h with h|⟨o,b,n,hk,hc,c,hs,d,r⟩;.let{z,b,n,r,e}:=h.ok I.hok;exact{b,r,{_,n,e,rfl,rfl,rfl},z}
 .refine{b.toList,r,{o,n,I.J a o hk,hc,c,by simpa using hs},?_};have e:=r.length;simp only[Array.length_toList]at e;ext
theorem dN.tuple(I:dN X Xg σ H s)(h:qu X.K H a xs):∃b,eC xs b/\VS s.heap a b.toArray/\xs.length<=S6:=by
 rcases h with h|⟨o,b,n,hk,hc,hs,c,r⟩;.let{z,b,r,p}:=h.ok I.hok;exact{(b),r,p.t,z}
 .refine{b.toList,r,{o,I.J a o hk,hc,n,by simpa using hs},?_};have e:=r.length;simp only[Array.length_toList]at e;ext
theorem dN.bh(I:dN X Xg σ H s)(h:ip X.K H a xs)(h':ip X.K H a ys):xs=ys:=by let{c,r,{o,n,e,_,_,d},_}:=I.list h;let{b,j,{p,q,f,_,_,i},_}:=I.list h';rw[e]at f;cases f;rw[d]at i;injection i with d1 _;have:c=b:= ~~~(congrArg Array.toList d1);subst this;exact r.inj j
theorem dN.bv(I:dN X Xg σ H s)(h:qu X.K H a xs)(h':qu X.K H a ys):xs=ys:=by let{c,r,{o,e,_,n,d},_}:=I.tuple h;let{b,j,{p,f,_,q,i},_}:=I.tuple h';rw[e]at f;cases f;rw[d]at i;injection i with d1 _;have:c=b:= ~~~(congrArg Array.toList d1);subst this;exact r.inj j
end
abbrev Cx.ak(X:Cx)(E:S5->S8->Prop):Cx:={X with xe:=E}
abbrev Cx.ay(X:Cx):Cx:=X.ak λ_ _=>False
theorem Cx.Ok.ak{X:Cx}(ok:X.Ok)(E:S5->S8->Prop):(X.ak E).Ok:=
 {(ok.mod),ok.kind,ok.glob,ok.blt,ok.above,ok.inj,ok.has,ok.cab,ok.hd,ok.frames,ok.stk,ok.exf,ok.bs,ok.bsz,ok.noex,ok.exfs,ok.funs,ok.frf}
theorem Cx.Ok.aa{X:Cx}(ok:(X.ak E).Ok):X.Ok:=
 {(ok.mod),ok.kind,ok.glob,ok.blt,ok.above,ok.inj,ok.has,ok.cab,ok.hd,ok.frames,ok.stk,ok.exf,ok.bs,ok.bsz,ok.noex,ok.exfs,ok.funs,ok.frf}
section
variable{X:Cx}{Xg:List (Tu×Obj)}{σ:St}{H:Hp}{s:S8}{E:S5->S8->Prop}
def dN.ak(I:dN X Xg σ H s)(E:S5->S8->Prop):dN (X.ak E) Xg σ H s:={I.ok.ak E,I.os,I.bare,I.base,I.loc,I.cell,I.free,I.freeC,I.pin,I.hok,I.len}
def dN.aa(I:dN (X.ak E) Xg σ H s):dN X Xg σ H s:={(I.ok.aa),I.os,I.bare,I.base,I.loc,I.cell,I.free,I.freeC,I.pin,I.hok,I.len}
def SP.aa(h:SP (X.ak E) Xg D f s'):SP X Xg D f s':=by
 cases f with
 |next=>let{a,b,I,q}:=h;exact{(a),b,I.aa,q}
 |brk=>let{a,b,I,q}:=h;exact{(a),b,I.aa,q}
 |cont=>let{a,b,I,q}:=h;exact{(a),b,I.aa,q}
 |ret u=>let{v,a,b,I,r,q}:=h;exact{(v),a,b,I.aa,r,q}
def XM.ay{st:List Stmt}(h:XM X.ay st t):XM X st t:=λXg s σ H D I hw=>
 Tp (h Xg s σ H D (I.ak _) hw) (λ_ _ q=>q.aa) λ_ _ z=>False.elim z
end
section
variable{X:Cx}{st:Stmt}{rest:List Stmt}{t u:TS}{e:Expr}{te:TE}{pos:Pos}
def Ea:TS:=λD σ H=>D.nx σ H
def ui(t u:TS):TS:=λD σ H=>t {D with nx:=u D} σ H
def aE:XM X [] Ea:=λ_ _ σ H _ I h=>UN {(σ),H,I,h}
def aa(b:PS X st t)(c:XM X rest u):XM X (st::rest) (ui t u):=by
 intro a s σ H D I h;refine wpAny_execs_cons (thn (b a s σ H {D with nx:=u D} I h) λf d q=>?_);cases f with
 |next=>let{i,j,n,q}:=q;exact c a d i j D n q
 |ret v=>exact q
 |brk=>exact q
 |cont=>exact q
def ae(a:PS X st t):XM X [st] t:=by
 intro b s σ H D I h;refine wpAny_execs_cons (thn (a b s σ H D I h) λf c q=>?_);cases f with
 |next=>exact UN q
 |ret v=>exact q
 |brk=>exact q
 |cont=>exact q
def dN.quiet{σ:St}(I:dN X Xg σ H s):interactive X.env=false:=by simp[interactive,I.ok.kind]
def o7(te:TE):TS:=λD σ H=>te σ H λ_ a=>D.nx σ a
def av(a:PE X e te)(hs:‹U3 e none pos.line X.env=pure false›):PS X (.Expr e pos) (o7 te):=by intro b s σ H D I h;exact wpAny_Expr_any (thn (a b s σ H _ I h) λv i z=>by let{x,c,d,j,f}:=z;exact{(σ),c,d,f}) I.quiet hs
def uj(te:TE):TS:=λD σ H=>te σ H D.rt
def aw(a:PE X e te):PS X (.Return (!e) pos) (uj te):=by intro b s σ H D I h;exact wpAny_Return_some (thn (a b s σ H _ I h) λv j z=>by let{x,c,d,f,i}:=z;exact{(x),σ,c,d,f,i})
def tP:TS:=λD _ H=>D.rt .non H
def qF:PS X (.Return none pos) tP:=λ_ _ σ H _ I h=>wpAny_Return_none {.non,σ,H,I,rfl,h}
def yi(c:TT)(t u:TS):TS:=λD σ H=>c σ H λb a=>if b=true then t D σ a else u D σ a
def aH(hc:PT X c tc)(p:XM X a t)(q:XM X b u):PS X (.If c a b pos) (yi tc t u):=by
 intro f s σ H D I h;refine wpAny_If (thn (hc f s σ H _ I h) λd i z=>?_);let{j,n,o}:=z;cases d with
 |true=>exact p f i σ j D n o
 |false=>exact q f i σ j D n o
def HU:TS:=λ_ _ _=>False
def z9:XM X sts HU:=λ_ _ _ _ _ _ h=>h.elim
end
abbrev TG:=V->St->Hp->(St->Hp->Prop)->Prop
abbrev Z3:=List V->St->Hp->(St->Hp->Prop)->Prop
def PG(X:Cx)(a:Expr)(t:TG):Prop:=
 ∀(b:List (Tu×Obj)) (s:S8) (σ:St) (H:Hp) (v:V) (u:S5) (Q:St->Hp->Prop),dN X b σ H s->hB v u->t v σ H Q->
  Tc (model X.prog X.w) X.A (assign a X.env u) (λ_ e=>∃c d,dN X b c d e/\Q c d) X.xe s
def _e(X:Cx)(f:List Expr)(t:Z3):Prop:=
 ∀(a:List (Tu×Obj)) (s:S8) (σ:St) (H:Hp) (b:List V) (c:List S5) (Q:St->Hp->Prop),dN X a σ H s->eC b c->t b σ H Q->
  Tc (model X.prog X.w) X.A (assignInOrder ((Uc f X.env).map (·.2)) c) (λ_ h=>∃d e,dN X a d e h/\Q d e) X.xe s
abbrev HV:=V->V->V->Hp->(Hp->Prop)->Prop
def yj(X:Cx)(t:HV):Prop:=
 ∀(a:List (Tu×Obj)) (s:S8) (σ:St) (H:Hp) (o i v:V) (b c u:S5) (Q:Hp->Prop),dN X a σ H s->hB o b->hB i c->hB v u->t o i v H Q->
  Tc (model X.prog X.w) X.A (setItem b c u) (λ_ e=>∃d,dN X a σ d e/\Q d) X.xe s
section
variable{X:Cx}{pos:Pos}
def gA(i:Nat):TG:=λv σ H Q=>Q (σ.set i (!v)) H
def iE(a:X.N.Nodup)(b:X.N[i]? =!x)(c:ZW X.env.scope x)(d:autoParam (X.fn x=true\/X.env.scope.names.lookup x=!.local) _aw):PG X (.Name x pos) (gA i):=by intro f s σ H v u Q I r h;exact wpAny_assign_Name (jZ I a b c r (λj e=>{_,H,e,h}) d)
def HW:Z3:=λa σ H Q=>a= []/\Q σ H
def Eb(t:TG)(u:Z3):Z3:=λa σ H Q=>∃v r,a=v::r/\t v σ H λb c=>u r b c Q
def bB:_e X [] HW:=by intro a s σ H b c Q I r h;let{e,h}:=h;exact assignInOrder_nil {(σ),H,I,h}
def aC(b:PG X e t)(c:_e X es u) (hs:‹(Uc (e::es) X.env).map (·.2)=assign e X.env::(Uc es X.env).map (·.2)›):_e X (e::es) (Eb t u):=by
 intro a s σ H p q Q I r h;let{v,x,e1,h}:=h;subst e1;cases r with
 |cons r d=>rw[hs];refine UT (thn (b a s σ H _ _ _ I r h) λ_ f z=>?_);let{i,j,n,o}:=z;exact c a f i j _ _ Q n d o
def HX(K:RP)(n:Nat)(t:Z3):TG:=λv σ H Q=>∃a b,v=.ref a/\qu K H a b/\b.length=n/\t b σ H Q
def HY{k:Nat}(hc:X.calm=true)(h:_e X es t) (hn:‹(Uc es X.env).length=n›) (c:‹(Uc es X.env).findIdx? (·.1)=none›):PG X (.Tuple es k pos) (HX X.K n t):=by
 intro d s σ H v u Q I r hw;let{a,i,e1,j,hl,hw}:=hw;subst e1;cases r;let{p,f,q,A}:=I.tuple j;refine assign_Tuple_tuple (I.ok.hd hc) q (by simp[hn,<-hl,f.length]) c λx y=>?_;have z:dN X d σ H {s with heap:=x}:=I.kept λb o e=>y b o (Q8 (Q5 e)) e;exact h d _ σ H i _ Q z (~~~f) hw
def HZ(a b:TE)(t:HV):TG:=λv σ H Q=>a σ H λo c=>b σ c λi d=>t o i v d λe=>Q σ e
theorem iH(d:PE X o to)(e:PE X i ti)(hs:yj X t) (N:autoParam (∀v,assign (.Subscript o i pos) X.env v=(do
  let a <-holding [v] (eval o X.env);let b <-holding [v,a] (eval i X.env)
  U9 pos
  holding [v,a,b] (setItem a b v)
  release [v,a,b] [])) _ai):PG X (.Subscript o i pos) (HZ to ti t):=by
 intro c s σ H v u Q I r h;refine S4 (Tf (thn (d c s σ H _ I h) λa f j=>?_));let{x,n,p,q,A}:=j;refine S4 (Tf (thn (e c f σ n _ p A) λb B w=>?_));let{y,C,E,F,G}:=w;refine S4 (UI (S4 (Tf (thn (hs c B σ C x y v a b u _ E q F r G) λ_ O z=>?_))));let{J,K,M}:=z;exact wpAny_release {(σ),J,K,M}
def kY(a:TE)(g:TG):TS:=λD σ H=>a σ H λx b=>g x σ b D.nx
def bW(b:PE X e te)(c:PG X tg g)(hs:‹swapsWithSole [tg] e pos.line X.env=pure false›)(hw:‹swappedStores [tg] e X.env=pure none›)
 (d:‹(Uc [tg] X.env).map (·.2)= [assign tg X.env]›):PS X (.Assign [tg] e pos) (kY te g):=by
 intro a s σ H D I h;refine wpAny_Assign_stores (thn (b a s σ H _ I h) λv f z=>?_) hs hw;let{x,i,j,n,o}:=z;rw[d];exact thn (c a f σ i x v _ j n o) λ_ p q=>q
def uk(a:X.N.Nodup)(b:X.N[i]? =!x)(c:ZW X.env.scope x)(d:PE X e te)(hs:‹U3 e (!(.Name x pos')) pos.line X.env=pure false›)(f:autoParam (X.fn x=true\/X.env.scope.names.lookup x=!.local) _aw):
 PS X (.Assign [.Name x pos'] e pos) (kY te (gA i)):=by
 intro j s σ H D I h;refine wpAny_Assign_Name (thn (d j s σ H _ I h) λv u z=>?_) hs;let{y,n,o,p,q}:=z;exact jZ o a b c p (λA r=>{_,n,r,q}) f
def Ia(i j:Nat)(a:TA):TS:=λD σ H=>a σ H λb c=>∃v w,b= [v,w]/\D.nx ((σ.set i (!v)).set j (!w)) c
def Ib(hc:X.calm=true)(B:X.N.Nodup)(K:X.N[i]? =!x)(M:X.N[j]? =!y)(n:i≠j) (C:X.env.scope.names.lookup x=!.local) (E:X.env.scope.names.lookup y=!.local) (N:PA X [a,b] ta) (hw:swappedStores [.Tuple [.Name x px,.Name y py] kt pt] (.Tuple [a,b] k2 pt2) X.env=pure (some [x,y])) (hs:‹swapsWithSole [.Tuple [.Name x px,.Name y py] kt pt] (.Tuple [a,b] k2 pt2) pos.line X.env=pure false›):
 PS X (.Assign [.Tuple [.Name x px,.Name y py] kt pt] (.Tuple [a,b] k2 pt2) pos) (Ia i j ta):=by
 intro F s σ H D I h;refine S4 (UI ?_);refine S4 (S7 ?_);refine S4 (Tuple_ (thn (N _ F s σ H _ I h) λO f z=>?_));let{Z,G,P,Q,r}:=z;let{v,w,e1,r}:=r;subst e1;obtain⟨c,d,rfl,R,u⟩:∃c d,O= [c,d]/\hB v c/\hB w d:=by
  cases Q with
  |cons p q=>
   cases q with
   |cons S T=>cases T;exact{_,_,rfl,p,S}
 refine TL ?_ (by show 2<=S6;decide);have U:dN X F σ G {f with heap:=f.heap.push {cls:=.type "tuple",data:=.seq [c,d].toArray}}:=P.kept λb o e=>QK _ e;rw[hw];refine S4 (S7 ?_);refine S4 (UL (S4 (unpackItems_tuple (items:= #[c,d]) (I.ok.hd hc) (VS.new f.heap _) λh' A=>?_)));have W:=U.kept (t':=f.toks) λb o e=>A b o (Q8 (Q5 e)) e;refine S4 (UT (wpAny_bindName (jZ W B M (.inl E) u (λs2 Y=>?_) (.inr E))));refine UT (wpAny_bindName (jZ Y B K (.inl C) R (λs3 J=>assignInOrder_nil (S7 ?_)) (.inr C)));rw[List.set_comm _ _ (Ne.symm n)]at J;exact{_,G,J,r}
def Id(c:TT)(h:TS):TS:=λD σ H=>∃W:Nat->St->Hp->Prop,(∃m,W m σ H)/\∀m σ H,W m σ H->
 c σ H λb a=>if b=true then ∃N:St->Hp->Prop,(∀d e,N d e->∃f,f<m/\W f d e)/\h {D with nx:=N,ct:=N,bk:=D.nx} σ a else D.nx σ a
def ga(y:Tl (model X.prog X.w) X.A X.env X.xe)(hc:PT X c tc)(J:XM X body tb):PS X (.While c body [] pos) (Id tc tb):=by
 intro o s σ H D I h;let{W,{K,M},turn}:=h;refine wpAny_While (codeAny_whileLoop (λn O=>∃A B,dN X o A B O/\W n A B) ?_ K {(σ),H,I,M});rintro n P ⟨e,C,Q,R⟩;refine T4 y (thn (hc o P e C _ Q (turn n e C R)) λb S z=>?_);let{E,F,i}:=z;cases b with
 |true=>
  let{N,G,i}:=i;refine T4 y (thn (J o S e E _ F i) λf T j=>?_);cases f with
  |next=>let{a,d,p,q}:=j;let{r,u,x}:=G a d q;exact{(r),u,a,d,p,x}
  |cont=>let{a,d,p,q}:=j;let{r,u,x}:=G a d q;exact{(r),u,a,d,p,x}
  |brk=>exact j
  |ret v=>exact j
 |false=>exact UN {(e),E,F,i}
end
structure It where
 go:Nat->Hp->Prop
 yld:Nat->Hp->V->Hp->Prop
 stop:Nat->Hp->Prop
def gf(X:Cx)(a:List (Tu×Obj))(H:Hp)(b:Tu):Prop:=
 H b=none/\b≠X.env.locals/\b∉X.fs/\(b∈X.ex\/X.s₀.heap.objs.size<=b)/\(∀x c,X.env.cells.lookup x=!c->c≠b)/\∀p∈X.pn++a,p.1≠b
def dN.ar{σ:St}{b:Tu}(I:dN X Xg σ H s)(a:s.heap.objs.size<=b)(hn:H' b=none):gf X Xg H' b:=by
 refine{hn,Ri (Q4 I.lt a),I.nofs a,.inr (Xn I.sz a),λx c e z=>?_,λp d z=>?_};.let{v,q}:=I.cell x c e;exact absurd (Q4 q.lt (by rw[z];exact a)) (Ro _)
 .exact absurd (Q4 (Q5 (I.pin p d).1) (by rw[z];exact a)) (Ro _)
structure om(P:S9)(w:Td)(K:RP)(tg:Expr)(J:It)(fp:List Tu)(it:Tu)(tn:Nat->Heap->Prop):Prop where
 mem:it∈fp
 obj:∀i h,tn i h->∀b∈fp,∃o,h.get? b=!o/\∀v,o.data≠.cell v
 keep:∀i h h',tn i h->(∀b∈fp,∀o,h.get? b=!o->h'.get? b=!o)->tn i h'
 item:∀(X:Cx),X.prog=P->X.w=w->X.K=K->X.calm=true->∀(i:Nat) (Xg:List (Tu×Obj)) (s:S8) (σ:St) (H:Hp) (E:S5->S8->Prop),dN X Xg σ H s->(∀b∈fp,gf X Xg H b)->tn i s.heap->J.go i H->
  Tc (model P w) X.A (Vq (.ref it)) (λr s1=>∃u,r=!u/\
   Tc (model P w) X.A (Vr tg (.ref it) u) (λ_ s2=>∃x H',dN X Xg σ H' s2/\hB x u/\J.yld i H x H'/\tn (i+1) s2.heap/\∀b∈fp,H' b=none) E s1) E s
 done : ∀ (X : Cx), X.prog = P → X.w = w → X.K = K → X.calm = true → ∀ (i : Nat) (Xg : List (Tu × Obj)) (s : S8) (σ : St) (H : Hp) (E : S5 → S8 → Prop), dN X Xg σ H s → (∀ b ∈ fp, gf X Xg H b) → tn i s.heap → J.stop i H →
   Tc (model P w) X.A (Vq (.ref it)) (λr s1=>r=none/\dN X Xg σ H s1) E s
 self:∀(A:Tj) (i:Nat) (s:S8) (Q:S5->S8->Prop) (E:S5->S8->Prop),tn i s.heap->Q (.ref it) s->Tc (model P w) A (pyIter (.ref it)) Q E s
abbrev TI:=St->Hp->(It->Hp->Prop)->Prop
def PIE(X:Cx)(d:List (Tu×Obj))(σ:St)(tg:Expr)(R:It->Hp->Prop)(a:S5)(e:S8):Prop:=
 ∃(f:Tu) (h:List Tu) (i:Nat->Heap->Prop) (J:It) (c:Hp),a=.ref f/\dN X d σ c e/\om X.prog X.w X.K tg J h f i/\i 0 e.heap/\(∀b∈h,gf X d c b)/\R J c
def PI(X:Cx)(tg a:Expr)(c:TI):Prop:=
 ∀(b:List (Tu×Obj)) (s:S8) (σ:St) (H:Hp) (R:It->Hp->Prop),dN X b σ H s->c σ H R->
  Tc (model X.prog X.w) X.A (eval a X.env) (λv d=>Tc (model X.prog X.w) X.A (pyIter v) (PIE X b σ tg R) X.xe d) X.xe s
def tQ(b:s.heap.get? it=!o)(hc:o.cls=.type n)(c:o.data=.fields vs) (hn:["enumerate","zip","dict_itemiterator","dict_reverseitemiterator","odict_iterator","itertools.zip_longest","itertools.pairwise"].contains n=false) (a:Q () s):Tc M A (Vr tg (.ref it) u) Q E s:=by
 cases tg<;>first
  |exact S7 a
  | (cases u<;>first
   |exact S7 a
   | (refine S4 (wpAny_load b ?_)
      rw[hc,c];show Tc M A (if(["enumerate","zip","dict_itemiterator","dict_reverseitemiterator","odict_iterator","itertools.zip_longest","itertools.pairwise"].contains n&&vs[0]? == !(VO _))=true then _ else _) Q E s;rw[Xe (by intro h;rw[hn]at h;cases h)];exact S7 a))
def Zy(K:RP)(a:Tu):It:=
 {λi H=>∃b x,ip K H a b/\b[i]? =!x,λi H x c=>c=H/\∀b,ip K H a b->b[i]? =!x,λi H=>∃b,ip K H a b/\b.length<=i}
def Z1(K:RP)(a:Tu):It:=
 {λi H=>∃b x,qu K H a b/\b[i]? =!x,λi H x c=>c=H/\∀b,qu K H a b->b[i]? =!x,λi H=>∃b,qu K H a b/\b.length<=i}
def Zk(lo:Int)(n:Nat):It:={λi _=>i<n,λi H x a=>a=H/\x=.int (lo+i),λi _=>n<=i}
def rR{K:RP}(a f:Tu):om P w K tg (Zy K a) [f] f (λi h=>h.IsListIter f a i) where
 mem:=by simp
 obj:=λi h st b j=>by have e:b=f:= ~~~j;subst e;let{o,e,c,d}:=st;exact{o,e,λv z=>by rw[d]at z;cases z}
 keep:=λi h q st k=>st.at λo e=>k f eq o e
 item:=by intro X A hw B hc i S s σ H E I r st C;subst A hw B;let{T,x,y,F}:=C;let{G,J,p,U}:=I.list y;let{u,W,Y}:=J.get F;let{M,N,Z,O,Q,R}:=r f eq;refine Uw st p.isList (~~~W) λq n sb=>?_;have I1:dN X S σ H {s with heap:=q}:=I.turned (λb o j e=>(sb.2 b j).trans e) M N O Q R;let{o,e,c,d}:=id n;exact{u,rfl,tQ (s:={s with heap:=q}) e c d Xs {x,H,I1,Y,{rfl,λys hy=>by rw[I.bh hy y];exact F},n,λb j=>(r b j).1}}
 done := by intro X A hw B hc i S s σ H E I r st C;subst A hw B;let{T,y,F}:=C;let{G,J,p,U}:=I.list y;let{M,N,Z,O,Q,R}:=r f eq;have hl:=J.length;exact UC (I.ok.hd hc) st p.isList (by simp;ext) λq eb=>{rfl,I.turned (λb o j e=>eb b o j e) M N O Q R}
 self:=λ_ _ _ _ _ st h=>wpAny_pyIter_listiter st h
def pc{K:RP}(a f:Tu):om P w K tg (Z1 K a) [f] f (λi h=>h.IsTupleIter f a i) where
 mem:=by simp
 obj:=λi h st b j=>by have e:b=f:= ~~~j;subst e;let{o,e,c,d}:=st;exact{o,e,λv z=>by rw[d]at z;cases z}
 keep:=λi h q st k=>st.at λo e=>k f eq o e
 item:=by intro X A hw B hc i S s σ H E I r st C;subst A hw B;let{T,x,y,F}:=C;let{G,J,p,U}:=I.tuple y;let{u,W,Y}:=J.get F;let{M,N,Z,O,Q,R}:=r f eq;refine wpAny_pyNext_tuple_item st (p) (~~~W) λq n sb=>?_;have I1:dN X S σ H {s with heap:=q}:=I.turned (λb o j e=>(sb.2 b j).trans e) M N O Q R;let{o,e,c,d}:=id n;exact{u,rfl,tQ (s:={s with heap:=q}) e c d Xs {x,H,I1,Y,{rfl,λys hy=>by rw[I.bv hy y];exact F},n,λb j=>(r b j).1}}
 done := by intro X A hw B hc i S s σ H E I r st C;subst A hw B;let{T,y,F}:=C;let{G,J,p,U}:=I.tuple y;let{M,N,Z,O,Q,R}:=r f eq;have hl:=J.length;exact wpAny_pyNext_tuple_end (I.ok.hd hc) st (p) (by simp;ext) λq eb=>{rfl,I.turned (λb o j e=>eb b o j e) M N O Q R}
 self:=λ_ _ _ _ _ st h=>wpAny_pyIter_tupleiter st h
def yk{K:RP}(a:Tu)(lo:Int)(n:Nat):om P w K tg (Zk lo n) [a] a (λi h=>IsRangeIter h a (lo+(i:Nat)*1) ((n:Int)-(i:Nat)) 1) where
 mem:=by simp
 obj:=λi h st b c=>by have e:b=a:= ~~~c;subst e;exact{_,st,λv z=>by have G:=z;cases G}
 keep:=λi h f st k=>k a eq _ st
 item:=by intro X A hw B hc i C s σ H E I j st p;subst A hw B;let{q,r,J,u,x,y}:=j a eq;have W:=Walks.range (prog:=X.prog) (w:=X.w) (I.ok.hd hc) a lo 1 n;refine W.item i s _ _ p st λv f F M d N=>?_;let{t,rfl}:=M;have O:dN X C σ H {s with heap:=f,toks:=F}:=I.turned (λb o c e=>N b o (~~~c) e) q r u x y;refine{_,rfl,tQ (s:={s with heap:=f,toks:=F}) d rfl rfl Xs {.int (lo+i),H,O,{t,?_},{(rfl),rfl},d,λb c=>(j b c).1}};rw[Int.mul_one]
 done := by intro X A hw B hc i C s σ H E I j st p;let{q,r,J,u,x,y}:=j a eq;exact wpAny_pyNext_range_end (I.ok.hd hc) st (by have:n<=i:=p;ext) λf Q=>{rfl,I.turned (λb o c e=>Q b o c e) q r u x y}
 self:=λ_ _ _ _ _ st h=>wpAny_pyIter_rangeiter st h
section
variable{X:Cx}{tg:Expr}
def cC(K:RP)(c:TE):TI:=λσ H R=>c σ H λx b=>∃a,x=.ref a/\(∃d,ip K b a d)/\R (Zy K a) b
def yl(K:RP)(c:TE):TI:=λσ H R=>c σ H λx b=>∃a,x=.ref a/\(∃d,qu K b a d)/\R (Z1 K a) b
def bC(hl:PE X l tl):PI X tg l (cC X.K tl):=by intro f s σ H R I h;refine thn (hl f s σ H _ I h) λv d z=>?_;let{x,i,c,j,n}:=z;let{a,e,{A,r},q}:=n;subst e;cases j;let{u,B,p,C}:=c.list r;apply Uj p.isList;refine{d.heap.objs.size,[d.heap.objs.size],_,_,i,rfl,c.kept λb o e=>QK _ e,rR a _,{_,QR _ rfl,rfl,rfl},λb y=>?_,q};have e:b=d.heap.objs.size:= ~~~y;subst e;exact c.ar (Xm _) (c.hok.fresh (Xm _))
def pe(hl:PE X l tl):PI X tg l (yl X.K tl):=by intro f s σ H R I h;refine thn (hl f s σ H _ I h) λv d z=>?_;let{x,i,c,j,n}:=z;let{a,e,{A,r},q}:=n;subst e;cases j;let{u,B,p,C}:=c.tuple r;apply T0 (p);refine{d.heap.objs.size,[d.heap.objs.size],_,_,i,rfl,c.kept λb o e=>QK _ e,pc a _,{_,QR _ rfl,rfl,rfl},λb y=>?_,q};have e:b=d.heap.objs.size:= ~~~y;subst e;exact c.ar (Xm _) (c.hok.fresh (Xm _))
def ul{σ:St}{lo:Int}(I:dN X Xg σ H s)(c: -(2^62)<=lo)(d:lo<2^62)(f: -(2^62)<=hi)(h:hi<2^62) (q:R (Zk lo (hi-lo).toNat) H):Tc (model X.prog X.w) X.A (pyIter (.ref s.heap.objs.size)) (PIE X Xg σ tg R) E {s with heap:=s.heap.push {cls:=.type "range",data:=.fields #[.int lo t,.int hi u,.int 1 v]},toks:=tk}:=by
 apply wpAny_pyIter_range (IsRange.new ..) (small_one c d f h);have a:dN X Xg σ H {s with heap:=s.heap.push {cls:=.type "range",data:=.fields #[.int lo t,.int hi u,.int 1 v]},toks:=tk}:=I.kept λb o e=>QK _ e;refine{(s.heap.push {cls:=.type "range",data:=.fields #[.int lo t,.int hi u,.int 1 v]}).objs.size,[(s.heap.push {cls:=.type "range",data:=.fields #[.int lo t,.int hi u,.int 1 v]}).objs.size],_,_,H,rfl,
  a.kept λb o e=>QK _ e,yk _ lo (hi-lo).toNat,?_,λb i=>?_,q}
 .have e1:lo+((0:Nat):Int)*1=lo:=by simp
  have e2:(((hi-lo).toNat:Nat):Int)-((0:Nat):Int)=Th.Range.rangeSize lo hi 1:=by rw[rangeSize_one];split<;>ext
  rw[e1,e2];exact QR _ rfl
 .have e:b=(s.heap.push {cls:=.type "range",data:=.fields #[.int lo t,.int hi u,.int 1 v]}).objs.size:= ~~~i;subst e;exact a.ar (Xm _) (a.hok.fresh (Xm _))
def ym(a:TA):TI:=λσ H R=>a σ H λb c=>∃j:Int,b= [.int j]/\ -(2^62)<=j/\j<2^62/\R (Zk 0 j.toNat) c
def Ec(a:TA):TI:=λσ H R=>a σ H λb c=>∃i j:Int,b= [.int i,.int j]/\(-(2^62)<=i/\i<2^62/\ -(2^62)<=j/\j<2^62)/\R (Zk i (j-i).toNat) c
def kZ(c:Gl X "range")(d:X.mg "range" =none)(f:PA X [a] ta)(hs:‹Te [a] X.env= [(false,eval a X.env)]›):PI X tg (.Call (.Name "range" p) [a] [] pos) (ym ta):=by
 intro i s σ H R I h;refine Call_ (gJ I c d boot_range (Tq (thn (f pos i s σ H _ I h) λx y z=>?_) hs rfl));let{A,B,n,o,b}:=z;let{j,e,b,u,q}:=b;subst e;cases o with
 |cons r v=>cases v;let{t,rfl}:=r;exact call_range_1 (ul n Xu Xu b u (~~~q))
def Aa{p pos:Pos}(n:Gl X "range")(o:X.mg "range" =none)(u:PA X [a,b] ta)(hs:‹Te [a,b] X.env= [(false,eval a X.env),(false,eval b X.env)]›)(c:‹Te [b] X.env= [(false,eval b X.env)]›):
 PI X tg (.Call (.Name "range" p) [a,b] [] pos) (Ec ta):=by
 intro v s σ H R I h;refine Call_ (gJ I n o boot_range (Tq (thn (u pos v s σ H _ I h) λF G z=>?_) (by rw[hs,c]) (by rw[c];rfl)));let{J,K,x,y,d}:=z;let{i,j,e,{d,A,B,C},q}:=d;subst e;cases y with
 |cons r f=>
  cases f with
  |cons E f=>cases f;let{t,rfl}:=r;let{M,rfl}:=E;exact call_range_2 (ul x d A B C q)
def yn(d:TI)(g:TG)(e:TS):TS:=λD σ H=>d σ H λJ f=>∃W:Nat->Nat->St->Hp->Prop,(∃m,W 0 m σ f)/\∀i m σ H,W i m σ H->
 (J.stop i H/\D.nx σ H)\/(J.go i H/\∃N:St->Hp->Prop,(∀b a,N b a->∃c,c<m/\W (i+1) c b a)/\∀x a,J.yld i H x a->g x σ a λh j=>e {D with nx:=N,ct:=N,bk:=D.nx} h j)
def lj(a:List Tu)(h:Heap):List (Tu×Obj):=a.filterMap λb=>(h.get? b).map λo=>(b,o)
def iu(a:b∈fp)(e:h.get? b=!o):(b,o)∈lj fp h:=List.mem_filterMap.mpr {b,a,by rw[e];rfl}
def Ab(a:p∈lj fp h):p.1∈fp/\h.get? p.1=!p.2:=by
 let{b,c,e}:=List.mem_filterMap.mp a;cases q:h.get? b with
 |none=>simp_all
 |some o=>rw[q]at e;have d:=Xr e;subst d;exact{(c),q}
theorem dN.pinned{σ:St}(I:dN X Xg σ H s)(f:∀b∈fp,gf X Xg H b)(h:∀b∈fp,∃o,s.heap.get? b=!o/\∀v,o.data≠.cell v):dN X (Xg++lj fp s.heap) σ H s:=
 I.bo λp i=>(Xk i).elim (λz=>I.pin p (QS _ z)) λz=>by let{a,e}:=Ab z;let{j,n,q,_}:=f p.1 a;let{o,c,d}:=h p.1 a;rw[e]at c;cases c;exact{(e),j,n,q,d}
def dN.au{σ:St}(I:dN X (Xg++pl) σ H s):dN X Xg σ H s:=I.bo λp a=>I.pin p (QS _ (Q9 _ a))
def cE(G:Tl (model X.prog X.w) X.A X.env X.xe)(hc:X.calm=true)(hi:PI X tg iter wi)(hg:PG X tg g)(a:XM X body tb) (hs:autoParam (∀x,T5 iter X.env x=pure x) _ai):PS X (.For tg iter body [] pos) (yn wi g tb):=by
 intro E s σ H D I h;refine wpAny_For (thn (hi E s σ H _ I h) λv s1 h1=>thn h1 λa1 s2 h2=>?_) hs;let{it,K,tn,J,H2,e,I2,T,U,f2,W,{m0,w0},turn}:=h2;subst e
 -- what stays true of the iterator's objects through the loop
 have p:∀{B:Hp},(∀b∈K,B b=none)->∀b∈K,gf X E B b:=λhn b a=>{hn b a,(f2 b a).2}
 refine codeAny_forLoop_any (λn s'=>∃i M B,dN X E M B s'/\tn i s'.heap/\(∀b∈K,B b=none)/\W i n M B) ?_ m0 {0,σ,H2,I2,U,λb a=>(f2 b a).1,w0};rintro n s3 ⟨i,O,S,I3,P,Q,w3⟩;rcases turn i n O S w3 with ⟨stop,qn⟩|⟨go,N,hN,step⟩
 .refine T4 G (thn (T.done X rfl rfl rfl hc i E s3 O S X.xe I3 (p Q) P stop) λr s4 yy=>?_);let{Y,I4}:=yy;subst Y;exact UN {(O),S,I4,qn}
 .refine T4 G (thn (T.item X rfl rfl rfl hc i E s3 O S X.xe I3 (p Q) P go) λr s4 zz=>?_);let{u,Y,h4}:=zz;subst Y;refine T4 G (thn h4 λ_ s5 y=>?_);let{x,H5,I5,r5,y5,F,Z}:=y;have a0:=I5.pinned (p Z) (T.obj _ _ F);refine T4 G (thn (hg _ s5 O H5 x u _ a0 r5 (step x H5 y5)) λ_ s6 z=>?_);let{σ6,H6,I6,q6}:=z;refine T4 G (thn (a _ s6 σ6 H6 _ I6 q6) λf s7 C=>?_);have q:∀{c:St} {j:Hp},dN X (E++lj K s5.heap) c j s7->N c j->∃m,m<n/\∃i M B,dN X E M B s7/\tn i s7.heap/\(∀b∈K,B b=none)/\W i m M B:=λ{c j} A R=>by let{m',hm,w7}:=hN c j R;refine{m',hm,i+1,c,j,A.au,T.keep _ _ _ F λb a o e=>(A.pin (b,o) (QS _ (QS _ (iu a e)))).1,λb a=>?_,w7};let{o,e,d}:=T.obj _ _ F b a;exact(A.pin (b,o) (QS _ (QS _ (iu a e)))).2.1
  cases f with
  |next=>let{c,j,A,R}:=C;exact q A R
  |cont=>let{c,j,A,R}:=C;exact q A R
  |brk=>let{c,j,A,C}:=C;exact{(c),j,A.au,C}
  |ret v=>let{x7,c,j,A,r7,C}:=C;exact{(x7),c,j,A.au,r7,C}
end
def cQ{K:RP}{g:TG}{j:TS}{D:hX}(b:Nat->St->Hp->Prop)(o:b 0 σ H)(hl:∀i σ H,i<=xs.length->b i σ H->ip K H a xs) (hs:∀i x σ H,xs[i]? =!x->b i σ H->g x σ H λf H2=>j {D with nx:=b (i+1),ct:=b (i+1),bk:=D.nx} f H2) (r:∀σ H,b xs.length σ H->D.nx σ H):
 ∃W:Nat->Nat->St->Hp->Prop,(∃m,W 0 m σ H)/\∀i m σ H,W i m σ H->
  ((Zy K a).stop i H/\D.nx σ H)\/((Zy K a).go i H/\∃N,(∀h c,N h c->∃n,n<m/\W (i+1) n h c)/\∀x c,(Zy K a).yld i H x c->g x σ c λf H2=>j {D with nx:=N,ct:=N,bk:=D.nx} f H2):=by
 refine{λi m σ H=>m=xs.length-i/\i<=xs.length/\b i σ H,{xs.length,by simp,Ra _,o},?_};rintro i m σ H ⟨rfl,u,p⟩;have q:=hl i σ H u p;by_cases d:i<xs.length;.refine .inr {{xs,xs[i],q,by simp[d]},b (i+1),λh c v=>{xs.length-(i+1),by ext,rfl,d,v},λx c y=>?_};let{e,y}:=y;subst e;exact hs i x σ _ (y xs q) p
 .have e:i=xs.length:=by ext
  subst e;exact .inl {{xs,q,Xm _},r σ H p}
def wO{K:RP}{g:TG}{j:TS}{D:hX}(b:Nat->St->Hp->Prop)(o:b 0 σ H)(hl:∀i σ H,i<=xs.length->b i σ H->qu K H a xs) (hs:∀i x σ H,xs[i]? =!x->b i σ H->g x σ H λf H2=>j {D with nx:=b (i+1),ct:=b (i+1),bk:=D.nx} f H2) (r:∀σ H,b xs.length σ H->D.nx σ H):
 ∃W:Nat->Nat->St->Hp->Prop,(∃m,W 0 m σ H)/\∀i m σ H,W i m σ H->
  ((Z1 K a).stop i H/\D.nx σ H)\/((Z1 K a).go i H/\∃N,(∀h c,N h c->∃n,n<m/\W (i+1) n h c)/\∀x c,(Z1 K a).yld i H x c->g x σ c λf H2=>j {D with nx:=N,ct:=N,bk:=D.nx} f H2):=by
 refine{λi m σ H=>m=xs.length-i/\i<=xs.length/\b i σ H,{xs.length,by simp,Ra _,o},?_};rintro i m σ H ⟨rfl,u,p⟩;have q:=hl i σ H u p;by_cases d:i<xs.length;.refine .inr {{xs,xs[i],q,by simp[d]},b (i+1),λh c v=>{xs.length-(i+1),by ext,rfl,d,v},λx c y=>?_};let{e,y}:=y;subst e;exact hs i x σ _ (y xs q) p
 .have e:i=xs.length:=by ext
  subst e;exact .inl {{xs,q,Xm _},r σ H p}
def rS{lo:Int}{g:TG}{h:TS}{D:hX}(a:Nat->St->Hp->Prop)(o:a 0 σ H) (hs:∀i σ H,i<n->a i σ H->g (.int (lo+i)) σ H λd H2=>h {D with nx:=a (i+1),ct:=a (i+1),bk:=D.nx} d H2) (q:∀σ H,a n σ H->D.nx σ H):
 ∃W:Nat->Nat->St->Hp->Prop,(∃m,W 0 m σ H)/\∀i m σ H,W i m σ H->
  ((Zk lo n).stop i H/\D.nx σ H)\/((Zk lo n).go i H/\∃N,(∀f b,N f b->∃j,j<m/\W (i+1) j f b)/\∀x b,(Zk lo n).yld i H x b->g x σ b λd H2=>h {D with nx:=N,ct:=N,bk:=D.nx} d H2):=by
 refine{λi m σ H=>m=n-i/\i<=n/\a i σ H,{n,by simp,Ra _,o},?_};rintro i m σ H ⟨rfl,u,p⟩;by_cases c:i<n;.refine .inr {c,a (i+1),λf b r=>{n-(i+1),by ext,rfl,c,r},λx b y=>?_};let{e,y}:=y;subst e y;exact hs i σ _ c p
 .have e:i=n:=by ext
  subst e;exact .inl {Xm _,q σ H p}
abbrev R2:=V->V->Hp->VK->Prop
def NF(X:Cx)(f:S5->S5->Sem S5)(r:R2):Prop:=
 ∀(a:List (Tu×Obj)) (s:S8) (σ:St) (H:Hp) (x y:V) (v u:S5) (Q:VK),dN X a σ H s->hB x v->hB y u->r x y H Q->
  Tc (model X.prog X.w) X.A (f v u) (EP X a σ Q) X.xe s
def UnR(X:Cx)(f:S5->Sem S5)(r:V->Hp->VK->Prop):Prop:=
 ∀(a:List (Tu×Obj)) (s:S8) (σ:St) (H:Hp) (x:V) (v:S5) (Q:VK),dN X a σ H s->hB x v->r x H Q->
  Tc (model X.prog X.w) X.A (f v) (EP X a σ Q) X.xe s
def bH(X:Cx)(f:S5)(r:List V->Hp->VK->Prop):Prop:=
 ∀(a:List (Tu×Obj)) (s:S8) (σ:St) (H:Hp) (b:List V) (c:List S5) (Q:VK),dN X a σ H s->eC b c->r b H Q->
  Tc (model X.prog X.w) X.A (call f c) (EP X a σ Q) X.xe s
def MH(X:Cx)(r:V->Hp->(Bool->Hp->Prop)->Prop):Prop:=
 ∀(a:List (Tu×Obj)) (s:S8) (σ:St) (H:Hp) (x:V) (v:S5) (Q:Bool->Hp->Prop),dN X a σ H s->hB x v->r x H Q->
  Tc (model X.prog X.w) X.A (truthy v) (TP X a σ Q) X.xe s
def XJ(r:R2)(a b:TE):TE:=λσ H Q=>a σ H λx c=>b σ c λy d=>r x y d Q
def tUn(r:V->Hp->VK->Prop)(a:TE):TE:=λσ H Q=>a σ H λx b=>r x b Q
def rI(C:Int->Int->Prop)(g:Int->Int->V):R2:=λx y H Q=>∃i j,x=.int i/\y=.int j/\C i j/\Q (g i j) H
def YG(g:Int->Int->V):R2:=λx y H Q=>∃i j,x=.int i/\y=.int j/\Q (g i j) H
def rU(g:Int->V):V->Hp->VK->Prop:=λx H Q=>∃i,x=.int i/\Q (g i) H
section
variable{X:Cx}{a b c:Expr}{ta tb tc:TE}{pos:Pos}
def BU(j:PE X a ta)(n:PE X b tb){σ:St}{R:V->V->Hp->Prop}(I:dN X Xg σ H s) (h:ta σ H λx e=>tb σ e λy H2=>R x y H2) {f:S5->S5->Sem S5}
 (o:∀v u d x y H2,dN X Xg σ H2 d->hB x v->hB y u->R x y H2->Tc (model X.prog X.w) X.A (f v u) Q X.xe d):
 Tc (model X.prog X.w) X.A (eval a X.env) (λv p=>Tc (model X.prog X.w) X.A (eval b X.env) (λu q=>Tc (model X.prog X.w) X.A (f v u) Q X.xe q) X.xe p) X.xe s:=by
 refine thn (j Xg s σ H _ I h) λv r i=>?_;let{x,e,z,A,B}:=i;refine thn (n Xg r σ e _ z B) λu d i=>?_;let{y,H2,C,E,F}:=i;exact o v u d x y H2 C A E F
def aM(d:NF X (UB op) r)(e:PE X a ta)(f:PE X b tb):PE X (.BinOp a op b pos) (XJ r ta tb):=by intro i s σ H Q I h;exact wpAny_BinOp (BU e f I h λv u j x y n o p z q=>d i j σ n x y v u Q o p z q)
def yo(e:UnR X (unaryOp op) r)(f:PE X a ta):PE X (.UnaryOp op a pos) (tUn r ta):=by intro d s σ H Q I h;exact UnaryOp_ (thn (f d s σ H _ I h) λv i z=>by let{x,j,n,o,p}:=z;exact e d i σ j x v Q n o p)
def opI{g:Int->Int->Int}
 (d:∀(i j:Int) (t u:Tok) (s:S8) (Q:S5->S8->Prop) (E:S5->S8->Prop),C i j->Q (.int (g i j) s.toks) {s with toks:=s.toks+1}->Tc (model X.prog X.w) X.A (f (.int i t) (.int j u)) Q E s):
 NF X f (rI C λi j=>.int (g i j)):=by
 intro p s σ H x y v u Q I e n h;let{i,j,rfl,rfl,hc,q}:=h;let{t,rfl}:=e;let{o,rfl}:=n;exact d i j t o s _ _ hc {.int (g i j),H,I.tok _,{_,rfl},q}
def Ie{g:Int->Int->Int}
 (d:∀(i j:Int) (t u:Tok) (s:S8) (Q:S5->S8->Prop) (E:S5->S8->Prop),Q (.int (g i j) s.toks) {s with toks:=s.toks+1}->Tc (model X.prog X.w) X.A (f (.int i t) (.int j u)) Q E s):
 NF X f (YG λi j=>.int (g i j)):=by
 intro p s σ H x y v u Q I e n h;let{i,j,rfl,rfl,q}:=h;let{t,rfl}:=e;let{o,rfl}:=n;exact d i j t o s _ _ {.int (g i j),H,I.tok _,{_,rfl},q}
def BV{g:Int->Int->Bool}
 (d:∀(i j:Int) (t u:Tok) (s:S8) (Q:S5->S8->Prop) (E:S5->S8->Prop),Q (.bool (g i j)) s->Tc (model X.prog X.w) X.A (f (.int i t) (.int j u)) Q E s):
 NF X f (YG λi j=>.bl (g i j)):=by
 intro p s σ H x y v u Q I e n h;let{i,j,rfl,rfl,q}:=h;let{t,rfl}:=e;let{o,rfl}:=n;exact d i j t o s _ _ {.bl (g i j),H,I,rfl,q}
def Ig(i j:Int):Prop:=0<j/\j<1073741824
def Ih(i j:Int):Prop:=0<=j/\j<=1000000/\i.natAbs<2^64
def ZJ(i j:Int):Prop:=(-(2^64)<i/\i<2^64)\/(-(2^64)<j/\j<2^64)
theorem ZJ.ok(h:ZJ i j):IntMulOk i j:=by
 rcases h with ⟨d,e⟩|⟨d,e⟩
 .exact .of_left (intBits_le_64 d e)
 .exact .of_right (intBits_le_64 d e)
def bE:NF X (UB .Add) (YG λi j=>.int (i+j)):=Ie λ_ _ _ _ _ _ _ q=>add_int q
def dF:NF X (UB .Sub) (YG λi j=>.int (i-j)):=Ie λ_ _ _ _ _ _ _ q=>sub_int q
def jF:NF X (UB .Mult) (rI ZJ λi j=>.int (i*j)):=opI λ_ _ _ _ _ _ _ hc q=>mul_int q hc.ok
def jG:NF X (UB .FloorDiv) (rI Ig λi j=>.int (i/j)):=opI λi j _ _ _ _ _ hc q=>by have d:=hc.1;have e:=hc.2;exact floordiv_int Xu (by rw[Int.fdiv_eq_ediv_of_nonneg i Xu];exact q) (.inl (PyProof.noPylong_small Xu))
def eX:NF X (UB .Mod) (rI (λ_ j=>0<j) λi j=>.int (i%j)):=opI λi j _ _ _ _ _ hc q=>by exact mod_int' Xu (by rw[Int.fmod_eq_emod_of_nonneg i Xu];exact q)
def Ii:NF X (UB .Pow) (rI Ih λi j=>.int (i^j.toNat)):=opI λ_ _ _ _ _ _ _ hc q=>pow_int_small hc.1 hc.2.1 hc.2.2 q
def unI{g:Int->Int}
 (d:∀(i:Int) (t:Tok) (s:S8) (Q:S5->S8->Prop) (E:S5->S8->Prop),Q (.int (g i) s.toks) {s with toks:=s.toks+1}->Tc (model X.prog X.w) X.A (f (.int i t)) Q E s):
 UnR X f (rU λi=>.int (g i)):=by
 intro j s σ H x v Q I e h;let{i,rfl,q}:=h;let{t,rfl}:=e;exact d i t s _ _ {.int (g i),H,I.tok _,{_,rfl},q}
def um:UnR X (unaryOp .USub) (rU λi=>.int (-i)):=unI λ_ _ _ _ _ q=>neg_int q
end
def hY:V->V->Bool
 |.non,.non=>true | .non,.int _=>true | .int _,.non=>true | .non,.bl _=>true | .bl _,.non=>true | .non,.str _=>true | .str _,.non=>true
 |.int _,.int _=>true | .bl _,.bl _=>true | .str _,.str _=>true | .byt _,.byt _=>true
 |.int _,.str _=>true | .str _,.int _=>true | .bl _,.str _=>true | .str _,.bl _=>true
 |_,_=>false
def _O:R2:=λx y H Q=>hY x y=true/\Q (.bl (decide (x=y))) H
def _1:R2:=λx y H Q=>hY x y=true/\Q (.bl ((not (decide (x=y))))) H
def wP:decide (V.int i=V.int j)=(i==j):=by rw[Bool.eq_iff_iff];simp
def Ac:decide (V.bl i=V.bl j)=(i==j):=by rw[Bool.eq_iff_iff];simp
def wQ:decide (V.str i=V.str j)=(i==j):=by rw[Bool.eq_iff_iff];simp
def wR:decide (V.byt i=V.byt j)=(i.toList==j.toList):=by rw[Bool.eq_iff_iff];cases i;cases j;simp
section
variable{X:Cx}{a b c:Expr}{ta tb tc:TE}{pos:Pos}
def a6{σ:St}(I:dN X Xg σ H s)(q:Q (.bl k) H)(e:k=k'):EP X Xg σ Q (.bool k') s:=by subst e;exact{.bl k,H,I,rfl,q}
def a7:NF X (TD .Eq) _O:=by
 intro n s σ H x y v u Q I f d h;let{hs,q}:=h;cases x with
 |non=>
  cases f;cases y with
  |non=>cases d;exact Wm (a6 I q eq)
  |bl j=>cases d;exact Wn (a6 I q eq)
  |int j=>let{e,rfl}:=d;exact WG (a6 I q eq)
  |str j=>let{e,rfl}:=d;exact WH (a6 I q eq)
  |_=>exact absurd (hs) Xp
 |bl i=>
  cases f;cases y with
  |non=>cases d;exact Wp (a6 I q eq)
  |bl j=>cases d;exact eq_bool (a6 I q Ac)
  |str j=>let{e,rfl}:=d;exact Wq (a6 I q eq)
  |_=>exact absurd (hs) Xp
 |int i=>
  let{t,rfl}:=f;cases y with
  |non=>cases d;exact WI (a6 I q eq)
  |int j=>let{e,rfl}:=d;exact eq_int (a6 I q wP)
  |str j=>let{e,rfl}:=d;exact WJ (a6 I q eq)
  |_=>exact absurd (hs) Xp
 |str i=>
  let{t,rfl}:=f;cases y with
  |non=>cases d;exact WK (a6 I q eq)
  |bl j=>cases d;exact Wr (a6 I q eq)
  |int j=>let{e,rfl}:=d;exact WL (a6 I q eq)
  |str j=>let{e,rfl}:=d;exact eq_str (a6 I q wQ)
  |_=>exact absurd (hs) Xp
 |byt i=>
  let{t,rfl}:=f;cases y with
  |byt j=>let{e,rfl}:=d;exact PySem.W.eq_bytes (a6 I q wR)
  |_=>exact absurd (hs) Xp
 |_=>cases y<;>exact absurd (hs) Xp
def Lg:NF X (TD .NotEq) _1:=by
 intro n s σ H x y v u Q I f d h;let{hs,q}:=h;cases x with
 |non=>
  cases f;cases y with
  |non=>cases d;exact Ws (a6 I q eq)
  |bl j=>cases d;exact Wt (a6 I q eq)
  |int j=>let{e,rfl}:=d;exact WN (a6 I q eq)
  |str j=>let{e,rfl}:=d;exact WO (a6 I q eq)
  |_=>exact absurd (hs) Xp
 |bl i=>
  cases f;cases y with
  |non=>cases d;exact Wu (a6 I q eq)
  |bl j=>cases d;exact ne_bool (a6 I q (congrArg not Ac))
  |str j=>let{e,rfl}:=d;exact Wv (a6 I q eq)
  |_=>exact absurd (hs) Xp
 |int i=>
  let{t,rfl}:=f;cases y with
  |non=>cases d;exact WP (a6 I q eq)
  |int j=>let{e,rfl}:=d;exact ne_int (a6 I q (congrArg not wP))
  |str j=>let{e,rfl}:=d;exact WQ (a6 I q eq)
  |_=>exact absurd (hs) Xp
 |str i=>
  let{t,rfl}:=f;cases y with
  |non=>cases d;exact WR (a6 I q eq)
  |bl j=>cases d;exact Ww (a6 I q eq)
  |int j=>let{e,rfl}:=d;exact WS (a6 I q eq)
  |str j=>let{e,rfl}:=d;exact ne_str (a6 I q (congrArg not wQ))
  |_=>exact absurd (hs) Xp
 |byt i=>
  let{t,rfl}:=f;cases y with
  |byt j=>let{e,rfl}:=d;exact PySem.W.ne_bytes (a6 I q (congrArg not wR))
  |_=>exact absurd (hs) Xp
 |_=>cases y<;>exact absurd (hs) Xp
def jd:NF X (TD .Lt) (YG λi j=>.bl (decide (i<j))):=BV λ_ _ _ _ _ _ _ q=>lt_int q
def tR:NF X (TD .LtE) (YG λi j=>.bl (decide (i<=j))):=BV λ_ _ _ _ _ _ _ q=>le_int q
def gB:NF X (TD .Gt) (YG λi j=>.bl (decide (j<i))):=BV λ_ _ _ _ _ _ _ q=>gt_int q
def uo:NF X (TD .Is) (λx y H Q=>y=.non/\Q (.bl (decide (x=.non))) H):=by
 intro f s σ H x y v u Q I d e h;let{rfl,q}:=h;cases e;refine is_none_gen (a6 I q ?_);cases x<;>first
  |(cases d;rfl)
  |(let{t,rfl}:=d;rfl)
def qG:NF X (TD .IsNot) (λx y H Q=>y=.non/\Q (.bl ((not (decide (x=.non))))) H):=by
 intro f s σ H x y v u Q I d e h;let{rfl,q}:=h;cases e;refine isnot_none_gen (a6 I q ?_);cases x<;>first
  |(cases d;rfl)
  |(let{t,rfl}:=d;rfl)
def Ad(b:Expr)(h:(op≠.In)⁻¹)(d:(op≠.NotIn)⁻¹):Uh op b=false:=by
 have e1:(op==CmpOp.In)=false:=by cases op<;>first|rfl|exact absurd rfl h
 have e2:(op==CmpOp.NotIn)=false:=by cases op<;>first|rfl|exact absurd rfl d
 cases b<;>simp[Uh,e1,e2]
def E7(d:NF X (TD op) r)(e:PE X a ta)(f:PE X b tb)(i:Uh op b=false):PE X (.Compare a [op] [b] pos) (XJ r ta tb):=by intro j s σ H Q I h;exact wpAny_Compare1 (BU e f I h λv u n x y o p z A q=>d j n σ o x y v u Q p z A q) i
def mG(t:TE):TT:=λσ H Q=>t σ H λx d=>∃k,x=.bl k/\Q k d
def jH(f:NF X (TD op) r)(i:PE X a ta)(j:PE X b tb)(n:Uh op b=false):PT X (.Compare a [op] [b] pos) (mG (XJ r ta tb)):=by
 intro d s σ H Q I h;refine wpAny_isTrue_Compare1 (thn (i d s σ H _ I h) λv o ⟨x,p,q,A,B⟩=>thn (j d o σ p _ q B) λu C ⟨y,E,F,G,J⟩=>
  thn (f d C σ E x y v u _ F A G J) λc P ⟨z,K,M,N,k,e,O⟩=>?_) n
 subst e;cases N;exact Ui {(K),M,O}
def BW(K:RP)(x:V)(H:Hp)(k:Bool):Prop:=
 match x with
 |.non=>k=false
 |.bl b=>k=b
 |.int i=>k=(i != 0)
 |.str y=>y.length<=S6/\k=((y.length:Int) != 0)
 |.byt y=>y.size<=S6/\k=((y.size:Int) != 0)
 |.ref p=>(∃d,ip K H p d/\k= not d.isEmpty)\/(∃d,qu K H p d/\k= not d.isEmpty)\/∃e,H p=!(.dK e)/\k= not e.isEmpty
 |_=>False
theorem yq(r:KV kvs vs):(not vs.isEmpty)= not kvs.isEmpty:=by cases r<;>rfl
theorem pi(r:eC xs its):(not its.toArray.isEmpty)= not xs.isEmpty:=by cases r<;>simp
def lr:(S6:Nat)<2^63:=by decide
def Ij:MH X (λx H Q=>∃k,BW X.K x H k/\Q k H):=by
 intro F s σ H x v Q I f h;let{k,e,q}:=h;have hs:=Va;cases x with
 |non=>cases f;have d:=e;subst d;exact truthy_none {(H),I,q}
 |bl b=>cases f;have d:=e;subst d;exact Ui {(H),I,q}
 |int i=>let{t,rfl}:=f;have d:=e;subst d;exact PySem.P.truthy_int {(H),I,q}
 |str y=>let{t,rfl}:=f;obtain⟨B,d⟩:y.length<=S6/\k=((y.length:Int) != 0):=e;subst d;exact PySem.P.truthy_str Xu {H,I.tok _,q}
 |byt y=>let{t,rfl}:=f;obtain⟨B,d⟩:y.size<=S6/\k=((y.size:Int) != 0):=e;subst d;exact PySem.W.truthy_bytes Xu {H,I.tok _,q}
 |ref p=>
  cases f;have d:=e;rcases d with ⟨C,j,d⟩|⟨C,j,d⟩|⟨n,j,d⟩
  .subst d;let{o,r,pl,z}:=I.list j;have A:=r.length;exact wpAny_truthy_list pl.isList (by simp only[Q2];ext) {H,I.tok _,by rw[pi r];exact q}
  .subst d;let{o,r,pl,z}:=I.tuple j;have A:=r.length;exact truthy_tuple pl (by simp only[Q2];ext) {H,I.tok _,by rw[pi r];exact q}
  .subst d;obtain⟨z,E,u,r,m⟩:n.length<=S6/\(p==TK)=false/\∃u,KV n u/\s.heap.DictOf (aF X.prog X.w) p u:=I.hok p _ j;have A:=UM.length r;exact wpAny_truthy_dict E m Xu {H,I.tok _,by rw[yq r];exact q}
 |_=>exact(e).elim
def dz(i:PE X a ta)(j:∀d,WX a X.env d=(do let v <-d;U9 a.pos;holding [v] (truthy v))):PT X a (λσ H Q=>ta σ H λx e=>∃k,BW X.K x e k/\Q k e):=by
 intro f s σ H Q I h;exact isTrue_plain (thn (i f s σ H _ I h) λv n z=>by let{x,o,p,q,r}:=z;exact Ij f n σ o x v Q p q r) (j _)
def d6(r:eC [x] us):∃u,us= [u]/\hB x u:=by
 cases r with
 |cons d e=>cases e;exact{_,rfl,d}
def pj(r:eC [x,y] us):∃u d,us= [u,d]/\hB x u/\hB y d:=by
 cases r with
 |cons e f=>
  cases f with
  |cons h i=>cases i;exact{_,_,rfl,e,h}
def BX:bH X (.builtin "abs") (λxs H Q=>∃i,xs= [.int i]/\Q (.int (if i<0 then -i else i)) H):=by intro d s σ H xs e Q I r h;let{i,rfl,q}:=h;let{u,rfl,t,rfl}:=d6 r;exact call_abs_int λu f=>{.int (if i<0 then -i else i),H,I.tok _,{_,rfl},q}
def rT(hc:X.calm=true):bH X (.builtin "max") (λxs H Q=>∃i j,xs= [.int i,.int j]/\Q (.int (if j>i then j else i)) H):=by
 intro e s σ H xs f Q I r h;let{i,j,rfl,q}:=h;let{u,n,rfl,{t,rfl},{o,rfl}}:=pj r;refine max_two_ints (I.ok.hd hc) λp v k=>{_,H,I.kept k,?_,q}
 by_cases d:j>i;.rw [Xf d,Xf d];exact{_,rfl}
 .rw [Xe d,Xe d];exact{_,rfl}
def rV(hc:X.calm=true):bH X (.builtin "min") (λxs H Q=>∃i j,xs= [.int i,.int j]/\Q (.int (if j<i then j else i)) H):=by
 intro e s σ H xs f Q I r h;let{i,j,rfl,q}:=h;let{u,n,rfl,{t,rfl},{o,rfl}}:=pj r;refine min_two_ints (I.ok.hd hc) λp v k=>{_,H,I.kept k,?_,q}
 by_cases d:j<i;.rw [Xf d,Xf d];exact{_,rfl}
 .rw [Xe d,Xe d];exact{_,rfl}
def Ae:bH X (.type "int") (λxs H Q=>(∃i,xs= [.int i]/\Q (.int i) H)\/∃k,xs= [.bl k]/\Q (.int (if k then 1 else 0)) H):=by
 intro e s σ H xs f Q I r h;rcases h with ⟨i,rfl,q⟩|⟨k,rfl,q⟩
 .let{u,rfl,t,rfl}:=d6 r;exact call_int_int {.int i,H,I,{_,rfl},q}
 .let{u,rfl,d}:=d6 r;cases d;exact call_int_bool {.int (if k then 1 else 0),H,I.tok _,{_,rfl},q}
end
structure Yr(h:Heap)(x dx C:Tu)(mA:VA->Option S5):Prop where
 obj:h.get? x=!(TY C dx)
 ns:h.Ns1 dx mA
 ne:dx≠x
def Af{h:Heap}(n:h.Ns1 dx mA):∃c,h.get? dx=!c/\∀name,UX name c=!(mA name):=by
 let{o,es,r,d,f,hk,_,i}:=n;refine{o,d,λname=>?_};have e:=i name;unfold nsFind findBy at e;rw[<-Array.find?_toList]at e;unfold UX;rw[f];dsimp only;split;.simp_all
 .rename_i q;rw[q]at e;have a:es.toList.any (·.refKey)=false:=by rw[List.any_eq_false];intro y j;let{z,t,b}:=hk y (Array.mem_toList_iff.mp j);simp[Vs.refKey,b]
  have p:¬es.toList.any (·.refKey)=true:=by rw[a];exact Xp
  rw[Xe p];exact congrArg some e
theorem Yr.look(I:Yr h x dx C mA):∃a,PySem.W.InstAt h x (TY C dx) C (!a)/\∀name,UX name a=!(mA name):=
 let ⟨a,b,hl⟩:=Af I.ns
 {a,{(I.obj),rfl,rfl,b},hl}
section
variable{prog:S9}{w:Td}{A:Tj}{E:S5->S8->Prop}{s:S8}{K:RP}{x dx C f:Tu}{mA:VA->Option S5}{name:VA}{v:S5}
def E8(X:K.In s.heap)(I:Yr s.heap x dx C mA)(b:UG K C name=true)(c:U5 K C=true) (d:Tt K (.ref C) name=!none) (e:mA name=!v) (a:V8 v=true) (h:Q v {s with toks:=s.toks+1}):
 Tc (model prog w) A (W4 (.ref x) name expr) Q E s:=by
 let{i,J,hl}:=I.look;exact PySem.W.get_value X J (Sd b).1 (PySem.W.findObj_own c d rfl (by rw[hl,e])) a h
def BY(X:K.In s.heap)(I:Yr s.heap x dx C mA)(a:UG K C name=true) (b:Tt K (.ref C) name=!(!(.ref f))) (c:V5 K (.ref f)=true) (d:mA name=none) (h:Q (.ref f,[.ref x]) s):Tc (model prog w) A (Ur (.ref x) name pl) Q E s:=by
 let{e,J,hl}:=I.look;exact PySem.W.method_fn X J (Sd a).1 (Sd a).2 b (beq_iff_eq.mp c) (by show(UX name e).map (·.isSome)=!false;rw[hl,d];rfl) h
def E9(X:K.In s.heap)(I:Yr s.heap x dx C mA) (hs:Tt K (.ref C) "__setattr__" =!(!(.builtin "object.__setattr__"))) (j:VY K C=true) (n:Vy K C name=!none) (o:U5 K C=true) (hw:V4 mA ns) (p:ns.length<=S6) (h:∀h',Yr h' x dx C (λy=>if y=name then some v else mA y)->Heap.SameBut dx s.heap h'->Q () {s with heap:=h',toks:=s.toks+2}):
 Tc (model prog w) A (setAttr (.ref x) name v) Q E s:=by
 let{z,J,hl}:=I.look;refine PySem.W.set_plain X J hs (PySem.W.osa_open (s:={s with toks:=s.toks+1}) X J j n λb=>?_);let{B,hc,d}:=PySem.W.any_some o;have q:=I.obj;refine S4 (S7 (S4 (S4 (wpAny_loadPart q (S4 (W8 (s:={s with toks:=s.toks+1}) (PySem.W.looks_clsIn X hc) ?_))))));rw[d];refine S7 (S4 (S7 (S4 ?_)));refine wpAny_nsSet1 (s:={s with toks:=s.toks+1}) I.ns λh' a c=>?_;let{F,r,u,e,hdD,i}:=a.count (Xc name v hw);refine S4 (wpAny_lookBehind e (by rw[hdD];exact pastItsLine_dict (Xn i (by rw[QP];ext))) ?_);exact S7 (h _ {(c.2 _ (Ne.symm I.ne)).trans I.obj,a,I.ne} c)
def BZ(X:K.In s.heap)(b:Wl K C=true) (c:Tt K (.ref C) "__init__" =!(!(.ref f))) (d:UR K (.ref f)=!(.type "function")) (h:UF (model prog w) (A.under (.builtin "type.__call__" {.ref C::vs,kw})) (.call (.ref f) {.ref (s.heap.objs.size+1)::vs,kw}) (PySem.W.InitBack (s.heap.objs.size+1) R) {s with heap:=(s.heap.push TM).push (TY C s.heap.objs.size)}):
 UF (model prog w) A (.call (.ref C) {(vs),kw}) R s:=by
 exact PySem.W.make_core (PySem.W.makes_of X b) (PySem.W.looks_findIn X c) (λa=>PySem.W.bind_fn X a d) (.inl rfl) h
end
def bX(f:VA)(v:V):List (VA×V)->List (VA×V)
 |[]=>[(f,v)]
 |(g,x)::r=>if g=f then(g,v)::r else(g,x)::bX f v r
theorem nJ(f g:VA)(v:V):∀fs:List (VA×V),(bX f v fs).lookup g=if g=f then some v else fs.lookup g
 |[]=>by
  show List.lookup g [(f,v)]=_;by_cases h:g=f;.simp_all
  .have a:=beq_eq_false_iff_ne.mpr h;simp only[List.lookup,a,Xe h]
 |(k,x)::r=>by
  have b:=nJ f g v r;rw[show bX f v ((k,x)::r)=(if k=f then(k,v)::r else(k,x)::bX f v r)from rfl];by_cases hk:k=f
  .rw [Xf hk];by_cases h:g=k;.simp_all
   .have a:=beq_eq_false_iff_ne.mpr h;simp only[List.lookup,a,Xe (λe:g=f=>h (e.trans hk.symm))]
  .rw [Xe hk];by_cases h:g=k;.simp_all
   .have a:=beq_eq_false_iff_ne.mpr h;simp only[List.lookup,a];exact b
theorem lu(f:VA)(v:V):∀fs:List (VA×V),f∈(bX f v fs).map (·.1)/\∀g,g∈fs.map (·.1)->g∈(bX f v fs).map (·.1)
 |[]=>{by simp[bX],λg h=>by simp at h}
 |(k,x)::r=>by
  let{a,b}:=lu f v r;rw[show bX f v ((k,x)::r)=(if k=f then(k,v)::r else(k,x)::bX f v r)from rfl];by_cases hk:k=f;.grind
  .rw [Xe hk];refine{?_,λg h=>?_};.rw [QU];exact QM _ a
   .rw [QU]at h⊢;rcases Xi h with e|e;.exact List.mem_cons.mpr (.inl e)
    .exact QM _ (b g e)
theorem nK(f:VA)(v:V):∀fs:List (VA×V),(bX f v fs).length<=fs.length+1
 |[]=>by simp[bX]
 |(k,x)::r=>by
  have a:=nK f v r;rw[show bX f v ((k,x)::r)=(if k=f then(k,v)::r else(k,x)::bX f v r)from rfl];by_cases hk:k=f;.grind
  .grind
def si.some_of(r:si (!v) o):∃u,o=!u/\hB v u:=by
 cases o with
 |none=>exact(r).elim
 |some u=>exact{(u),rfl,r}
theorem si.none_of(r:si none o):o=none:=by
 cases o with
 |none=>rfl
 |some u=>exact(r).elim
def Ah(r:hB v u):V8 u=true:=by
 cases v with
 |non=>cases(r);rfl
 |bl b=>cases(r);rfl
 |int i=>let{t,e}:=(r);cases e;rfl
 |str x=>let{t,e}:=(r);cases e;rfl
 |byt b=>let{t,e}:=(r);cases e;rfl
 |flt b=>let{t,e}:=(r);cases e;rfl
 |ref a=>cases(r);rfl
 |ty n=>cases(r);rfl
section
variable{P:S9}{w:Td}{H H':Hp}{h h':Heap}{a C dx:Tu}{fs fs':List (VA×V)}
def mH(c:LX P w H h)(e:H a=!(.ins C dx fs)):∃b,Yr h a dx C b/\(∀f,si (fs.lookup f) (b f))/\V4 b (fs.map (·.1))/\fs.length<=1000/\H dx=!(.own a):=by
 let{d,z,ne,i,b,n,r,q}:=(c a _ e)
 exact{b,{(i),n,ne},r,q,z,d}
end
structure jp(K:RP)(C:Tu):Prop where
 pg:UG K C VA.empty=true
 hd:U5 K C=true
 po:VY K C=true
 sa:Tt K (.ref C) "__setattr__" =!(!(.builtin "object.__setattr__"))
theorem jp.get{K:RP}(c:jp K C)(f:VA):UG K C f=true:=c.pg
def cD(K:RP)(C:Tu)(f:VA):Prop:=Tt K (.ref C) f=!none
def cD.cj{K:RP}(n:cD K C f):Vy K C f=!none:=by unfold Vy;rw[show Tt K (.ref C) f=some none from n];rfl
structure oq(K:RP)(C:Tu)(m:VA)(f:Tu):Prop where
 at_:Tt K (.ref C) m=!(!(.ref f))
 fn:V5 K (.ref f)=true
 kp:Ul K (.ref f)=true
section
variable{X:Cx}{Xg:List (Tu×Obj)}{σ:St}{H:Hp}{s:S8}{a C dx:Tu}{fs:List (VA×V)}{f:VA}{v:V}{A:Tj}{E:S5->S8->Prop}
def yr(I:dN X Xg σ H s)(e:H a=!(.ins C dx fs))(c:jp X.K C)(n:cD X.K C f)(l:fs.lookup f=!v) (h:∀u s',dN X Xg σ H s'->hB v u->Q u s'):Tc (model X.prog X.w) A (W4 (.ref a) f b) Q E s:=by
 let{j,O,r,_}:=mH I.hok e;let{u,i,d}:=si.some_of (by rw[<-l];exact r f);exact E8 I.J O (c.get f) c.hd n i (Ah d) (h u _ (I.tok _) d)
def d7(I:dN X Xg σ H s)(e:H a=!(.ins C dx fs))(c:jp X.K C)(k:oq X.K C m g)(l:fs.lookup m=none) (h:Q (.ref g,[.ref a]) s):Tc (model X.prog X.w) A (Ur (.ref a) m pl) Q E s:=by
 let{b,O,r,_}:=mH I.hok e;have hn:=si.none_of (by rw[<-l];exact r m);exact BY I.J O (c.get m) k.at_ k.fn hn h
def yt(I:dN X Xg σ H s)(e:H a=!(.ins C dx fs))(c:jp X.K C)(n:cD X.K C f)(hl:fs.length<1000)(x:hB y u) (h:∀s',dN X Xg σ (jl H a (.ins C dx (bX f y fs))) s'->Q () s'):Tc (model X.prog X.w) A (setAttr (.ref a) f u) Q E s:=by
 let{i,O,r,j,_,p}:=mH I.hok e;have B:(fs.map (·.1)).length<=S6:=by rw[QL,Va];ext
 refine E9 I.J O c.sa c.po n.cj c.hd j B λF d G=>h _ ?_;have J:∃o,F.get? dx=!o:=let ⟨o,_,_,K,_⟩:=d.ns;{(o),K};refine I.write (by rw[e];exact True.intro) (.inr p) (λb q M z=>(G.2 b M).trans z) J ?_;refine{by rw[aN O.ne];exact p,?_,O.ne,d.obj,_,d.ns,λg=>?_,λg N=>?_};.have:=nK f y fs;ext
 .show si ((bX f y fs).lookup g) (if g=f then some u else i g);rw[nJ];by_cases q:g=f;.rw [Xf q,Xf q];exact x
  .simp_all
 .by_cases q:g=f
  .rw [q];exact(lu f y fs).1
  .refine(lu f y fs).2 g (j g λz=>N ?_);show(if g=f then some u else i g)=none;rw[Xe q];exact z
def dN.made(I:dN X Xg σ H s):dN X Xg σ (jl (jl H s.heap.objs.size (.own (s.heap.objs.size+1))) (s.heap.objs.size+1) (.ins C s.heap.objs.size [])) {s with heap:=(s.heap.push TM).push (TY C s.heap.objs.size)}:=by
 have e1:(s.heap.push TM).get? s.heap.objs.size=!TM:=QR s.heap rfl;have e2:((s.heap.push TM).push (TY C s.heap.objs.size)).get? (s.heap.objs.size+1)=!(TY C s.heap.objs.size):=by have:=QR (s.heap.push TM) (o:=TY C s.heap.objs.size) rfl;rwa[RC]at this
 have e3:(s.heap.push TM).Ns s.heap.objs.size (λ_=>none):={TM, #[],_,e1,rfl,(λe c=>absurd c eq),λ_=>rfl}
 have d:=I.laid (o:=.own (s.heap.objs.size+1)) (t':=s.toks) (λb u q=>QK _ q) (Xm _) {_,e1};refine d.laid (o:=.ins C s.heap.objs.size []) (λb u q=>QK _ q) (Sh (RC _ _)) ?_;have ne:s.heap.objs.size≠s.heap.objs.size+1:=Q8 (RW _);refine{by rw[aN ne,aA],Ra _,ne,e2,λ_=>none,(Heap.Ns1.of_empty e3).at λo q=>QK _ q,λ_=>True.intro,λy h=>absurd rfl h}
theorem Fa(b:TF e f env (eval e env)=eval e env) (h:Tc (model prog w) A (eval e env) (λo c=>Tc (model prog w) A (W4 o f true) Q E c) E s):Tc (model prog w) A (eval (.Attribute e f pos) env) Q E s:=
 Attribute_any_ h (by rw[arm_eval_Attribute,b])
end
section
variable{X:Cx}{o e value:Expr}{f:VA}{pos pos' tpos:Pos}{ta tv:TE}
end
section
variable{X:Cx}{Xg:List (Tu×Obj)}{σ:St}{H:Hp}{s:S8}{A:Tj}{E:S5->S8->Prop}{Q:S5->S8->Prop}{c:S5}{b:Bool}
inductive fg (K:RP) (H:Hp):V->S5->Prop where
 |non:fg K H .non (.type "NoneType")
 |bl (x:Bool):fg K H (.bl x) (.type "bool")
 |int (i:Int):fg K H (.int i) (.type "int")
 |str (x:VA):fg K H (.str x) (.type "str")
 |flt (x:UInt64):fg K H (.flt x) (.type "float")
 |lst {a:Tu} {xs:List V} (e:H a=!(.lst xs)):fg K H (.ref a) (.type "list")
 |frz {a:Tu} {o:Obj} {xs:List V} (e:H a=!(.frz o (.lst xs))):fg K H (.ref a) (.type "list")
 |tup {a:Tu} {xs:List V} (e:H a=!(.tup xs)):fg K H (.ref a) (.type "tuple")
 |dK {a:Tu} {kvs:List (hH×V)} (e:H a=!(.dK kvs)):fg K H (.ref a) (.type "dict")
 |dT {a:Tu} {kvs:List (List hH×V)} (e:H a=!(.dT kvs)):fg K H (.ref a) (.type "dict")
 |ins {a C dx:Tu} {fs:List (VA×V)} (e:H a=!(.ins C dx fs)) (cl:jp K C) (ha:Tt K (.ref C) "__class__" =!(!(.builtin "object.__class__")))
  (hn:PySem.W.specialIn K (.builtin "object.__class__") "__get__" =!(!(.builtin "getset_descriptor.__get__"))) (htk:PySem.W.takesIn K (.builtin "object.__class__")=!true)
  (hm:PySem.W.mroIn K C (.type "object")=!true):fg K H (.ref a) (.ref C)
def Ai(I:dN X Xg σ H s)(d:hB x u)(ty:fg X.K H x t)(e:Sb X.K t c=!b)(h:∀tk,Q (.bool b) {s with toks:=tk}):
 Tc (model X.prog X.w) A (call (.builtin "isinstance") [u,c]) Q E s:=by
 cases ty with
 |non=>cases(d);exact RT SM I.J True.intro e (λz=>nomatch z) h
 |bl y=>cases(d);exact RT SO I.J True.intro e (λz=>nomatch z) h
 |int i=>let{t,q}:=(d);cases q;exact RT SW I.J True.intro e (λz=>nomatch z) h
 |str y=>let{t,q}:=(d);cases q;exact RT SV I.J True.intro e (λz=>nomatch z) h
 |flt y=>let{t,q}:=(d);cases q;exact RT SE I.J True.intro e (λz=>nomatch z) h
 | @lst a v f=>
  cases(d);let{_,_,n,_,j}:=(I.hok a _ f)
  exact RT Si I.J {_,j,rfl} e (λz=>nomatch z) h
 | @frz a P v f=>
  cases(d);let{_,_,_,n,_,j}:=(I.hok a _ f)
  exact RT Si I.J {_,j,rfl} e (λz=>nomatch z) h
 | @tup a v f=>
  cases(d);let{_,_,_,p}:=(I.hok a _ f)
  let{o,j,r,_}:=p;exact RT SC I.J {(o),j,r} e (λz=>nomatch z) h
 | @dK a B f=>
  cases(d);let{_,_,R,_,p}:=(I.hok a _ f)
  let{o,es,K,j,r,_}:=p;exact RT Sj I.J {(o),j,r.1} e (λz=>nomatch z) h
 | @dT a B f=>
  cases(d);let{_,_,v,_,o,es,K,j,r,_}:=(I.hok a _ f)
  exact RT Sj I.J {(o),j,r.1} e (λz=>nomatch z) h
 | @ins a C S fs f G M hn F N=>cases(d);let{T,O,_}:=mH I.hok f;let{U,J,_}:=O.look;exact RT (PySem.W.kitx_own (G.get _) G.hd M hn F N) I.J J e (λz=>nomatch z) h
end
structure mm(k:Nat)(A:Tj):Prop where
 hd:A.handled=none
 dp:A.depth+3*k+5<recursionLimit
 un:A.units+16*k+200<Vk
theorem mm.mono(r:mm k A)(h:j<=k):mm j A:={r.hd,by have:=r.dp;ext,by have:=r.un;ext}
theorem mm.deeper(r:mm (k+1) A)(env:Env):mm k (A.deeper env):=
 {r.hd,by have:=r.dp;show A.depth+1+3*k+5<_;ext,by have:=r.un;show A.units+3+16*k+200<_;ext}
theorem yu{A:Tj}:(A.under (.builtin "type.__call__" {.ref C::us,kw})).depth=A.depth+1:=by rfl
theorem yv{A:Tj}:(A.under (.builtin "type.__call__" {.ref C::us,kw})).units=A.units+1:=by rfl
theorem mm.make(r:mm (k+1) A)(C:Tu)(us:List S5)(a:List (VA×S5)):mm k (A.under (.builtin "type.__call__" {.ref C::us,a})):=
 {r.hd,by have:=r.dp;rw[yu];ext,by have:=r.un;rw[yv];ext}
theorem mm.depth(r:mm k A):A.depth<recursionLimit:=by have:=r.dp;ext
def mm.units(r:mm k A):A.units+64<Vk:=by have:=r.un;ext
def eU:TA:=λ_ H Q=>Q [] H
def bI(a:TE)(b:TA):TA:=λσ H Q=>a σ H λx c=>b σ c λd e=>Q (x::d) e
section
variable{X:Cx}{e:Expr}{es:List Expr}{te:TE}{t:TA}{pos:Pos}
def bJ:PA X [] eU:=λ_ _ _ _ H Q I h=>Calls.spliced_nil {[],H,I,.nil,h}
def wS(b:PE X e te)(c:PA X es t)(hs:‹Te (e::es) X.env=(false,eval e X.env)::Te es X.env›):PA X (e::es) (bI te t):=by intro pos a s σ H Q I h;rw[hs];refine Calls.spliced_cons (thn (b a s σ H _ I h) λu d y=>?_);let{x,f,i,j,n}:=y;exact thn (c pos a d σ f _ i n) λA B z=>by let{o,p,q,r,v}:=z;exact{x::o,p,q,.cons j r,v}
def MI(t:TA):TE:=λσ H Q=>t σ H λa b=>a.length<=S6/\∀p,b p=none->Q (.ref p) (jl b p (.tup a))
def MJ(t:TA):TE:=λσ H Q=>t σ H λa b=>a.length<=S6/\∀p,b p=none->Q (.ref p) (jl b p (.lst a))
def Ik(h:PA X es t):PE X (.Tuple es x1 pos) (MI t):=by intro d s σ H Q I f;refine wpAny_Tuple_spliced (thn (h pos d s σ H _ I f) λi a ⟨j,n,c,r,z,q⟩=>{by rw[<-r.length];exact z,?_});have o:=c.hok.fresh (Xm _);refine{.ref a.heap.objs.size,jl n a.heap.objs.size (.tup j),c.laid (λb u e=>QK _ e) (Xm _) ?_,rfl,q _ o};exact{z,i,r,{_,QR _ rfl,rfl,_,rfl,rfl}}
def Il(h:PA X es t):PE X (.List es pos) (MJ t):=by intro d s σ H Q I f;refine wpAny_List_spliced (thn (h pos d s σ H _ I f) λi a ⟨j,n,c,r,z,q⟩=>{by rw[<-r.length];exact z,?_});have o:=c.hok.fresh (Xm _);refine{.ref a.heap.objs.size,jl n a.heap.objs.size (.lst j),c.laid (λb u e=>QK _ e) (Xm _) ?_,rfl,q _ o};exact{z,i,0,r,QR _ rfl}
end
abbrev Sp:=List V->Hp->VK->XK->Prop
abbrev Z0:=List Env->Hp->S8->XK->S5->S8->Prop
structure Yo(P:S9)(w:Td)(K:RP)(mg:VA->Option S5)(base:Heap)(A:Tj)(outer:List Env)(s:S8)(H:Hp):Prop where
 frames:A.frames=!outer
 mod:Mod K mg base
 bs:∀b o,base.get? b=!o->s.heap.get? b=!o/\H b=none
 bsz:base.objs.size<=s.heap.objs.size
 funs:s.heap.FunFrames base outer
 frf:∀b∈YZ outer,H b=none
 hok:LX P w H s.heap
 bare:Vp s.gens
def CE(a:List Env)(P:S9)(w:Td)(H:Hp)(s:S8)(Q:VK)(u:S5)(s':S8):Prop:=
 ∃v b,s'.os=s.os/\Vp s'.gens/\Un (YZ a) [] H b s.heap s'.heap/\LX P w b s'.heap/\hB v u/\Q v b
def CR(CX:Z0)(a:List Env)(P:S9)(w:Td)(H:Hp)(s:S8)(Q:VK)(E:XK)(r:W7)(s':S8):Prop:=
 match r with
 |.ok (.ret u)=>CE a P w H s Q u s'
 |.ok _=>False
 |.error e=>CX a H s E e s'
structure fh(P:S9)(w:Td)(K:RP)(mg:VA->Option S5)(base:Heap)(CX:Z0)(k:Nat)(f:Tu)(fd:VB)(ps:List VA)(sp:Sp):Prop where
 len:∀vs H Q E,sp vs H Q E->vs.length=ps.length
 run:∀(A:Tj) (outer:List Env) (s:S8) (H:Hp) (args:Args) (us:List S5) (vs:List V) (Q:VK) (E:XK),mm k A->Yo P w K mg base A outer s H->VU s fd args (ps.zip us)->eC vs us->sp vs H Q E->
  UF (model P w) A (.call (.ref f) args) (CR CX outer P w H s Q E) s
def Yo.make{K:RP}(e:Yo P w K mg base A outer s H)(C:Tu)(us:List S5)(a:List (VA×S5)):Yo P w K mg base (A.under (.builtin "type.__call__" {.ref C::us,a})) outer s H:={by first|exact e.frames|(simpa[Tj.under,Code.envs,Code.isFrame,pushEnvs]using e.frames),e.mod,e.bs,e.bsz,e.funs,e.frf,e.hok,e.bare}
section
variable{X:Cx}{Xg:List (Tu×Obj)}{σ:St}{H:Hp}{s s':S8}
theorem dN.b8(I:dN X Xg σ H s):Yo X.prog X.w X.K X.mg X.base X.A X.stack s H:=
 {I.ok.frames,I.ok.mod,I.bs,Xn I.ok.bsz I.sz,I.stack,I.bm,I.hok,I.bare}
def dN.after(I:dN X Xg σ H s)(h:CE X.stack X.prog X.w H s Q u s'):EP X Xg σ Q u s':=by let{v,f,i,a,un,c,r,q}:=h;let{j,g,d,t,e}:=s';obtain rfl:e=s.os:=i;exact{v,f,I.call (ch:=[]) un c a (λb z=>absurd z eq),r,q}
end
def Lh(sp:Sp)(dvs:List V)(E:XK)(t:TA):TE:=λσ H Q=>t σ H λa b=>sp (a++dvs) b Q E
def Ed(C:Tu)(m:VA)(sp:Sp)(dvs:List V)(E:XK)(c:TE)(t:TA):TE:=λσ H Q=>c σ H λx b=>∃a d fs,x=.ref a/\b a=!(.ins C d fs)/\fs.lookup m=none/\
 t σ b λe f=>sp (x::(e++dvs)) f Q E
def ri(K:RP)(c:VB)(b:List VA)(ds:List S5):Prop:=
 ∀(s:S8) (a:List S5),K.In s.heap->(a++ds).length=b.length->VU s c {a,[]} (b.zip (a++ds))
def ri.all{K:RP}(h:∀us:List S5,us.length=ps.length->Wa fd {us,[]}=pure (ps.zip us)):ri K fd ps []:=λs us _ hl=>by rw[Rf]at hl⊢;exact .of_eq (h us hl)
def jI(CX:Z0)(X:Cx)(E:XK):Prop:=∀(b:List (Tu×Obj)) (σ:St) (H:Hp) (s:S8) (e:S5) (a:S8),dN X b σ H s->CX X.stack H s E e a->X.xe e a
section
variable{X:Cx}{CX:Z0}{k:Nat}{f C:Tu}{fd:VB}{ps:List VA}{sp:Sp}{dvs:List V}{ds:List S5}{E:XK}{x m:VA}{p pos apos:Pos}{e o:Expr}{es:List Expr}{ta:TE}{t:TA}
def gL{σ:St}(F:fh X.prog X.w X.K X.mg X.base CX k f fd ps sp)(c:mm k X.A)(d:ri X.K fd ps ds)(i:eC dvs ds)(j:jI CX X E) (I:dN X Xg σ H s) (r:eC vs us) (h:sp (vs++dvs) H Q E):Tc (model X.prog X.w) X.A (call (.ref f) us) (EP X Xg σ Q) X.xe s:=by
 have b:=r.append i;have hl:(us++ds).length=ps.length:=by rw[<-b.length];exact F.len _ _ _ _ h
 refine WA (Vt (F.run X.A X.stack s H {us,[]} (us++ds) (vs++dvs) Q E c I.b8 (d s us I.J hl) b h) λr n a=>?_);cases r with
 |error e=>exact j Xg σ H s e n I a
 |ok q=>
  cases q with
  |ret u=>exact I.after a
  |next=>exact False.elim a
  |brk=>exact False.elim a
  |cont=>exact False.elim a
def Fb(F:fh X.prog X.w X.K X.mg X.base CX k f fd ps sp)(d:mm k X.A)(i:Gl X x)(j:X.mg x=!(.ref f))(hk:Ul X.K (.ref f)=true)(n:ri X.K fd ps ds)(u:eC dvs ds)(v:jI CX X E) (y:PA X (e::es) t) (a:((x==("__debug__":VA))=false)⁻¹) (z:‹Te (e::es) X.env=(false,eval e X.env)::Te es X.env›) (b:‹(Um pos (Te es X.env)).any (·.1)=false›):
 PE X (.Call (.Name x p) (e::es) [] pos) (Lh sp dvs E t):=by
 intro A s σ H Q I h;refine Ue (jD I i j ?_ a);refine RO I.ok.mod.kin hk (thn (y pos A s σ H _ I h) λB G ⟨J,K,c,r,q⟩=>{c.J,?_}) z b;exact gL F d n u v c r q
def Fc{pl:Sem Bool}(A:PE X o ta)(c:jp X.K C)(i:oq X.K C m f)(F:fh X.prog X.w X.K X.mg X.base CX k f fd ps sp)(B:mm k X.A)(G:ri X.K fd ps ds)(J:eC dvs ds)(K:jI CX X E)(M:PA X (e::es) t) (b:‹Te (e::es) X.env=(false,eval e X.env)::Te es X.env›) (d:‹(Um pos (Te es X.env)).any (·.1)=false›)
 (N:‹eval (.Call (.Attribute o m apos) (e::es) [] pos) X.env=(do
  let j <-eval o X.env
  U9 apos.atName
  let (f,first) <-holding [j] (Ur j m pl)
  VC pos f first (Um pos (Te (e::es) X.env)) (Us pos (TW [] X.env)))›):
 PE X (.Call (.Attribute o m apos) (e::es) [] pos) (Ed C m sp dvs E ta t):=by
 intro n s σ H Q I h;refine RG (thn (A n s σ H _ I h) λu O z=>?_) N;let{x,P,v,R,a,W,fs,S,T,l,q}:=z;subst S;obtain rfl:u=S5.ref a:=R;apply d7 v T c i l;refine RO (first:=[.ref a]) I.ok.mod.kin i.kp (thn (M pos n O σ P _ v q) λY Z ⟨vs,H2,y,r,U⟩=>{y.J,?_}) b d;exact gL (vs:=.ref a::vs) F B G J K y (.cons rfl r) U
def B0(j:PE X o ta)(c:jp X.K C)(d:oq X.K C m f)(F:fh X.prog X.w X.K X.mg X.base CX k f fd ps sp)(n:mm k X.A)(r:ri X.K fd ps ds)(v:eC dvs ds)(y:jI CX X E) (A:‹eval (.Call (.Attribute o m apos) [] [] pos) X.env=(do
  let i <-eval o X.env
  U9 apos.atName
  let (f,first) <-holding [i] (Ur i m pl)
  VC pos f first (Um pos (Te [] X.env)) (Us pos (TW [] X.env)))›):
 PE X (.Call (.Attribute o m apos) [] [] pos) (Ed C m sp dvs E ta eU):=by
 intro B s σ H Q I h;refine RG (thn (j B s σ H _ I h) λu M z=>?_) A;let{x,N,b,G,a,O,fs,J,K,l,q}:=z;subst J;obtain rfl:u=S5.ref a:=G;apply d7 b K c d l;exact R6 (first:=[.ref a]) b.J d.kp (gL (us:=[.ref a]) (vs:=[.ref a]) F n r v y b (.cons rfl .nil) q)
structure Mk(K:RP)(C f:Tu):Prop where
 makes:Wl K C=true
 init:Tt K (.ref C) "__init__" =!(!(.ref f))
 fn:V5 K (.ref f)=true
 kp:Ul K (.ref C)=true
def uq{σ:St}(M:Mk X.K C f)(F:fh X.prog X.w X.K X.mg X.base CX k f fd ps sp)(j:mm (k+1) X.A)(n:ri X.K fd ps ds)(q:eC dvs ds) (y:jI CX X E) (I:dN X Xg σ H s) (r:eC vs us) (h:∀x b,H x=none->H b=none->b≠x->sp (.ref x::(vs++dvs)) (jl (jl H b (.own x)) x (.ins C b [])) (λv H2=>v=.non/\Q (.ref x) H2) E):Tc (model X.prog X.w) X.A (call (.ref C) us) (EP X Xg σ Q) X.xe s:=by
 have d:=h (s.heap.objs.size+1) s.heap.objs.size (I.hok.fresh (R0 _)) (I.hok.fresh (Xm _)) (Q8 (RW _));have c:=dN.made (C:=C) I;have i:eC (V.ref (s.heap.objs.size+1)::(vs++dvs)) (S5.ref (s.heap.objs.size+1)::(us++ds)):=.cons rfl (r.append q);have hl:(S5.ref (s.heap.objs.size+1)::us++ds).length=ps.length:=by have e:=i.length;rw[F.len _ _ _ _ d]at e;exact e.symm
 refine WA (BZ I.J M.makes M.init (beq_iff_eq.mp M.fn) (Vt (F.run _ X.stack _ _ {S5.ref (s.heap.objs.size+1)::us,[]} (S5.ref (s.heap.objs.size+1)::(us++ds)) _ _ E (j.make C us [])
  (c.b8.make C us []) (n _ (S5.ref (s.heap.objs.size+1)::us) c.J hl) i d) λr z a=>?_))
 cases r with
 |error e=>exact y Xg σ _ _ e z c a
 |ok A=>
  cases A with
  |ret u=>let{v,B,G,J,ev,K}:=c.after a;subst ev;exact{J,{V.ref (s.heap.objs.size+1),B,G,rfl,K}}
  |next=>exact False.elim a
  |brk=>exact False.elim a
  |cont=>exact False.elim a
end
section
variable{X:Cx}{CX:Z0}{k:Nat}{f C:Tu}{fd:VB}{ps ks:List VA}{sp:Sp}{E:XK}{x m:VA}{p pos apos kpos:Pos}{e o:Expr}{es:List Expr}{kws:List UW}{te ta:TE}{t tk:TA}{nm:Option VA}
variable{g:List S5->List S5->List S5}{gV:List V->List V->List V}
end
structure au(N P:List VA)(sc:UQ):Prop where
 kind:sc.kind=.function
 co:sc.isCoroutine=false
 gen:sc.isGenerator=false
 nd:N.Nodup
 pre:N.take P.length=P
 par:∀x∈P,sc.names.lookup x=!.local\/sc.names.lookup x=!.cell
 nofree:∀y∈sc.names,y.2≠.free
theorem rW{b:VA->Option TQ}:∀{a:List (VA×S5)} {m:VA->Option S5},(∀v,(x,v)∉a)->W9 b a m x=m x
 |[],_,_=>rfl
 |(n,v)::r,m,h=>by
  unfold W9;rw[rW λw hw=>h w (QM _ hw)];split
  .have:x≠n:=by rintro rfl;exact h v QO
   simp[this]
  .rfl
theorem rX{b:VA->Option TQ}:∀{a:List (VA×S5)} {m:VA->Option S5},(∀v,(x,v)∉a)->Xa b a m x=m x
 |[],_,_=>rfl
 |(n,v)::r,m,h=>by
  unfold Xa;rw[rX λw hw=>h w (QM _ hw)];split;.rfl
  .have:x≠n:=by rintro rfl;exact h v QO
   simp[this]
theorem rY{a:VA->Option TQ}{x:VA}{v:S5}:∀{P:List VA} {vs:List S5} {i:Nat} {m:VA->Option S5},P.Nodup->P[i]? =!x->vs[i]? =!v->a x=!.local->W9 a (P.zip vs) m x=!v
 |[],_,_,_,_,h,_,_=>by simp at h
 |_::_,[],_,_,_,_,h,_=>by simp at h
 |p::P,w::vs,0,m,nd,b,c,hk=>by simp at b c;subst b;subst c;show W9 a ((p,w)::P.zip vs) m p=_;unfold W9;rw[rW λv d=>(List.nodup_cons.mp nd).1 (Ss d).1,Xf hk];simp
 |p::P,w::vs,i+1,m,nd,b,c,hk=>by show W9 a ((p,w)::P.zip vs) m x=_;exact rY (i:=i) (List.nodup_cons.mp nd).2 (~~~b) (~~~c) hk
theorem rZ{a:VA->Option TQ}{x:VA}{v:S5}:∀{P:List VA} {vs:List S5} {i:Nat} {m:VA->Option S5},P.Nodup->P[i]? =!x->vs[i]? =!v->a x≠!.local->Xa a (P.zip vs) m x=!v
 |[],_,_,_,_,h,_,_=>by simp at h
 |_::_,[],_,_,_,_,h,_=>by simp at h
 |p::P,w::vs,0,m,nd,b,c,hk=>by simp at b c;subst b;subst c;show Xa a ((p,w)::P.zip vs) m p=_;unfold Xa;rw[rX λv d=>(List.nodup_cons.mp nd).1 (Ss d).1,Xe hk];simp
 |p::P,w::vs,i+1,m,nd,b,c,hk=>by show Xa a ((p,w)::P.zip vs) m x=_;exact rZ (i:=i) (List.nodup_cons.mp nd).2 (~~~b) (~~~c) hk
def start(N:List VA)(vs:List V):St:=vs.map some++Sf (N.length-vs.length) none
def fJ(CX:Z0)(P:S9)(w:Td)(K:RP)(mg:VA->Option S5)(base:Heap)(N:List VA)(b:VA)(a:UQ)(f:Tu)(d:S5)(A:Tj)(outer:List Env)(s:S8)(H:Hp)(E:XK):Cx where
 prog:=P
 w:=w
 K:=K
 mg:=mg
 base:=base
 A:=A.deeper (TR b a s.heap.objs.size f d)
 N:=N
 s₀:=s
 H₀:=H
 env:=TR b a s.heap.objs.size f d
 outer:=outer
 stack:=TR b a s.heap.objs.size f d::outer
 ex:=[]
 calm:=true
 fn:=λ_=>true
 pn:=[]
 xe:=λe h=>Tc (model P w) (A.deeper (TR b a s.heap.objs.size f d)) (leaving (TR b a s.heap.objs.size f d) e) (λ_ c=>CX outer H s E e c) (λi c=>CX outer H s E i c) h
def ur{a:UQ}(h:a.names.lookup x=!.cell):∃c,(WY n a.names []).lookup x=!c:=by have q:=Sc a.names n [] (.inl h);exact Option.isSome_iff_exists.mp q
def Aj{K:RP}
 (S:au N ps scope) (J:A.handled=none) (d:Yo P w K mg base A outer s H) (hl:vs.length=ps.length) (r:eC vs us)
 (x:InCallC s s.heap.objs.size (W9 (TR qual scope s.heap.objs.size f cd).kindOf (ps.zip us) λ_=>none) (WY (s.heap.objs.size+1) scope.names []) (Xa (TR qual scope s.heap.objs.size f cd).kindOf (ps.zip us) λ_=>none) s1):
 dN (fJ CX P w K mg base N qual scope f cd A outer s H E) [] (start N vs) H s1:=by
 have M:ps.length<=N.length:=by have:=congrArg List.length S.pre;rw[Rv]at this;ext
 let{F,R,rfl,hk}:=x.done;have n:∀b:Tu,b∉(fJ CX P w K mg base N qual scope f cd A outer s H E).ex:=λb z=>absurd (show b∈([]:List Tu)from z) eq;refine{{d.mod,S.kind,rfl,rfl,Xm _,λy z c F j=>?_,λy o=>?_,λy c _ h=>?_,λ_=>J,Tj.frames_deeper d.frames,.inr {(rfl),rfl},λb z=>absurd z (n b),d.bs,d.bsz,λb _ _=>n b,λb z=>absurd z (n b),d.funs,d.frf},
  rfl,d.bare,Un.kept hk,{_,x.toInCall.ns,λi y v F j T=>?_},λy c h=>{_,x.cell y c h},d.hok.fresh (Xm _),λy c h=>?_,λp B=>absurd (show p∈([]:List (Tu×Obj))from B) eq,d.hok.kept hk,?_}
 .exact name_of_addr x.apart (TZ F) (TZ j)
 .have o:=o;rcases o with o|o;.exact ur o
  .exact absurd rfl (S.nofree _ (TZ o))
 .exact Nat.le_of_lt (x.above y c (TZ h))
 .have G:i<vs.length:=by
   unfold start at j
   by_cases G:i<vs.length
   .exact G
   .rw [List.getElem?_append_right (~~~G)]at j;rw[List.getElem?_replicate]at j;split at j<;>cases j
  have O:vs[i]? =!v:=by
   unfold start at j;rw[List.getElem?_append_left (~~~G),QY]at j;cases e:vs[i]? with
   |none=>simp_all
   |some a=>simp_all
  let{u,I,Q}:=r.get O
  have B:ps[i]? =!y:=by rw[<-S.pre,List.getElem?_take_of_lt Xu];exact F
  have C:ps.Nodup:=by rw[<-S.pre];exact S.nd.sublist (List.take_sublist _ _)
  exists u,Q
  rcases S.par y (QW B)with k|k
  .exact .inl {k,rY C B I k}
  .let{c,e}:=ur k;refine .inr {.inl k,c,e,?_};have q:=x.cell y c e;rw[rZ C B I (by show scope.names.lookup y≠_;rw[k];decide)]at q;exact q
 .exact d.hok.fresh (Nat.le_of_lt (x.above y c (TZ h)))
 .unfold start;show _=N.length;rw[QN,QL,Rz];ext
def pB{K:RP}{kV:S5}
 (T:K.lookup f=some {oc,od,.func (V6 name qual params body scope dV kV doc pm an cdv ct),osl}) (z:Wx K cdv qual=true) (S:au N ps scope)
 (len:∀vs H Q E,sp vs H Q E->vs.length=ps.length)
 (d:∀(A:Tj) (a:List Env) (s:S8) (H:Hp) (vs:List V) (Q:VK) (E:XK),mm k (A.deeper (TR qual scope s.heap.objs.size f cdv))->sp vs H Q E->
  ∃t,XM (fJ CX P w K mg base N qual scope f cdv A a s H E) body t/\t {nx:=λ_ c=>Q .non c,rt:=Q} (start N vs) H):
 fh P w K mg base CX (k+1) f (V6 name qual params body scope dV kV doc pm an cdv ct) ps sp:=by
 refine{len,λA a s H M U vs Q E B i W r j=>?_};have hl:=len _ _ _ _ j;have O:=i.mod.kin.keeps λb o e=>(i.bs b o e).1;have C:=i.mod.nolimit.keeps λb o e=>(i.bs b o e).1;have h:∀y∈ps.zip U,scope.names.lookup y.1=!.local\/(scope.names.lookup y.1=!.cell/\((WY (s.heap.objs.size+1) scope.names []).lookup y.1).isSome=true):=λ⟨n,v⟩ X=>by
  rcases S.par n (Ss X).1 with q|q;.exact .inl q
  .exact .inr {q,Sc _ _ _ (.inl q)}
 refine codeAny_call_function B.depth (O _ _ T) rfl S.co S.gen rfl (PySem.W.codeRec_of O z) (W _ _ _ _ ?_);refine wpAny_newFunctionEnv_cells S.kind h λY Z R x=>?_;subst Z;refine{C.keeps x.toInCall.keep,codeAny_func ?_};let{t,ht,hq}:=d A a s H vs Q E (B.deeper _) j;have I:dN (fJ CX P w K mg base N qual scope f cdv A a s H E) [] (start N vs) H R:=Aj S B.hd i hl r x;refine Tp (ht [] R (start N vs) H _ I hq) (λfl F hs=>?_) λe F hs=>hs;have fin:∀{p:St} {c:Hp} {v:V} {u:S5},dN (fJ CX P w K mg base N qual scope f cdv A a s H E) [] p c F->hB v u->Q v c->CE a P w H s Q u F:=
  λ{p c v u} J G q=>{(v),c,J.os,J.bare,J.base,J.hok,G,q}
 cases fl with
 |ret u=>let{v,p,c,J,G,q}:=hs;exact fin J G q
 |next=>let{p,c,J,q}:=hs;exact fin (v:=V.non) J rfl q
 |brk=>let{_,_,_,q}:=hs;exact False.elim q
 |cont=>let{_,_,_,q}:=hs;exact False.elim q
section
variable{X:Cx}{x:VA}{p pos:Pos}{e:Expr}{es:List Expr}{t:TA}{id T:String}{r:List V->Hp->VK->Prop}
def _l(r:List V->Hp->VK->Prop)(t:TA):TE:=λσ H Q=>t σ H λa b=>r a b Q
def B3(hc:bH X (.builtin id) r)(d:Gl X x)(f:X.mg x=none)(i:Tx x=!(.builtin id))(j:PA X (e::es) t)(hn:(x≠"__name__")⁻¹)(a:((x==("__debug__":VA))=false)⁻¹)
 (n:‹Te (e::es) X.env=(false,eval e X.env)::Te es X.env›) (b:‹(Um pos (Te es X.env)).any (·.1)=false›):PE X (.Call (.Name x p) (e::es) [] pos) (_l r t):=by
 intro c s σ H Q I h;refine Ue (gJ I d f i ?_ hn a);exact V7 (thn (j pos c s σ H _ I h) λo q z=>by let{u,v,y,A,B}:=z;exact hc c q σ v u o Q y A B) n b
def Ak(hc:bH X (.type T) r)(d:Gl X x)(f:X.mg x=none)(i:Tx x=!(.type T))(j:PA X (e::es) t)(hn:(x≠"__name__")⁻¹)(a:((x==("__debug__":VA))=false)⁻¹)
 (n:‹Te (e::es) X.env=(false,eval e X.env)::Te es X.env›) (b:‹(Um pos (Te es X.env)).any (·.1)=false›):PE X (.Call (.Name x p) (e::es) [] pos) (_l r t):=by
 intro c s σ H Q I h;refine Ue (gJ I d f i ?_ hn a);exact Tq (thn (j pos c s σ H _ I h) λo q z=>by let{u,v,y,A,B}:=z;exact hc c q σ v u o Q y A B) n b
end
end _L
namespace _T
open PySem PyProof.Rows
def aL:List Int->List Int->Bool
 |[],[]=>false
 |[],_::_=>true
 |_::_,[]=>false
 |x::a,y::b=>if x=y then aL a b else decide (x<y)
theorem bM(x y:Int)(xs a:List Int):aL (x::xs) (y::a)=if x=y then aL xs a else decide (x<y):=rfl
def Zs:aL [] []=false:=rfl
def Za(y:Int)(a:List Int):aL [] (y::a)=true:=rfl
def Zb(x:Int)(xs:List Int):aL (x::xs) []=false:=rfl
theorem B4(A:Tj)(s:S8)(a:Int)(t:Tok)(c:Int)(u:Tok):∃e,SeqAt.EqAt A s (.int a t) (.int c u) e/\(e=true↔a=c):=
 {(a==c),SeqAt.EqAt.int_int a t c u,by simp}
theorem B5(A:Tj)(s:S8)(a:Int)(t:Tok)(c:Int)(u:Tok)(prog:S9)(w:Td)(E:S5->S8->Prop)(Q:S5->S8->Prop)(h:Q (.bool (decide (a<c))) s):Tc (model prog w) A (richCompare .Lt (.int a t) (.int c u)) Q E s:=
 (W6 h:Tc (model prog w) A (TD .Lt (.int a t) (.int c u)) Q E s)
section
open PySem.SeqAt
open PySem.AutoSeq1 renaming wpAny_loadPart'→RQ
open PySem.MeetsSeq PySem.MeetsSeq2 PySem.MeetsSeq3
def sX(l b:Tu)(items items2:Array S5)(n W:Nat)(X N:Option Tu)(Y O:Array (Option S5))(ns F:List Int)(S:Ud items.toList ns)(T:Ud items2.toList F):Meets (Th.«tuple.__lt__» {[.ref l,.ref b],[]}) (λ_ R s=>s.heap.get? l=some {cls:=.type "tuple",dict:=X,data:=.seq items n,slots:=Y}/\s.heap.get? b=some {cls:=.type "tuple",dict:=N,data:=.seq items2 W,slots:=O}/\
   R (.ok (.ret (.bool (aL ns F)))) s):=
 .of_wp λo w A R s h=>by
  let{I,g,d,J,K}:=s;let{hl,Z,h}:=h;have f2:=AutoSeq1.sub_tuple_tuple;have z1:items.size=ns.length:=by rw[<-S.length];simp
  have z2:items2.size=F.length:=by rw[<-T.length];simp
  wp_walk using RQ hl,RQ Z,wpAny_forIn_list _ (λrest b P=>b.1=none/\P={(I),g,d,J,K}/\∃(G H:List S5) (f i:List Int),rest=G.zip H/\
   Ud G f/\Ud H i/\f.length+items2.size=i.length+items.size/\R (.ok (.ret (.bool (aL f i)))) {(I),g,d,J,K}) _
  case turn=>
   rintro⟨y,x⟩ rest b P ⟨B,rfl,G,H,f,i,p,z,j,M,r⟩;cases z with
   |nil=>rw[List.zip_nil_left]at p;cases p
   |cons a t C=>
    cases j with
    |nil=>rw[List.zip_nil_right]at p;cases p
    |cons c u E=>
     rw[List.zip_cons_cons]at p;injection p with hyx hrest;injection hyx with hy hx;subst hy hx;rw[bM]at r;simp only[QP]at M;let{e,he,v}:=B4 A.in1 {(I),g,d,J,K} a t c u;refine S4 (he o w _ _ ?_);cases e with
     |true=>
      rw[Xf (v.mp rfl)]at r
      wp_walk
      exact{rfl,rfl,_,_,_,_,hrest,C,E,by ext,r}
     |false=>
      rw[Xe (λq=>absurd (v.mpr q) Xp)]at r;have Q:=B5 A.in1 {(I),g,d,J,K} a t c u o w
      wp_walk using Q
      exact{_,rfl,by simpa using r}
  case fin=>
   rintro⟨b1,b2⟩ P ⟨B,rfl,G,H,f,i,p,z,j,M,r⟩;subst B;have U:aL f i=decide (items.size<items2.size):=by
    cases z with
    |nil=>
     cases j with
     |nil=>exact(decide_eq_false Xu).symm
     |cons c u hw=>simp only[Rl,QP]at M;exact(decide_eq_true Xu).symm
    |cons a t U=>
     cases j with
     |nil=>simp only[Rl,QP]at M;exact(decide_eq_false Xu).symm
     |cons c u hw=>cases p
   rw[U]at r
   wp_walk
   exact{_,rfl,by simpa[Th.Tuple.tupleCompareSizes]using r}
  case h=>
   exact{rfl,rfl,items.toList,items2.toList,ns,F,rfl,S,T,by ext,h}
end
#print d
def yw(hl:VS s.heap l items)(q:VS s.heap b items2)(r:Ud items.toList ns)(u:Ud items2.toList ms) (v:A.units<Vk) (h:Q (.bool (aL ns ms)) s):Tc (model prog w) A (TD .Lt (.ref l) (.ref b)) Q E s:=by
 let{{y,z,j,B},o,hc,n,C}:=id hl;let{{p,c,d,e},a,f,F,i}:=id q;subst hc C f i;exact richCompare_meets_room (op:=.Lt) {_,o,rfl} {_,a,rfl} PySem.F.slot_tuple_lt PySem.F.entry_tuple_lt (PySem.F.args_tuple_lt_2 _ _) (sX l b items items2 n F z c B e ns ms r u)
  {o,a,show S5.bool (aL ns ms)≠S5.notImplemented/\Q (.bool (aL ns ms)) s from{(λx=>nomatch x),h}} v
def Fd(x:VS s.heap t vs.toArray)(y:VS s.heap b ws.toArray)(p:vs≠[]) (z:ws= []->Q (.ref t) s) (B:ws≠[]->Q (.ref s.heap.objs.size) {s with heap:=s.heap.push {cls:=.type "tuple",data:=.seq (vs++ws).toArray}})
 (h:vs.length+ws.length<=S6):Tc (model prog w) A (UB .Add (.ref t) (.ref b)) Q E s:=by
 let{{cls,q,data,r},f,hc,n,C}:=id x;let{{u,c,i,d},a,j,v,o}:=id y;subst hc C j o;have e:vs.toArray++ws.toArray=(vs++ws).toArray:=by simp
 by_cases hw:ws= []
 .exact concat_meets {_,f,rfl} {_,a,rfl} noFill_tuple_add seq_tuple_add Vl Vf (U6 _ _)
   (tuple_addW1 t b vs.toArray ws.toArray n v q c r d (~~~p) (by simp[hw])) {f,a,z hw}
 .refine concat_meets {_,f,rfl} {_,a,rfl} noFill_tuple_add seq_tuple_add Vl Vf (U6 _ _)
   (tuple_addW2 t b vs.toArray ws.toArray n v q c r d (~~~p) (~~~hw) (by rw[Q2];exact h)) {f,a,?_}
  rw[e]
  exact B hw
def sIx(n d:Nat):Option Int->Nat
 |none=>d
 |some v=>if v<0 then(v+(n:Int)).toNat else min v.toNat n
def Im(n d:Nat)(a:d<=n)(o:Option Int):sIx n d o<=n:=by
 cases o with
 |none=>exact a
 |some v=>
  show(if v<0 then(v+(n:Int)).toNat else min v.toNat n)<=n;by_cases b:v<0;.grind
  .rw [Xe b];exact RV _ _
def wT(v:Int)(n d:Nat):(if v<0 then max (v+(n:Int)) 0 else min v (n:Int))=((sIx n d (!v):Nat):Int):=by
 show(if v<0 then max (v+(n:Int)) 0 else min v (n:Int))=(((if v<0 then(v+(n:Int)).toNat else min v.toNat n):Nat):Int)
 by_cases a:v<0;.grind
 .grind
theorem yx(lo a:Option Int)(n:Nat):Th.Slice.sliceAdjust lo a 1 (n:Int)=(((sIx n 0 lo:Nat):Int),((sIx n n a:Nat):Int)):=by
 refine Prod.ext ?_ ?_
 .cases lo with
  |none=>rfl
  |some v=>exact wT v n 0
 .cases a with
  |none=>rfl
  |some v=>exact wT v n n
theorem yz(i j:Nat):Th.Slice.slicePlaces (i:Int) (j:Int) 1=j-i:=by
 unfold Th.Slice.slicePlaces;have a:(1:Int)>0:=by ext
 simp only[a,if_true,Int.ediv_one];split<;>ext
def pC(p:Wc v o)(h:Q o s):Tc (model prog w) A (Th.Slice.slicePartIndex v) Q E s:=by
 cases p with
 |none=>exact slicePart_none h
 |int i t=>exact slicePart_int h
def ot{lo:Option Int}{n:Nat}(hs:s.heap.IsSliceOf sl vl vu .none)(pl:Wc vl lo)(d:Wc vu c) (h:Q (((sIx n 0 lo:Nat):Int),1,sIx n n c-sIx n 0 lo) s):Tc (model prog w) A (Th.Slice.sliceApplied (.ref sl) (pure (n:Int))) Q E s:=by
 let{f,a,e,b}:=id hs;refine S4 (S4 (To a b (x:=vl) rfl (S4 (To a b (x:=vu) rfl (S4 (To a b rfl (S7 ?_)))))));refine S4 (slicePart_none ?_);refine S4 (pC pl (S4 (pC d (S4 (S7 ?_)))));show Tc _ _ (match Th.Slice.sliceAdjust lo c 1 (n:Int)with|(lo,c)=>pure (lo,(1:Int),Th.Slice.slicePlaces lo c 1)) _ _ s;rw[yx lo c n];show Tc _ _ (pure (((sIx n 0 lo:Nat):Int),(1:Int),Th.Slice.slicePlaces ((sIx n 0 lo:Nat):Int) ((sIx n n c:Nat):Int) 1)) _ _ s;rw[yz];exact S7 h
theorem B6(xs:Array S5)(i k:Nat):((List.range k).filterMap λ(m:Nat)=>xs[((i:Int)+(m:Int)*1).toNat]?).toArray=((xs.toList.drop i).take k).toArray:=by
 have e:(λ(m:Nat)=>xs[((i:Int)+(m:Int)*1).toNat]?)=λm=>xs[i+m]?:=by
  funext m;have:((i:Int)+(m:Int)*1).toNat=i+m:=by ext
  rw[this]
 rw[e];have:=pick_run xs i k;rw[List.filterMap_map]at this;have e2:((λx=>xs[x]?)∘λx=>i+x)=λm=>xs[i+m]?:=rfl;rw[e2]at this;rw[this]
def nh{t d:Tu}{items:Array S5}{o p:S5}{lo b:Option Int}{Q:S5->S8->Prop}(c:VS s.heap t items)(hs:s.heap.IsSliceOf d o p .none)(pl:Wc o lo)(r:Wc p b) (hw:¬(sIx items.size 0 lo=0/\sIx items.size items.size b=items.size)) (h:Q (.ref s.heap.objs.size) {s with heap:=s.heap.push {cls:=.type "tuple",data:=.seq ((items.toList.drop (sIx items.size 0 lo)).take (sIx items.size items.size b-sIx items.size 0 lo)).toArray}})
 (e:items.size<=S6):Tc (model prog w) A (VM (.ref t) (.ref d)) Q E s:=by
 have a:sizeOk (.seq ((items.toList.drop (sIx items.size 0 lo)).take (sIx items.size items.size b-sIx items.size 0 lo)).toArray):=by show((items.toList.drop (sIx items.size 0 lo)).take (sIx items.size items.size b-sIx items.size 0 lo)).toArray.size<=S6;rw[Q2,Rv,RS,Array.length_toList];exact Xn (RV _ _) (Xn (SZ _ _) e)
 have x:sIx items.size items.size b<=items.size:=Im _ _ (Xm _) b;let{u,f,i,v}:=id hs;have j:s.TypeIs (.ref d) "slice":={(u),f,i}
 unfold VM
 try with_reducible refine Tf ?_
 first|refine S4 (S7 ?_)|skip
 refine S4 (wpAny_sequenceKey c.typeIs Xs ?_);refine S4 (TH (name:=VA.ofString "__getitem__") c.typeIs Uz
  (Tw Uz c.typeIs entry_tuple_getitem ?_ (args_tuple_getitem _ _)))
 show Tc _ _ (Th.Tuple.tupleItemsOf (.ref t) >>= _) _ _ s;refine S4 (tupleItemsOf_ c ?_);refine S4 (Uo j ?_);rw[Xf Xs];refine S4 (ot hs pl r ?_);have n:¬((((sIx items.size 0 lo:Nat):Int)==0&&(1:Int)==1&&(sIx items.size items.size b-sIx items.size 0 lo)==items.size)=true):=by intro q;rw[RE,RE]at q;have y:((sIx items.size 0 lo:Nat):Int)=0:=eq_of_beq q.1.1;have z:sIx items.size items.size b-sIx items.size 0 lo=items.size:=eq_of_beq q.2;exact hw {by ext,by ext}
 show Tc _ _ (if(((sIx items.size 0 lo:Nat):Int)==0&&(1:Int)==1&&(sIx items.size items.size b-sIx items.size 0 lo)==items.size)=true then _ else _) _ _ s;rw[Xe n,B6]
 first
  |exact S4 (m:=Th.Tuple.tupleExact _) (TL (S7 {_,rfl,S7 h}) a)
  |exact S4 (m:=Th.Tuple.tupleExact _) (TL (S4 (S7 (S7 {_,rfl,S7 h}))) a)
  |exact S4 (S4 (m:=Th.Tuple.tupleExact _) (TL (S7 (S7 {_,rfl,S7 h})) a))
  |exact S4 (S4 (m:=Th.Tuple.tupleExact _) (TL (S7 {_,rfl,S7 h}) a))
end
end _T
#print y
abbrev TO:=St->Hp->(Option Int->Hp->Prop)->Prop
def PO(X:Cx)(e:Option Expr)(t:TO):Prop:=
 ∀(a:List (Tu×Obj)) (s:S8) (σ:St) (H:Hp) (Q:Option Int->Hp->Prop),dN X a σ H s->t σ H Q->
  Tc (model X.prog X.w) X.A (evalPart e X.env) (λu c=>∃o b,dN X a σ b c/\Wc u o/\Q o b) X.xe s
def wU:TO:=λ_ H Q=>Q none H
def Ee(t:TE):TO:=λσ H Q=>t σ H λx a=>∃i,x=.int i/\Q (!i) a
def j0:∀{us:List S5},eC (ns.map V.int) us->Ud us ns:=by
 induction ns with
 |nil=>intro us r;cases r;exact .nil
 |cons n ns a=>
  intro us r;cases r with
  |cons b c=>let{t,e}:=b;subst e;exact .cons n t (a c)
section
variable{X:Cx}{e:Expr}{te:TE}{lo hi:Option Expr}{tl th:TO}{pos p2:Pos}
def mI:PO X none wU:=by intro a s σ H Q I h;exact S7 {none,H,I,.none,h}
def mJ(h:PE X e te):PO X (!e) (Ee te):=by intro a s σ H Q I hw;refine thn (h a s σ H _ I hw) λu j z=>?_;let{x,b,c,d,f}:=z;let{i,rfl,q}:=f;let{t,rfl}:=d;exact{!i,b,c,.int i t,q}
def _r(X:Cx)(r:V->Option Int->Option Int->Hp->VK->Prop):Prop:=
 ∀(a:List (Tu×Obj)) (s:S8) (σ:St) (H:Hp) (x:V) (v b c:S5) (lo hi:Option Int) (d:Tu) (Q:VK),dN X a σ H s->hB x v->s.heap.IsSliceOf d b c .none->Wc b lo->Wc c hi->r x lo hi H Q->
  ∃T id,Ux (.type T) "__getitem__" =pure (!(.builtin id))/\s.TypeIs v T/\Tc (model X.prog X.w) X.A (VM v (.ref d)) (EP X a σ Q) X.xe s
def tSl(r:V->Option Int->Option Int->Hp->VK->Prop)(te:TE)(tl th:TO):TE:=λσ H Q=>te σ H λx a=>tl σ a λl b=>th σ b λu c=>r x l u c Q
def j5(j:_r X r)(n:PE X e te)(hl:PO X lo tl)(o:PO X hi th):PE X (.Subscript e (.Slice lo hi none p2) pos) (tSl r te tl th):=by intro c s σ H Q I h;refine WB (thn (n c s σ H _ I h) λv p y=>?_);let{x,A,B,C,E}:=y;refine wpAny_Slice (thn (hl c p σ A _ B E) λd F ⟨l,G,J,pl,K⟩=>thn (o c F σ G _ J K) λf a z=>?_);let{u,i,M,N,O}:=z;apply S7;have P:dN X c σ i {a with heap:=a.heap.push {cls:=.type "slice",data:=.fields #[d,f,.none]}}:=M.kept λb W q=>QK _ q;let{T,id,R,S,U}:=j c {a with heap:=a.heap.push {cls:=.type "slice",data:=.fields #[d,f,.none]}} σ i x v d f l u a.heap.objs.size Q P C (Heap.IsSliceOf.new ..) pl N O;exact tail_any (ops:=[.ref a.heap.objs.size,v]) S R U (by with_unfolding_all rfl)
def dO(xs:List V)(lo hi:Option Int):List V:=(xs.drop (_T.sIx xs.length 0 lo)).take (_T.sIx xs.length xs.length hi-_T.sIx xs.length 0 lo)
def nL(xs:List V)(lo hi:Option Int):(dO xs lo hi).length<=xs.length:=by unfold dO;rw[Rv,RS];exact Xn (RV _ _) (SZ _ _)
def MK(K:RP):V->Option Int->Option Int->Hp->VK->Prop:=λx lo hi H Q=>∃a b,x=.ref a/\qu K H a b/\
 ¬(_T.sIx b.length 0 lo=0/\_T.sIx b.length b.length hi=b.length)/\∀p,H p=none->Q (.ref p) (jl H p (.tup (dO b lo hi)))
def Ip:_r X (MK X.K):=by
 intro y s σ H x v z A lo hi B Q I n hs pl p h;let{a,c,rfl,u,hw,q}:=h;cases n;let{d,r,i,j}:=I.tuple u;have f:d.toArray.size=c.length:=by rw[Q2];exact r.length.symm
 exists "tuple",_,Uz.lookup,i.typeIs;refine _T.nh i hs pl p (by rw[f];exact hw) ?_ (by rw[f];exact j);rw[f];refine{.ref s.heap.objs.size,_,I.laid (o:=.tup (dO c lo hi)) (λb C q=>QK _ q) (Xm _) ?_,rfl,q _ (I.hok.fresh (Xm _))};exact{Xn (nL c lo hi) j,_,(r.drop (_T.sIx c.length 0 lo)).take (_T.sIx c.length c.length hi-_T.sIx c.length 0 lo),KX.new _ _}
def Iq(K:RP):R2:=λx y H Q=>∃a b ns c,x=.ref a/\y=.ref b/\qu K H a (ns.map V.int)/\qu K H b (c.map V.int)/\Q (.bl (_T.aL ns c)) H
def Al(d:X.A.units<Vk):NF X (TD .Lt) (Iq X.K):=by intro E s σ H x y v u Q I f i h;let{a,b,ns,j,rfl,rfl,n,o,q}:=h;cases f;cases i;let{p,r,z,_}:=I.tuple n;let{c,A,p2,_}:=I.tuple o;have B:=j0 r;have C:=j0 A;exact _T.yw z p2 B C d {.bl (_T.aL ns j),H,I,rfl,q}
def Li(K:RP):R2:=λx y H Q=>∃a b d c,x=.ref a/\y=.ref b/\qu K H a d/\qu K H b c/\d≠[]/\d.length+c.length<=S6/\
 (c= []->Q (.ref a) H)/\(c≠[]->∀p,H p=none->Q (.ref p) (jl H p (.tup (d++c))))
def eC.bb(r:eC xs us):us= []↔xs= []:=by
 cases r with
 |nil=>simp
 |cons _ _=>simp
def wV:NF X (UB .Add) (Li X.K):=by intro K s σ H x y v u Q I j n h;let{a,b,p,r,rfl,rfl,A,B,C,f,E,F}:=h;cases j;cases n;let{G,d,J,_}:=I.tuple A;let{i,c,p2,_}:=I.tuple B;refine _T.Fd J p2 (λz=>C (d.bb.mp z)) (λz=>{.ref a,H,I,rfl,E (c.bb.mp z)}) (λz=>?_) (by rw[<-d.length,<-c.length];exact f);refine{.ref s.heap.objs.size,_,I.laid (o:=.tup (p++r)) (λb M q=>QK _ q) (Xm _) ?_,rfl,F (λw=>z (c.bb.mpr w)) _ (I.hok.fresh (Xm _))};exact{by rw[QN];exact f,_,d.append c,KX.new _ _}
end
def YM(n:Nat)(i:Int):Option Nat:=if 0<=i then(if i<n then some i.toNat else none)else if -(n:Int)<=i then some (i+n).toNat else none
def NB{α:Type}(xs:List α)(i:Int):Option α:=(YM xs.length i).bind λj=>xs[j]?
def wW(h:YM n i=!j):WZ i n=!j/\j<n/\ -(n:Int)<=i/\i<n:=by
 unfold YM at h;by_cases b:0<=i
 .rw [Xf b]at h;by_cases a:i<n;.rw [Xf a]at h;have e:=Xr h;exact{by rw[Wd b a,e],by ext,by ext,a}
  .simp_all
 .rw [Xe b]at h;by_cases a: -(n:Int)<=i;.rw [Xf a]at h;have e:=Xr h;exact{by rw[VZ Xu a,e],by ext,a,by ext}
  .simp_all
def qH(h:NB xs i=!v):∃j,WZ i xs.length=!j/\xs[j]? =!v/\j<xs.length/\ -(xs.length:Int)<=i/\i<xs.length:=by
 unfold NB at h;cases e:YM xs.length i with
 |none=>simp_all
 |some j=>rw[e]at h;let{a,b,c,d}:=wW e;exact{(j),a,h,b,c,d}
def fq{xs:List α}{j:Nat}{v:α}(h:xs[j]? =!v):NB xs (j:Int)=!v:=by
 have a:=(Xj h).1;have e:YM xs.length (j:Int)=!j:=by unfold YM;rw[Xf Xu,Xf Xu];simp
 unfold NB;rw[e];exact h
def wX(b:Expr):Prop:=∀o i,subscripted b false o i=operate [o,i] (VM o i)
def _z(X:Cx)(r:R2):Prop:=
 ∀(b a:Expr) (c:List (Tu×Obj)) (s:S8) (σ:St) (H:Hp) (x y:V) (v u:S5) (Q:VK),dN X c σ H s->hB x v->hB y u->r x y H Q->
  subscripted a false v u=operate [v,u] (VM v u)->Tc (model X.prog X.w) X.A (subscriptTail b a v u) (EP X c σ Q) X.xe s
def Zw (X : Cx) (id : String) (r : V → List V → Hp → VK → Prop) : Prop :=
  ∀ (Xg : List (Tu × Obj)) (s : S8) (σ : St) (H : Hp) (x : V) (xs : List V) (v : S5) (us : List S5) (Q : VK), dN X Xg σ H s → hB x v → eC xs us → r x xs H Q →
    Tc (model X.prog X.w) X.A (call (.builtin id) (v :: us)) (EP X Xg σ Q) X.xe s
section
variable{X:Cx}{a b:Expr}{ta tb:TE}{pos:Pos}
def yA(c:_z X r)(d:PE X a ta)(e:PE X b tb)(hs:wX b):PE X (.Subscript a b pos) (XJ r ta tb):=by intro f s σ H Q I h;exact WB (BU d e I h λv u i x y j n o p q=>c a b f i σ j x y v u Q n o p q (hs _ _))
def Ir(K:RP):R2:=λx y H Q=>∃p c i v,x=.ref p/\y=.int i/\ip K H p c/\NB c i=!v/\Q v H
def ML(K:RP):R2:=λx y H Q=>∃p c i v,x=.ref p/\y=.int i/\qu K H p c/\NB c i=!v/\Q v H
def Iu:R2:=λx y H Q=>∃z i c,x=.str z/\y=.int i/\z.length<=S6/\NB z.cps.toList i=!c/\Q (.str {#[c]}) H
def Fe:_z X (Ir X.K):=by
 intro d e C s σ H x y v u Q I E F h hs;let{p,O,i,z,rfl,rfl,G,J,q}:=h;cases E;let{t,rfl}:=F;let{f,r,pl,P}:=I.list G;let{j,c,K,R,M,N}:=qH J;let{w,A,n}:=r.get K;have hl:=r.length;have hn:=lr;have fin:EP X C σ Q w s:={(z),H,I,n,q}
 by_cases B:0<=i
 .have o:i.toNat=j:=by
   rw[Wd B N]at c
   exact Xr c
  exact item_listR pl.isList B Xu (by rw[o];simpa using A) fin hs
 .have o:(i+(f.toArray.size:Int)).toNat=j:=by
   rw[VZ Xu M]at c
   rw[Q2,<-hl]
   exact Xr c
  exact subscriptTail_builtinR pl.isList.typeIs slot_list_getitem.lookup
   (wpAny_getItem_list_neg pl.isList Xu (by rw[Q2]<;>ext) Xu (by rw[o];simpa using A) {(rfl),fin}) hs
def Iw:_z X (ML X.K):=by
 intro c d f s σ H x y v u Q I n o h hs;let{p,J,i,z,rfl,rfl,A,B,q}:=h;cases n;let{t,rfl}:=o;let{C,r,pl,K}:=I.tuple A;let{j,E,F,M,N,O}:=qH B;let{w,G,e}:=r.get F;have hl:=r.length;have hn:=lr;have fin:EP X f σ Q w s:={(z),H,I,e,q}
 exact subscriptTail_builtinR pl.typeIs slot_tuple_getitem.lookup
  (getItem_tuple pl Xu Xu (by rw[Q2,<-hl];exact E) (~~~G) {(rfl),fin}) hs
def Am:_z X Iu:=by
 intro d e C s σ H x y v u Q I n o h hs;let{z,i,c,rfl,rfl,E,p,q}:=h;let{t,rfl}:=n;let{F,rfl}:=o;let{j,f,r,G,A,B}:=qH p;have hl:z.cps.toList.length=z.length:=by simp[VA.length]
 rw[hl]at f A B;have hn:=lr;exact tail_any (typeIs_str s z t) slot_str_getitem.lookup (getItem_str (by have e1:decide (i< -(2^63:Int))=false:=decide_eq_false Xu;have e2:decide (i>=2^63)=false:=decide_eq_false Xu;rw[e1,e2,Bool.or_false]) (by rw[f];simpa using r) {.str {#[c]},H,I.tok _,{_,rfl},q}) hs
def yB(c:List S5)(n j:Nat)(u:S5):Obj.mapSeq (·.setIfInBounds j u) {cls:=.type "list",data:=.seq c.toArray n}={cls:=.type "list",data:=.seq (c.set j u).toArray n}:=by simp[Obj.mapSeq]
theorem dN.lst{σ:St}(I:dN X Xg σ H s)(h:H p=!(.lst xs)):∃(c:List S5) (n:Nat),eC xs c/\s.heap.get? p=some {cls:=.type "list",data:=.seq c.toArray n}/\xs.length<=S6:=by
 let{z,c,n,r,e}:=I.hok p _ h;exact{(c),n,r,e,z}
def dN.b9{σ:St}{c:List S5}(I:dN X Xg σ H s)(h:H p=!(.lst xs)) (i:s.heap.get? p=some {cls:=.type "list",data:=.seq c.toArray n}) (d:f {cls:=.type "list",data:=.seq c.toArray n}={cls:=.type "list",data:=.seq its'.toArray n'}) (r:eC ys its') (j:ys.length<=S6) (t:Nat):
 dN X Xg σ (jl H p (.lst ys)) {s with heap:=s.heap.update p f,toks:=t}:=by
 have e:(s.heap.update p f).get? p=some {cls:=.type "list",data:=.seq its'.toArray n'}:=by rw[Heap.get?_update_self f i (by rw[d]<;>rfl),d]
 refine I.write (by rw[h];trivial) (.inl rfl) (λb u o q=>(Heap.get?_update_other _ _ (Ne.symm o)).trans q) {_,e} ?_;exact{(j),its',n',r,e}
def Lj:V->V->V->Hp->(Hp->Prop)->Prop:=λo i v H Q=>∃p c k j,o=.ref p/\i=.int k/\H p=!(.lst c)/\YM c.length k=!j/\Q (jl H p (.lst (c.set j v)))
def B7:yj X Lj:=by
 intro B s σ H o i v M N u Q I C E F h;let{p,G,k,j,rfl,rfl,f,J,q}:=h;cases C;let{t,rfl}:=E;let{c,n,r,e,K}:=I.lst f;let{d,O,x,y}:=wW J;have hl:=r.length;have hn:=lr;have z:dN X B σ (jl H p (.lst (G.set j v))) {s with heap:=s.heap.update p (Obj.mapSeq (·.setIfInBounds j u))}:=
  I.b9 f e (yB c n j u) (r.set F j) (by rw[RZ];exact K) s.toks
 by_cases A:0<=k
 .have hk:k.toNat=j:=by
   rw[Wd A y]at d
   exact Xr d
  exact PySem.W.ki_setAt e A Xu (by rw[Q2,<-hl];exact y) (by rw[hk];exact{_,z,q})
 .have hk:(k+(c.toArray.size:Int)).toNat=j:=by
   rw[VZ Xu x]at d
   rw[Q2,<-hl]
   exact Xr d
  exact PySem.W.ki_setBack e Xu (by rw[Q2,<-hl];exact x) Xu (by rw[hk];exact{_,z,q})
def ut(lo c:Option Int)(n:Nat):(Uy lo c none n).1=((_T.sIx n 0 lo:Nat):Int)/\(Uy lo c none n).2.1=((_T.sIx n n c:Nat):Int)/\(Uy lo c none n).2.2=1:=by
 refine{?_,?_,rfl}
 .cases lo with
  |none=>simp[Uy,_T.sIx]
  |some i=>
   simp only[Uy,_T.sIx,SR,show(1:Int)>0 by decide,if_true];by_cases h:i<0;.simp only[h,if_true]<;>ext
   .simp only[h,if_false]<;>ext
 .cases c with
  |none=>simp[Uy,_T.sIx]
  |some i=>
   simp only[Uy,_T.sIx,SR,show(1:Int)>0 by decide,if_true];by_cases h:i<0;.simp only[h,if_true]<;>ext
   .simp only[h,if_false]<;>ext
theorem sY(c:List S5)(lo d:Option Int):slicePick c.toArray lo d none=((c.drop (_T.sIx c.length 0 lo)).take (_T.sIx c.length c.length d-_T.sIx c.length 0 lo)).toArray:=by let{e,f,h}:=ut lo d c.toArray.size;unfold slicePick;rw[e,f,h];simp only[sliceRange_one,pick_run]<;>rfl
def MM(K:RP):V->Option Int->Option Int->Hp->VK->Prop:=λx d e H Q=>∃a c,x=.ref a/\ip K H a c/\∀p,H p=none->Q (.ref p) (jl H p (.lst (dO c d e)))
def wY:_r X (MM X.K):=by intro z s σ H x v A B d e C Q I i hs pl j h;let{a,c,rfl,n,q}:=h;cases i;let{p,r,f,u}:=I.list n;have y:=r.length;exists "list",_,slot_list_getitem.lookup,f.isList.typeIs;refine wpAny_getItem_list_slice f.isList hs pl j .none eq ?_ (by rw[Q2]<;>ext);rw[sY,<-y];refine{.ref s.heap.objs.size,_,I.laid (o:=.lst (dO c d e)) (λb E q=>QK _ q) (Xm _) ?_,rfl,q _ (I.hok.fresh (Xm _))};exact{Xn (nL c d e) u,_,0,(r.drop (_T.sIx c.length 0 d)).take (_T.sIx c.length c.length e-_T.sIx c.length 0 d),QR _ rfl}
def dJ:V->Bool
 |.non=>true
 |.bl _=>true
 |.int _=>true
 |.str _=>true
 |_=>false
def Zu:V->V->Bool
 |.non,.non=>true
 |.bl a,.bl b=>a==b
 |.bl a,.int b=>(if a then 1 else 0)==b
 |.int a,.bl b=>a==(if b then 1 else 0)
 |.int a,.int b=>a==b
 |.str a,.str b=>a==b
 |_,_=>false
def Ix(e:hB y u)(c:hB x v)(h:dJ y=true)(f:dJ x=true):SeqAt.EqAt A s u v (Zu y x):=by
 cases y with
 |non=>
  cases e;cases x with
  |non=>cases c;exact SeqAt.EqAt.same _
  |bl b=>cases c;exact SeqAt.EqAt.none_bool b
  |int b=>let{t,rfl}:=c;exact SeqAt.EqAt.none_int b t
  |str b=>let{t,rfl}:=c;exact SeqAt.EqAt.none_str b t
  |_=>exact absurd (f) Xp
 |bl a=>
  cases e;cases x with
  |non=>cases c;exact SeqAt.EqAt.bool_none a
  |bl b=>cases c;exact SeqAt.EqAt.bool_bool a b
  |int b=>let{t,rfl}:=c;exact SeqAt.EqAt.bool_int a b t
  |str b=>let{t,rfl}:=c;exact SeqAt.EqAt.bool_str a b t
  |_=>exact absurd (f) Xp
 |int a=>
  let{d,rfl}:=e;cases x with
  |non=>cases c;exact SeqAt.EqAt.int_none a d
  |bl b=>cases c;exact SeqAt.EqAt.int_bool a d b
  |int b=>let{t,rfl}:=c;exact SeqAt.EqAt.int_int a d b t
  |str b=>let{t,rfl}:=c;exact SeqAt.EqAt.int_str a d b t
  |_=>exact absurd (f) Xp
 |str a=>
  let{d,rfl}:=e;cases x with
  |non=>cases c;exact SeqAt.EqAt.str_none a d
  |bl b=>cases c;exact SeqAt.EqAt.str_bool a d b
  |int b=>let{t,rfl}:=c;exact SeqAt.EqAt.str_int a d b t
  |str b=>let{t,rfl}:=c;exact SeqAt.EqAt.str_str a d b t
  |_=>exact absurd (f) Xp
 |_=>exact absurd (h) Xp
def Zx(x:V)(u:S5):Bool:=match u with
 |.none=>Zu .non x
 |.bool b=>Zu (.bl b) x
 |.int i _=>Zu (.int i) x
 |.str z _=>Zu (.str z) x
 |_=>false
theorem An(r:hB y u)(f:dJ y=true):Zx x u=Zu y x:=by
 cases y with
 |non=>cases r;rfl
 |bl b=>cases r;rfl
 |int i=>let{t,rfl}:=r;rfl
 |str z=>let{t,rfl}:=r;rfl
 |_=>exact absurd (f) Xp
theorem qI:∀{xs:List V} {us:List S5},eC xs us->xs.all dJ=true->us.any (Zx x)=xs.any λy=>Zu y x
 |_,_,.nil,_=>rfl
 |y::xs,u::us,.cons r t,f=>by rw[List.all_cons,RE]at f;rw[Sr,Sr,An r f.1,qI t f.2]
theorem ow{s:S8}{x:V}{v:S5}(d:hB x v)(e:dJ x=true):∀{xs:List V} {us:List S5},eC xs us->xs.all dJ=true->∀u∈us,SeqAt.EqAt A s u v (Zx x u)
 |_,_,.nil,_=>λu c=>by cases c
 |y::xs,u::us,.cons r t,f=>λh c=>by
  rw[List.all_cons,RE]at f;rcases Xi c with rfl|c
  .rw [An r f.1];exact Ix r d f.1 e
  .exact ow d e t f.2 h c
def Z4(x:V)(xs:List V):Bool:=xs.any λy=>Zu y x
def rIn(K:RP)(neg:Bool):R2:=λx y H Q=>∃p c,y=.ref p/\(ip K H p c\/qu K H p c)/\dJ x=true/\c.all dJ=true/\Q (.bl (if neg then(not (Z4 x c))else Z4 x c)) H
def Ao:NF X (TD .In) (rIn X.K false):=by
 intro n s σ H x y v u Q I e i h;let{p,o,rfl,d,f,fs,q}:=h;cases i;rcases d with d|d
 .let{c,r,pl,j}:=I.list d;refine SeqAt.in_listAt (Zx x) pl.isList (λw hw=>ow e f r fs w (~~~hw)) {.bl _,H,I,rfl,?_};rw[show c.toArray.any (Zx x)=c.any (Zx x) by simp,qI r fs];exact q
 .let{c,r,pl,j}:=I.tuple d;refine SeqAt.in_tupleAt (Zx x) pl (λw hw=>ow e f r fs w (~~~hw)) {.bl _,H,I,rfl,?_};rw[show c.toArray.any (Zx x)=c.any (Zx x) by simp,qI r fs];exact q
def cF:bH X (.builtin "len") (λxs H Q=>∃p c,xs= [.ref p]/\(ip X.K H p c\/qu X.K H p c)/\Q (.int c.length) H):=by
 intro o s σ H xs v Q I r h;let{p,c,rfl,d,q}:=h;let{u,rfl,j}:=d6 r;cases j;have hn:=lr;rcases d with d|d
 .let{e,f,pl,n}:=I.list d;have i:=f.length;exact Calls.call_len_list pl.isList (by simp only[Q2]<;>ext) {.int c.length,H,I.tok _,{s.toks+1,by rw[Q2,i]},q}
 .let{e,f,pl,n}:=I.tuple d;have i:=f.length;exact len_tuple pl (by simp only[Q2]<;>ext) {.int c.length,H,I.tok _,{s.toks+1,by rw[Q2,i]},q}
def uu:bH X (.type "list") (λxs H Q=>∃p i,xs= [.ref p]/\(ip X.K H p i\/qu X.K H p i)/\∀l,H l=none->Q (.ref l) (jl H l (.lst i))):=by
 intro C s σ H xs G Q I r h;let{p,i,rfl,v,q}:=h;let{u,rfl,E}:=d6 r;cases E;have fin:∀(c:List S5),eC i c->i.length<=S6->∀(d:Heap) (f:Nat),(∀b B,s.heap.get? b=!B->d.get? b=!B)->
  d.get? s.heap.objs.size=some {cls:=.type "list",dict:=none,data:=.seq c.toArray f,slots:= #[]}->EP X C σ Q (.ref s.heap.objs.size) {s with heap:=d}:=λc j x d f y e=>
  {.ref s.heap.objs.size,_,I.laid y (Xm _) (show ni X.prog X.w _ d _ (.lst i)from{(x),c,f,j,e}),rfl,q _ (I.hok.fresh (Xm _))}
 rcases v with v|v;.let{c,j,pl,x}:=I.list v;have F:=j.length;let{o,z,hc,n,A}:=pl.isList;exact call_list_seq p (.inl rfl) z hc A (λd f y e=>fin c j x d f y e) (by simp only[Q2]<;>ext)
 .let{c,j,pl,x}:=I.tuple v;have F:=j.length;let{o,z,hc,n,A}:=pl;exact call_list_seq p (.inr rfl) z hc A (λd f y e=>fin c j x d f y e) (by simp only[Q2]<;>ext)
def tyV (K : RP) (T : String) (x : V) (H : Hp) : Prop := match x with
  | .str _ => T = "str"
  | .int _ => T = "int"
  | .ref p => (T = "list" ∧ ∃ xs, ip K H p xs) ∨ (T = "tuple" ∧ ∃ o, K.lookup p = some o ∧ o.cls = .type "tuple" ∧ o.dict = none) ∨
      (T = "dict" ∧ ((∃ kvs, H p = some (.dK kvs)) ∨ ∃ kvs, H p = some (.dT kvs))) ∨ (T = "set" ∧ ∃ S n, H p = some (.set S n))
  | _ => False
def iI{σ:St}(I:dN X Xg σ H s)(r:hB x v)(ty:tyV X.K T x H):s.TypeIs v T/\∀a,v=.ref a->∃j,s.heap.get? a=!j/\j.dict=none:=by
 cases x with
 |str z=>let{t,rfl}:=r;cases(ty);exact{typeIs_str s z t,λ_ e=>nomatch e}
 |int i=>let{t,rfl}:=r;cases(ty);exact{typeIs_int s i t,λ_ e=>nomatch e}
 |ref p=>
  cases r;rcases ty with ⟨rfl,y,q⟩|⟨rfl,o,hk,hc,f⟩|⟨rfl,hk⟩|⟨rfl,S,n,hk⟩
  .let{u,_,pl,_}:=I.list q;refine{pl.isList.typeIs,λa e=>?_};cases e;let{o,n,e,c,f,_}:=pl;exact{(o),e,f}
  .refine{{o,I.J p o hk,hc},λa e=>?_};cases e;exact{o,I.J _ o hk,f}
  .have z:∃o,s.heap.get? p=!o/\o.ExactDict:=by
    rcases hk with ⟨h,hk⟩|⟨h,hk⟩
    .let{_,_,_,_,o,_,_,e,d,_}:=I.hok p _ hk;exact{(o),e,d}
    .let{_,_,_,_,o,_,_,e,d,_}:=I.hok p _ hk;exact{(o),e,d}
   let{o,e,d}:=z
   refine{{(o),e,d.1},λa e2=>?_}
   cases e2
   exact{(o),e,d.2.1}
  .let{o,_,_,_,e,d,_}:=I.hok p _ hk;refine{{(o),e,d.1},λa e2=>?_};cases e2;exact{(o),e,d.2.1}
 |_=>exact False.elim ty
def Iy (K : RP) (T : String) (r : V → List V → Hp → VK → Prop) (to : TE) : TE := fun σ H Q => to σ H fun x H1 => tyV K T x H1 ∧ r x [] H1 Q
def tBM (K : RP) (T : String) (r : V → List V → Hp → VK → Prop) (to : TE) (t : TA) : TE := fun σ H Q => to σ H fun x H1 => tyV K T x H1 ∧ t σ H1 fun xs H2 => r x xs H2 Q
variable{o e:Expr}{es:List Expr}{to:TE}{t:TA}{name:VA}{apos cpos:Pos}{T id:String}{r:V->List V->Hp->VK->Prop}
def eY(q:PlainAttrs T)(f:Slot T name id)(i:typeOf (.builtin id)=pure (.type "method_descriptor"))(u:Zw X id r)(y:PE X o to) (c:‹TF o name X.env (eval o X.env)=eval o X.env›) (d:‹(apos.endLine==cpos.line)=true›):PE X (.Call (.Attribute o name apos) [] [] cpos) (Iy X.K T r to):=by
 intro j s σ H Q I h;refine TU c d (thn (y j s σ H _ I h) λv A z=>?_);let{x,B,n,p,ty,C}:=z;let{E,F}:=iI n p ty;exact{T,id,q,f,i,E,F,Calls.callWith_builtin rfl (T7 (u j A σ B x [] v [] Q n p .nil C))}
def pD(B:PlainAttrs T)(i:Slot T name id)(n:typeOf (.builtin id)=pure (.type "method_descriptor"))(C:Zw X id r)(E:PE X o to)(F:PA X (e::es) t) (d:‹TF o name X.env (eval o X.env)=eval o X.env›)
 (j:‹((Um cpos (Te (e::es) X.env)).all (λx=>not x.1)&&(Us cpos (TW [] X.env)).all (λx=>x.1.isSome)
  && decide ((e::es).length+([]:List UW).length+(if([]:List UW).isEmpty then 0 else 1)<30))=true›)
 (f:‹(apos.endLine==cpos.line)=true›) (hs:‹Te (e::es) X.env=(false,eval e X.env)::Te es X.env›) (c:‹(Um cpos (Te es X.env)).any (·.1)=false›):
 PE X (.Call (.Attribute o name apos) (e::es) [] cpos) (tBM X.K T r to t):=by
 intro p s σ H Q I h;refine wpAny_Call_method_late d j f rfl (thn (E p s σ H _ I h) λv G y=>?_);let{x,J,q,u,ty,K}:=y;let{M,N}:=iI q u ty;exists T,id,B,i,n,M,N;have A:=F cpos p G σ J _ q K;rw[hs]at A⊢;refine Calls.callWith_builtin (by show(false || (Um cpos (Te es X.env)).any (·.1))=false;rw[c]<;>rfl) (Calls.evalArgs_plain ?_);exact thn A λO P z=>by let{R,S,U,W,Y}:=z;exact C p P σ S x R v O Q U u W Y
/- xs.append(e),list.index on a module's tuple .. are Zw facts of 06m -/
end
def MtM (X : Cx) (id : String) (r : V → List V → Hp → VK → Prop) : Prop :=
  ∀ (Xg : List (Tu × Obj)) (s : S8) (σ : St) (H : Hp) (x : V) (xs : List V) (v : S5) (us : List S5) (Q : VK), dN X Xg σ H s → hB x v → eC xs us → r x xs H Q →
    Tc (model X.prog X.w) X.A (call (.builtin id) (v :: us)) (EP X Xg σ Q) X.xe s
theorem eC.one:∀{x:V} {us:List S5},eC [x] us->∃u,us= [u]/\hB x u:=by
 intro x us h;cases h with
 |cons r t=>cases t;exact{_,rfl,r}
def eC.two:∀{x y:V} {us:List S5},eC [x,y] us->∃u v,us= [u,v]/\hB x u/\hB y v:=by
 intro x y us h;cases h with
 |cons r t=>
  cases t with
  |cons q t=>cases t;exact{_,_,rfl,r,q}
theorem eC.zero:∀{us:List S5},eC [] us->us= []
 |_,.nil=>rfl
def eC.dropLast(h:eC xs us):eC xs.dropLast us.dropLast:=by
 induction h with
 |nil=>exact .nil
 |cons r t a=>
  cases t with
  |nil=>exact .nil
  |cons q b=>exact .cons r a
theorem eC.eraseIdx:∀{xs:List V} {us:List S5} (i:Nat),eC xs us->eC (xs.eraseIdx i) (us.eraseIdx i)
 |_,_,_,.nil=>.nil
 |_,_,0,.cons _ t=>t
 |_,_,i+1,.cons r t=>.cons r (eC.eraseIdx i t)
theorem eC.reverse(h:eC xs us):eC xs.reverse us.reverse:=by
 induction h with
 |nil=>exact .nil
 |cons r t a=>rw[R8,R8];exact eC.append a (.cons r .nil)
def _a{α:Type}(l:List α):l.eraseIdx (l.length-1)=l.dropLast:=by grind
theorem sf{α:Type}:∀(l:List α) (i:Nat),(l.eraseIdx i).length<=l.length
 |[],_=>Xm _
 |_::_,0=>R0 _
 |_::r,i+1=>Rh (sf r i)
section
variable{X:Cx}{Xg:List (Tu×Obj)}{σ:St}{H:Hp}{s:S8}{l b:Tu}{xs ys zs:List V}
def dN.bc{a:List S5}(I:dN X Xg σ H s)(c:H l=!(.lst xs)) (e:s.heap.get? l=some {cls:=.type "list",data:=.seq a.toArray n}) (d:f a.toArray=its'.toArray) (h:eC ys its') (i:ys.length<=S6):
 dN X Xg σ (jl H l (.lst ys)) {s with heap:=s.heap.update l (Obj.mapSeq f),toks:=t'}:=by
 have q:=PySem.IsL.update e f;rw[d]at q;refine I.write (by rw[c];exact trivial) (.inl rfl) (λp u j o=>(Heap.get?_update_other s.heap (Obj.mapSeq f) (Ne.symm j)).trans o) {_,q} ?_;exact{i,its',_,h,q}
def dN.lnew(I:dN X Xg σ H s)(a:eC ys its)(c:ys.length<=S6):dN X Xg σ (jl H s.heap.objs.size (.lst ys)) {s with heap:=s.heap.push {cls:=.type "list",data:=.seq its.toArray},toks:=t'}:=
 I.laid (λ_ _ q=>QK _ q) (Xm _) {c,its,0,a,QR _ rfl}
def dN.fresh(I:dN X Xg σ H s):H s.heap.objs.size=none:=I.hok.fresh (Xm _)
def dN.av(I:dN X Xg σ H s)(c:H l=!(.lst xs)):xs.length<=S6/\∃(a:List S5) (n:Nat),eC xs a/\xs.length=a.length/\s.heap.get? l=some {cls:=.type "list",data:=.seq a.toArray n}:=by let{z,a,n,r,e}:=I.hok l _ c;exact{(z),a,n,r,r.length,e}
end
#print b
def qJ:V->List V->Hp->VK->Prop:=λx b H Q=>∃l a y,x=.ref l/\b= [y]/\H l=!(.lst a)/\a.length<S6/\Q .non (jl H l (.lst (a++[y])))
def sj:MtM X "list.append" qJ:=by intro i s σ H x j v o Q I c d h;let{l,p,y,rfl,rfl,b,A,q}:=h;cases c;let{u,rfl,f}:=d.one;let{z,a,n,r,hl,e}:=I.av b;refine Uk F.slot_list_append {_,e,rfl} F.entry_list_append (F.args_list_append_2 _ _) (PySem.list_append l a.toArray n u (by rw[Q2];ext)) {e,?_};refine{.non,_,I.bc (its':=a++[u]) b e eq (r.append (.cons f .nil)) ?_,rfl,q};rw[QN,Q0];ext
def MN:V->List V->Hp->VK->Prop:=λx b H Q=>∃l a y,x=.ref l/\b= []/\H l=!(.lst a)/\a[a.length-1]? =!y/\Q y (jl H l (.lst a.dropLast))
def Iz:MtM X "list.pop" MN:=by
 intro A s σ H x B v C Q I f i h;let{l,E,y,rfl,rfl,d,j,q}:=h;cases f;have b:=i.zero;subst b;let{z,a,n,r,hl,e}:=I.av d;let{u,o,p}:=r.get j;have c:a.toArray[a.toArray.size-1]? =!u:=by show a.toArray[a.length-1]? =!u;rw[<-Array.getElem?_toList,<-hl];exact o
 refine Uk F.slot_list_pop {_,e,rfl} F.entry_list_pop (F.args_list_pop_1 _) (MeetsSeq.list_pop_last l a.toArray n u c (by rw[Q2];ext)) {e,?_};refine{y,_,I.bc d e ?_ r.dropLast ?_,p,q};.simp_all
 .rw [List.length_dropLast];ext
def IA:V->List V->Hp->VK->Prop:=λx b H Q=>∃l a i k y,x=.ref l/\b= [.int i]/\H l=!(.lst a)/\ -(2^63)<=i/\i<2^63/\WZ i a.length=!k/\a[k]? =!y/\Q y (jl H l (.lst (a.eraseIdx k)))
def B8:MtM X "list.pop" IA:=by
 intro C s σ H x E v G Q I d f h;let{l,j,i,k,y,rfl,rfl,c,o,p,hk,A,q}:=h;cases d;let{u,rfl,B}:=f.one;let{t,rfl}:=B;let{z,a,n,r,hl,e}:=I.av c;let{w,hw,b}:=r.get A;refine Uk F.slot_list_pop {_,e,rfl} F.entry_list_pop (F.args_list_pop_2 _ _)
  (MeetsSeq.list_pop_at l a.toArray n i t k w (fitsIndex_both o p) (by rw[Q2,<-hl];exact hk) (by rw[<-Array.getElem?_toList];ext)) {e,?_}
 refine{y,_,I.bc c e ?_ (r.eraseIdx k) ?_,b,q};.simp_all
 .have:=sf j k;ext
def MO:R2:=λx y H Q=>∃l b a c,x=.ref l/\y=.ref b/\H l=!(.lst a)/\H b=!(.lst c)/\a.length+c.length<=S6/\∀p,H p=none->Q (.ref p) (jl H p (.lst (a++c)))
def IB:NF X (UB .Add) MO:=by
 intro B s σ H x y v u Q I d f h;let{l,b,C,E,rfl,rfl,i,j,F,q}:=h;cases d;cases f;let{z,c,n,r,hl,e}:=I.av i;let{G,a,J,o,p,e2}:=I.av j;refine PySem.P.add_list e e2 ?_ (by rw[Q2,Q2];ext);have A:c.toArray++a.toArray=(c++a).toArray:=by simp
 rw[A];exact{.ref _,_,I.lnew (r.append o) (by rw[QN];ext),rfl,q _ I.fresh}
end
#print d
end
#print b
end
section
variable{κ:Type}[DecidableEq κ]
def bc(kvs:List (κ×V))(k:κ):Option V:=(kvs.find? λa=>decide (a.1=k)).map (·.2)
def bR(kvs:List (κ×V))(k:κ)(v:V):List (κ×V):=
 if(kvs.any λa=>decide (a.1=k))=true then kvs.map (λa=>if a.1=k then(a.1,v)else a)else kvs++[(k,v)]
def je(kvs:List (κ×V))(k:κ):List (κ×V):=kvs.filter λa=>decide (a.1≠k)
theorem dP{p:κ×V}(e:p.1=k):bc (p::r) k=!p.2:=by simp[bc,e]
theorem dQ{p:κ×V}(e:¬p.1=k):bc (p::r) k=bc r k:=by simp[bc,e]
theorem uv(k:κ):∀kvs:List (κ×V),(kvs.any λa=>decide (a.1=k))=(bc kvs k).isSome
 |[]=>rfl
 |p::r=>by
  rw[Sr];by_cases e:p.1=k;.simp only[dP e,decide_eq_true e,Bool.true_or,Option.isSome_some]
  .rw [dQ e,decide_eq_false e];exact uv k r
def jw(kvs:List (κ×V))(k:κ)(v:V):(bR kvs k v).length<=kvs.length+1:=by
 unfold bR;split;.grind
 .simp_all
theorem si.ai(r:si o u):o.isSome=u.isSome:=by
 cases o with
 |none=>cases u with
  |none=>rfl
  |some _=>exact(r).elim
 |some _=>cases u with
  |none=>exact(r).elim
  |some _=>rfl
theorem si.getD(r:si o u)(a:hB d d'):hB (o.getD d) (u.getD d'):=by
 cases o with
 |none=>cases u with
  |none=>exact a
  |some _=>exact(r).elim
 |some _=>cases u with
  |none=>exact(r).elim
  |some _=>exact r
theorem KV.val(r:KV kvs vs)(k:κ):si (bc kvs k) (We vs k):=by
 induction r with
 |nil=>exact True.intro
 | @cons p q j a h t f=>
  let{d,i}:=h;by_cases e:p.1=k;.have c:=d.symm.trans e;have b:We (q::a) k=!q.2:=(by simp[We,c]);rw[dP e,b];exact i
  .have c:¬q.1=k:=λz=>e (d.trans z);have b:We (q::a) k=We a k:=(by simp[We,c]);rw[dQ e,b];exact f
theorem KV.any(r:KV kvs vs)(k:κ):(kvs.any λa=>decide (a.1=k))=vs.any λa=>decide (a.1=k):=by
 induction r with
 |nil=>rfl
 |cons h t b=>simp_all
def KV.bw(r:KV kvs vs)(k:κ)(c:hB y u):KV (kvs.map λa=>if a.1=k then(a.1,y)else a) (vs.map λa=>if a.1=k then(a.1,u)else a):=by
 induction r with
 |nil=>exact .nil
 | @cons p q d f h t b=>
  rw[QU,QU];refine .cons ?_ b;let{i,j}:=h;by_cases e:p.1=k;.simp_all
  .simp_all
theorem KV.put(r:KV kvs vs)(k:κ)(a:hB y u):KV (bR kvs k y) (stored vs k u):=by
 unfold bR stored;rw[r.any k];by_cases e:(vs.any λb=>decide (b.1=k))=true;.rw [Xf e,Xf e];exact r.bw k a
 .rw [Xe e,Xe e];exact UM.snoc r {(rfl),a}
theorem KV.drop(r:KV kvs vs)(k:κ):KV (je kvs k) (without vs k):=by
 unfold je without;induction r with
 |nil=>exact .nil
 | @cons p q j n h t d=>
  let{c,f}:=h;rw[R3,R3];by_cases e:p.1=k;.simp_all
  .have i:¬q.1=k:=λz=>e (c.trans z);have a:decide (p.1≠k)=true:=(by simp[e]);have b:decide (q.1≠k)=true:=(by simp[i]);rw[Xf a,Xf b];exact .cons {(c),f} d
theorem KV.keys{kvs:List (κ×V)}(r:KV kvs vs):kvs.map (·.1)=vs.map (·.1):=by
 induction r with
 |nil=>rfl
 |cons h t a=>simp_all
theorem KV.length{kvs:List (κ×V)}(r:KV kvs vs):kvs.length=vs.length:=UM.length r
def B9(kvs:List (κ×V))(k:κ):(je kvs k).length<=kvs.length:=List.length_filter_le _ _
end
def gC(r:hB (kV k) u):(aF P w).is k u=true:=by
 cases k with
 |inl i=>let{t,e}:=(r);subst e;exact wc P w i t
 |inr x=>let{t,e}:=(r);subst e;exact we P w x t
theorem sk:∀{a:List hH} {us:List S5},eC (a.map kV) us->ItemsAre (aF P w) a us
 |[],_,r=>by rw[SU]at r;cases r;exact .nil
 |k::a,_,r=>by
  cases r with
  |cons h t=>exact .cons (gC h) (sk t)
abbrev KT(H:Hp):List (List hH×V)->List (List hH×Tu×S5)->Prop:=UM λp q=>p.1=q.1/\H q.2.1=!(.tup (p.1.map kV))/\hB p.2 q.2.2
theorem KT.val(r:KT H kvs xs)(k:List hH):si (bc kvs k) ((W0 xs k).map (·.2)):=by
 induction r with
 |nil=>exact True.intro
 | @cons p q j a h t f=>
  let{d,_,i}:=h;by_cases e:p.1=k;.have c:=d.symm.trans e;have b:W0 (q::a) k=!q.2:=(by simp[W0,c]);rw[dP e,b];exact i
  .have c:¬q.1=k:=λz=>e (d.trans z);have b:W0 (q::a) k=W0 a k:=(by simp[W0,c]);rw[dQ e,b];exact f
def KT.bw(r:KT H kvs xs)(k:List hH)(d:hB y u):KT H (kvs.map λb=>if b.1=k then(b.1,y)else b) (xs.map (putAt k u)):=by
 induction r with
 |nil=>exact .nil
 | @cons p q j n h t f=>
  rw[QU];refine .cons ?_ f;let{a,c,i}:=h;unfold putAt;by_cases e:p.1=k;.rw [Xf e,Xf (a.symm.trans e)];exact{(a),c,d}
  .rw [Xe e,Xe (λz=>e (a.trans z))];exact{(a),c,i}
theorem KT.put(r:KT H kvs xs)(k:List hH)(c:H b=!(.tup (k.map kV)))(a:hB y u):KT H (bR kvs k y) (storedH xs k b u):=by
 have e:(kvs.any λd=>decide (d.1=k))=(W0 xs k).isSome:=by rw[uv,(r.val k).ai,SJ]
 unfold bR storedH;rw[e];by_cases q:(W0 xs k).isSome=true;.rw [Xf q,Xf q];exact r.bw k a
 .rw [Xe q,Xe q];exact UM.snoc r {(rfl),c,a}
theorem KT.keeps(r:KT H kvs xs)(c:∀b a,H b=!(.tup a)->H' b=!(.tup a)):KT H' kvs xs:=
 UM.b6 r λ_ _ z=>{z.1,c _ _ z.2.1,z.2.2}
section
variable{P:S9}{w:Td}{H:Hp}{h:Heap}{a:Tu}
def Ef(ok:LX P w H h)(e:Rd H a u):ni P w H h a u:=e.ok ok
theorem mK(ok:LX P w H h)(e:Rd H a (.dK kvs)):kvs.length<=S6/\(a==TK)=false/\∃vs,KV kvs vs/\h.DictOf (aF P w) a vs:=
 show ni P w H h a (.dK kvs)from Ef ok e
def gD(ok:LX P w H h)(e:H a=!(.dK kvs)):kvs.length<=S6/\(a==TK)=false/\∃vs,KV kvs vs/\h.DictOf (aF P w) a vs:=mK ok (.inl e)
def lA(ok:LX P w H h)(e:H a=!(.tup (ks.map kV))):(Vo (aF P w)).is h ks a:=by
 let{_,b,r,o,c,d,n,f}:=(ok a _ e)
 exact{o,b.toArray,n,c,d,f.1,by simpa using sk r}
def mL(ok:LX P w H h)(e:Rd H a (.dT kvs)):kvs.length<=S6/\(a==TK)=false/\∃xs,KT H kvs xs/\h.DictOfH (Vo (aF P w)) a xs:=by
 let{z,y,xs,r,o,es,d,f,i,j,n,u}:=(Ef ok e)
 refine{z,y,xs,r,o,es,d,f,i,j,n,λx b=>?_,u};have all:∀{l:List (List hH×V)} {m:List (List hH×Tu×S5)},KT H l m->∀x∈m,(Vo (aF P w)).is h x.1 x.2.1:=by
  intro l m q;induction q with
  |nil=>simp_all
  | @cons p q A B c t v=>
   intro x b;rcases Xi b with e|b
   .subst e;exact lA ok (by rw[<-c.1];exact c.2.1)
   .exact v x b
 exact all r x b
def Lk(ok:LX P w H h)(e:H a=!(.dT kvs)):kvs.length<=S6/\(a==TK)=false/\∃xs,KT H kvs xs/\h.DictOfH (Vo (aF P w)) a xs:=mL ok (.inl e)
end
def Xz(H:Hp)(a:Tu)(y:V)(r:Option V):Prop:=
 (∃c k,Rd H a (.dK c)/\y=kV k/\r=bc c k)\/∃c k b,Rd H a (.dT c)/\y=.ref b/\H b=!(.tup (k.map kV))/\r=bc c k
def Zj(H:Hp)(a:Tu)(y v:V)(d:Hp):Prop:=
 (∃c k,H a=!(.dK c)/\y=kV k/\c.length<S6/\d=jl H a (.dK (bR c k v)))\/
 ∃c k b,H a=!(.dT c)/\y=.ref b/\H b=!(.tup (k.map kV))/\c.length<S6/\d=jl H a (.dT (bR c k v))
theorem Xz.k{k:hH}(e:H a=!(.dK kvs)):Xz H a (kV k) (bc kvs k):=.inl {kvs,k,.inl e,rfl,rfl}
theorem Zj.k{k:hH}(e:H a=!(.dK kvs))(hl:kvs.length<S6):Zj H a (kV k) v (jl H a (.dK (bR kvs k v))):=.inl {(kvs),k,e,rfl,hl,rfl}
section
variable{X:Cx}{Xg:List (Tu×Obj)}{σ:St}{H:Hp}{s:S8}{a:Tu}{y v:V}{u r:S5}{o:Option V}{A:Tj}{E:S5->S8->Prop}
theorem dN.big(I:dN X Xg σ H s):TK<s.heap.objs.size:=by have h:=(I.mod.glob.keeps I.bk).lt;exact Sg Xs h
def Ap(B:A.units+1<Vk)(I:dN X Xg σ H s)(g:Xz H a y (!v))(x:hB y u)(h:∀f s',dN X Xg σ H s'->hB v f->Q f s'):Tc (model X.prog X.w) A (VM (.ref a) u) Q E s:=by
 rcases g with ⟨i,k,e,j,l⟩|⟨i,k,b,e,j,C,l⟩
 .subst j;let{z,F,K,c,n}:=mK I.hok e;let{f,hw,d}:=si.some_of (by rw[l];exact c.val k);exact wpAny_getItem_of (gC x) n.mapOf hw (h f _ (I.tok _) d)
 .subst j;cases(x);let{z,F,G,c,n}:=mL I.hok e;let{f,hw,d}:=si.some_of (o:=(W0 G k).map (·.2)) (by rw[l];exact c.val k);let{p,J,q}:=Xq hw;apply wpAny_getItem_heap (Ut B) (lA I.hok C) n J;rw[q];exact h f _ (I.tok _) d
def MP(p:A.units+1<Vk)(I:dN X Xg σ H s)(g:Xz H a y o)(n:hB y u)(h:∀s',dN X Xg σ H s'->Q (.bool o.isSome) s'):Tc (model X.prog X.w) A (TD .In u (.ref a)) Q E s:=by
 rcases g with ⟨d,k,e,f,l⟩|⟨d,k,b,e,f,x,l⟩
 .subst f;let{z,i,B,c,j}:=mK I.hok e;apply wpAny_in_of (gC n) i j.mapOf;rw[<-(c.val k).ai,<-l];exact h _ (I.tok _)
 .subst f;cases(n);let{z,i,C,c,j}:=mL I.hok e;apply wpAny_in_heap (Ut p) (lA I.hok x) i j;have q:=(c.val k).ai;rw[SJ]at q;rw[<-q,<-l];exact h _ (I.tok _)
def qK(I:dN X Xg σ H s)(mu:_Z (H a))(hs:Heap.SameBut a s.heap h')(c:∃q,h'.get? a=!q)(new:ni X.prog X.w (jl H a ob) h' a ob):dN X Xg σ (jl H a ob) {s with heap:=h',toks:=t'}:=
 I.write mu (.inl rfl) (λb q d z=>(hs.2 b d).trans z) c new
def Aq(z:kvs.length<=S6)(c:(a==TK)=false)(b:KV kvs vs)(d:h'.DictOf (aF P w) a vs):ni P w H' h' a (.dK kvs):={(z),c,vs,b,d}
def Ar(M:A.units+1<Vk)(I:dN X Xg σ H s)(g:Zj H a y v H')(C:hB y u)(F:hB v r)(h:∀s',dN X Xg σ H' s'->Q () s'):Tc (model X.prog X.w) A (setItem (.ref a) u r) Q E s:=by
 rcases g with ⟨d,k,e,n,l,p⟩|⟨d,k,b,e,n,G,l,p⟩
 .subst n p;let{z,x,N,f,B}:=gD I.hok e;have O:N.length<=S6:=by rw[<-f.length];exact z
  have hl:(bR d k v).length<=S6:=by have:=jw d k v;ext
  refine wpAny_setItem_pairs (gC C) B λJ i hs=>h _ ?_;have P:∃q,J.get? a=!q:=let ⟨q,_,_,j,_⟩:=i;{(q),j};exact qK I (by rw[e];exact True.intro) hs P (Aq hl x (f.put k F) i)
 .subst n p;cases(C);let{z,x,R,f,B}:=Lk I.hok e;have O:R.length<=S6:=by rw[<-UM.length f];exact z
  have hl:(bR d k v).length<=S6:=by have:=jw d k v;ext
  refine wpAny_setItem_heap (Ut M) (lA I.hok G) B λJ i hs=>h _ ?_;let{q,es,S,j,T,U,W,_,Y}:=i;refine qK I (by rw[e];exact True.intro) hs {(q),j} {hl,x,_,(f.put k G F).keeps λc Z K=>?_,q,es,S,j,T,U,W,Y};rw[aN (Lf K e (λz=>nomatch z))];exact K
end
section
variable{X:Cx}{Xg:List (Tu×Obj)}{σ:St}{H:Hp}{s:S8}{a:Tu}{kvs:List (hH×V)}{k:hH}{u:S5}{A:Tj}{E:S5->S8->Prop}
def Lm(I:dN X Xg σ H s)(e:H a=!(.dK kvs))(f:hB (kV k) u)(l:bc kvs k=!v)(n:more= []\/∃x,more= [x]) (h:∀c s',dN X Xg σ (jl H a (.dK (je kvs k))) s'->hB v c->Q c s'):Tc (model X.prog X.w) A (call (.builtin "dict.pop") (.ref a::u::more)) Q E s:=by
 let{z,p,r,b,o}:=gD I.hok e;let{c,hw,j}:=si.some_of (by rw[<-l];exact b.val k);have y:(keyPart u).isSome=true:=by
  cases k with
  |inl i=>let{t,q}:=(f);subst q;rfl
  |inr x=>let{t,q}:=(f);subst q;rfl
 have B:argsOk "dict.pop" ⟨.ref a::u::more,[]⟩:=by
  rcases n with q|⟨x,q⟩;.subst q;exact PySem.F.args_dict_pop_2 _ _
  .subst q;exact PySem.F.args_dict_pop_3 _ _ _
 refine Uq Vz o.typeIs PySem.F.entry_dict_pop B (meets_dict_pop_there (aF X.prog X.w) a (gC f) more n y)
  {r,c,o,by rw[<-b.length];exact z,hw,λC d hs=>h c _ ?_ j}
 have F:∃q,C.get? a=!q:=let ⟨q,_,_,G,_⟩:=d;{(q),G};exact qK I (by rw[e];exact True.intro) hs F (Aq (Xn (B9 kvs k) z) p (b.drop k) d)
end
def Ca(i:Expr):Prop:=∀a b,subscripted i false a b=operate [a,b] (VM a b)
def wZ {id : String}
    (hl : Ux (.type T) "__getitem__" = pure (some (.builtin id))) (hs : Ca slice)
    (h : Tc (model prog w) A (eval value env) (fun o s₁ => Tc (model prog w) A (eval slice env) (fun i s₂ => s₂.TypeIs o T ∧ Tc (model prog w) A (VM o i) Q E s₂) E s₁) E s) :
    Tc (model prog w) A (eval (.Subscript value slice pos) env) Q E s := by
  refine WB (Tp h (fun o s₁ h₁ => Tp h₁ (fun i s₂ h₂ => ?_) fun _ _ x => x) fun _ _ x => x)
  obtain ⟨hT, h₂⟩ := h₂
  apply S4
  refine S4 (wpAny_specialOf hT hl ?_)
  have fin : Tc (model prog w) A (subscripted slice false o i) (fun r s₃ => Tc (model prog w) A (letTemporaryGo value o r >>= fun _ => pure r) Q E s₃) E s₂ := by
    rw [hs o i]
    exact wpAny_operating (Tp h₂ (fun r s₃ h₃ => S4 (wpAny_letTemporaryGo (S7 h₃))) fun _ _ x => x)
  first
    | exact S7 (S4 fin)
    | exact S4 (S7 (S4 fin))
    | exact S4 fin
def wf{σ:St}(I:dN X Xg σ H s)(g:Xz H a y o):s.TypeIs (.ref a) "dict":=by
 rcases g with ⟨c,k,e,_⟩|⟨c,k,b,e,_⟩
 .let{_,_,f,_,d}:=mK I.hok e;exact d.typeIs
 .let{_,_,h,_,d}:=mL I.hok e;exact d.typeIs
section
variable{X:Cx}{o i e value:Expr}{pos pos' tpos:Pos}{td ty tv:TE}
end
def Cb(h:Heap)(a:TK<h.objs.size):ni P w H (h.push {cls:=.type "dict",data:=.dict #[]}) h.objs.size (.dK []):=
 {Ra _,beq_eq_false_iff_ne.mpr (Ne.symm (Q8 a)),[],.nil,Heap.DictOf.new h}
def As:TE:=λ_ H Q=>∀p,H p=none->Q (.ref p) (jl H p (.dK []))
section
variable{X:Cx}{pos:Pos}
def Cg:PE X (.Dict [] [] pos) As:=λa s σ H Q I h=>
 wpAny_Dict_empty {.ref s.heap.objs.size,_,I.laid (o:=.dK []) (λ_ _ q=>QK _ q) (Xm _) (Cb s.heap I.big),rfl,h _ (I.hok.fresh (Xm _))}
end
def Au:List (TE×TE)->St->Hp->(List (V×V)->Hp->Prop)->Prop
 |[],_,H,Q=>Q [] H
 |(a,b)::r,σ,H,Q=>a σ H λx c=>b σ c λy d=>Au r σ d λe f=>Q ((x,y)::e) f
structure M1(X:Cx)(o:Expr)(m:VA)(apos:Pos)(e:Expr)(cpos:Pos):Prop where
 base:TF o m X.env (eval o X.env)=eval o X.env
 few:((Um cpos (Te [e] X.env)).all (λx=>not x.1)&&(Us cpos (TW [] X.env)).all (λx=>x.1.isSome)
  && decide (([e]:List Expr).length+([]:List UW).length+(if([]:List UW).isEmpty then 0 else 1)<30))=true
 line:(apos.endLine==cpos.line)=true
 trees:Um cpos (Te [e] X.env)= [(false,eval e X.env)]
structure M2(X:Cx)(o:Expr)(m:VA)(apos:Pos)(e f:Expr)(cpos:Pos):Prop where
 base:TF o m X.env (eval o X.env)=eval o X.env
 few:((Um cpos (Te [e,f] X.env)).all (λx=>not x.1)&&(Us cpos (TW [] X.env)).all (λx=>x.1.isSome)
  && decide (([e,f]:List Expr).length+([]:List UW).length+(if([]:List UW).isEmpty then 0 else 1)<30))=true
 line:(apos.endLine==cpos.line)=true
 trees:Um cpos (Te [e,f] X.env)= [(false,eval e X.env),(false,eval f X.env)]
def IsD(H:Hp)(a:Tu):Prop:=(∃b,Rd H a (.dK b))\/∃b,Rd H a (.dT b)
def Av{σ:St}(I:dN X Xg σ H s)(d:IsD H a):s.TypeIs (.ref a) "dict"/\(∀b,S5.ref a=.ref b->∃c,s.heap.get? b=!c/\c.dict=none)/\(a==TK)=false:=by
 rcases d with ⟨h,e⟩|⟨h,e⟩
 .let{_,i,o,_,f}:=mK I.hok e;refine{f.typeIs,λb q=>?_,i};cases q;let{c,_,_,j,n,_}:=f;exact{(c),j,n.2.1}
 .let{_,i,p,_,f}:=mL I.hok e;refine{f.typeIs,λb q=>?_,i};cases q;let{c,_,_,j,n,_}:=f;exact{(c),j,n.2.1}
section
variable{X:Cx}{Xg:List (Tu×Obj)}{σ:St}{H:Hp}{s:S8}{a:Tu}{y d:V}{u r:S5}{o:Option V}{A:Tj}{E:S5->S8->Prop}
def IC(x:A.units+1<Vk)(I:dN X Xg σ H s)(g:Xz H a y o)(p:hB y u)(q:hB d r)(h:∀v s',dN X Xg σ H s'->hB (o.getD d) v->Q v s'):Tc (model X.prog X.w) A (call (.builtin "dict.get") [.ref a,u,r]) Q E s:=by
 rcases g with ⟨i,k,e,j,l⟩|⟨i,k,b,e,j,B,l⟩
 .subst j;let{z,n,F,c,f}:=mK I.hok e;refine Uq UE f.typeIs Vm (Vg _ _ _) (meets_dict_get_default (aF X.prog X.w) a (gC p) n r) {_,f.mapOf,h _ _ (I.tok _) ?_};rw[l];exact(c.val k).getD q
 .subst j;cases(p);let{z,n,C,c,f}:=mL I.hok e;refine Uq UE f.typeIs Vm (Vg _ _ _) (meetsH_dict_get_default (Vo (aF X.prog X.w)) a b n r) {Ut x,k,C,lA I.hok B,f,h _ _ (I.tok _) ?_};rw[l];exact(c.val k).getD q
end
def ID(d ty e:TE):TE:=λσ H Q=>d σ H λx b=>∃a,x=.ref a/\IsD b a/\ty σ b λy f=>e σ f λz c=>∃o,Xz c a y o/\Q (o.getD z) c
def IE(e ty:TE):TE:=λσ H Q=>e σ H λx c=>∃a,x=.ref a/\IsD c a/\ty σ c λy d=>∃b k v,d a=!(.dK b)/\y=kV k/\bc b k=!v/\Q v (jl d a (.dK (je b k)))
#print i
def Ci(j:X.A.units+1<Vk)(n:PE X o td)(p:PE X e ty)(q:PE X f tx)(m:M2 X o "get" apos e f cpos):PE X (.Call (.Attribute o "get" apos) [e,f] [] cpos) (ID td ty tx):=by
 intro b s σ H Q I h;refine wpAny_Call_method m.base m.few m.line TJ UE PySem.F.type_dict_get (thn (n b s σ H _ I h) λu r w=>?_);let{x,v,i,A,a,B,d,C}:=w;subst B;obtain rfl:u=S5.ref a:=A;let{E,F,_}:=Av i d;exists E,F;rw[m.trees];refine Calls.callWith_builtin rfl (Calls.evalArgs_plain (Calls.spliced_cons (thn (p b r σ v _ i C) λU G ⟨y,J,K,M,N⟩=>
  Calls.spliced_cons (thn (q b G σ J _ K N) λW Y ⟨z,O,P,R,Z,g,S⟩=>Calls.spliced_nil ?_))))
 exact IC j P g M R λw' s4 T c=>{_,O,T,c,S}
def Cj(j:PE X o td)(n:PE X e ty)(m:M1 X o "pop" apos e cpos):PE X (.Call (.Attribute o "pop" apos) [e] [] cpos) (IE td ty):=by intro c s σ H Q I h;refine wpAny_Call_method m.base m.few m.line TJ Vz PySem.F.type_dict_pop (thn (j c s σ H _ I h) λu p z=>?_);let{x,q,i,r,a,A,d,B}:=z;subst A;obtain rfl:u=S5.ref a:=r;let{C,E,_}:=Av i d;exists C,E;rw[m.trees];refine Calls.callWith_builtin rfl (Calls.evalArgs_plain (Calls.spliced_cons (thn (n c p σ q _ i B) λR S F=>Calls.spliced_nil ?_)));let{y,T,G,J,K,k,v,M,N,l,O}:=F;subst N;exact Lm G M J l (.inl rfl) λU W P b=>{v,_,P,b,O}
end
section
variable{X:Cx}{Xg:List (Tu×Obj)}{σ:St}{H:Hp}{s:S8}{a:Tu}{kvs:List (hH×V)}{A:Tj}{E:S5->S8->Prop}
end
section
variable{X:Cx}{Xg:List (Tu×Obj)}{σ:St}{H:Hp}{s:S8}{a:Tu}{y:V}{u:S5}{A:Tj}{E:S5->S8->Prop}
end
end _L
namespace Att
open PySem PySem.W PySem.Calls PyProof.Rows
def pE:∀(ns:List Int) (vs:List S5),WellAll P h vs (ns.map WData.int)->Ud vs ns:=by
 intro ns;induction ns with
 |nil=>intro vs w;cases w;exact .nil
 |cons n ns c=>
  intro vs w;cases w with
  |cons a b=>cases a;exact .cons _ _ (c _ b)
def Aw{l:WU}(hn:l.most=!n) (b:l.row.toRowW.claim.pre args=true) (f:WellAll P h vals args):∃a vs ns,vals= [S5.ref a]/\args= [WData.list (ns.map WData.int)]/\h.get? a=some {cls:=.type "list",data:=.seq vs.toArray}/\Ud vs ns/\ns.length<=n:=by
 have i:=(pre_splitW b).1;have hc:l.pre.holds [] {args:=args}=true:=(pre_splitW b).2;let{d,r,rfl,o,p}:=hasAllW_cons i;obtain rfl:=hasAllW_nil p;let{A,rfl,u}:=hasW_list o;let{ns,rfl}:=items_int u;have v:ns.length<=n:=by
  have e:(WTm.not (.lt (.lit (.int (n:Int))) (.len (.arg 0)))).holds [] {args:=[.list (ns.map .int)]}=true:=by have e:=(holds_andW hc).1;rw[hn]at e;exact e
  have j:=condW_of e (w_not (w_lt w_lit (w_len_list (w_arg rfl))));refine Nat.le_of_not_lt λq=>?_
  first
   |(rw[decide_eq_true q']at j;exact absurd j Xs)
   |(simp at j;ext)
 cases f with
 |cons x y=>
  cases y;cases x with
  |list z c=>exact{_,_,ns,rfl,rfl,z,pE ns _ c,v}
theorem Ax(l:WU)(a:List WData):l.row.toRowW.claim.post a (.bool true) a=true:=
 postW_of (X:=(true==true))
  (show WShape.has [] (.bool true) .bool=true by first|rfl|decide|simp[WShape.has])
  (w_eq_bool (w_res rfl) w_lit) rfl
def wm{l:WU}
 (hn:l.most=!n) (u:d.params.defaults= [])
 (call:∀(w:Td) (v b:S8) (mg x:VA->Option S5) (h:Tu) (o:Obj) (y p c:S5) (a:Tu) (vs:List S5) (ns:List Int),
  Ground q loose [] XP w v mg x b.heap->YP w b.heap->
  b.heap.get? h=!o->o.data=.func (docDef d.name d.params d.body d.scope y p c)->b.heap.CodeRec p d.name->mg d.name=!(.ref h)->
  b.heap.get? a=some {cls:=.type "list",data:=.seq vs.toArray}->Ud vs ns->ns.length<=n->b.gens= #[]->
  UF (model l.prog w) VV (.call (.ref h) {[.ref a],[]}) (λr s'=>r=.ok (.ret (.bool true))/\OldK b.heap s'.heap/\s'.os=b.os/\Vp s'.gens) b):
 WalkO q loose XP YP l.row.toRowW d [] (λf vs=>WT f vs):=by
 intro w v b mg x G Y h o y p c I kV J K z C A M E F W i H N B O;obtain rfl:I=.none:=Dflts.none C u;obtain rfl:kV=.none:=Dflts.noKw C;let{a,vs,ns,rfl,rfl,j,e,P}:=Aw hn i B;refine enter_call (Vt (call w v b mg x h o y p c a vs ns G Y J (fd_plain K) z A j e P M) λr s' Q=>?_);let{rfl,R,S,T}:=Q;exact{.inl {.bool true,.bool true,[],rfl,λ_=>rfl,.bool true,Ax l _,λ_=>{List.Pairwise.nil,λ_ U=>(nomatch U)}},R,S,T}
section
variable{prog:S9}{w:Td}{A:Tj}{E:S5->S8->Prop}{s:S8}{K:Frag}
end
end Att
#print y
def Ay:∀{vs:List S5} {ns:List Int},Ud vs ns->eC (ns.map V.int) vs:=by
 intro c d a;induction a with
 |nil=>exact .nil
 |cons n t h b=>exact .cons {(t),rfl} b
def Ck(H:Hp):Prop:=∀b,H b=none\/∃o a,H b=!(.frz o (.lst a))
def Cl{K:RP}
 (W:K.In s₁.heap) (A:s₁.heap.Ns Ti mg) (f:s₁.heap.Ns VT mb) (O:∀x:VA,x≠"__name__"->mb x=Tx x) (B:s₁.heap.NoLimit) (hg:s₁.gens= #[])
 (M:s₁.heap.get? a=some {cls:=.type "list",data:=.seq vs.toArray}) (X:Ud vs ns) (hl:ns.length<=S6) (hr:mm k VV)
 (F:∀base:Heap,K.In base->base.Ns Ti mg->fh P w K mg base CX k fa fd [x] sp) (p:∀(s:S8) (u:S5),VU s fd {[u],[]} [(x,u)])
 (Q:∀H:Hp,Ck H->ip K H a (ns.map V.int)->sp [.ref a] H (λv _=>v=.bl true) λ_ _ _=>False)
 (R:∀H e s',CX [] H s₁ (λ_ _ _=>False) e s'->False):
 UF (model P w) VV (.call (.ref fa) {[.ref a],[]}) (λr s'=>r=.ok (.ret (.bool true))/\OldK s₁.heap s'.heap/\s'.os=s₁.os/\Vp s'.gens) s₁:=by
 have Y:=Ay X;have C:=X.length
 -- from an abstract heap in which nothing but the script may be tracked
 have j:∀H:Hp,Ck H->ip K H a (ns.map V.int)->LX P w H s₁.heap->(∀b,H b≠none->b=a)->(H a≠none->K.lookup a=none)->
  UF (model P w) VV (.call (.ref fa) {[.ref a],[]}) (λr s'=>r=.ok (.ret (.bool true))/\OldK s₁.heap s'.heap/\s'.os=s₁.os/\Vp s'.gens) s₁:=by
  intro H Z hS E hA hK;have c:∀{b:Tu} {o:Obj},s₁.heap.get? b=!o->H b=none->(kX s₁.heap H).get? b=!o:=λe n=>BS e n;have S:∀{b:Tu} {o:Obj} {es:Array Vs} {N:Nat},s₁.heap.get? b=!o->o.data=.dict es N->H b=none:=λ{b o es N} e d=>by
   cases q:H b with
   |none=>rfl
   |some u=>have T:=hA b (by rw[q];simp);subst T;rw[M]at e;cases e;have d':=d;cases d'
  have i:∀{b:Tu} {m:VA->Option S5},s₁.heap.Ns b m->(kX s₁.heap H).Ns b m:=λ{b m} y=>by let{o,es,N,e,d,r}:=y;exact{o,es,N,c e (S e d),d,r}
  have G:=λb o e=>c (W b o e) (by
   cases q:H b with
   |none=>rfl
   |some u=>have T:=hA b (by rw[q];simp);subst T;rw[hK (by rw[q];simp)]at e;cases e)
  have hM:Mod K mg (kX s₁.heap H):={G,i A,{mb,i f,O},let ⟨mc,h1,h2⟩:=B;{mc,i h1,h2}}
  have e0:Yo P w K mg (kX s₁.heap H) VV [] s₁ H:={rfl,hM,λb o e=>E4 e,Sh (zW _ _),trivial,λb f=>absurd (show b∈([]:List Tu)from f) eq,E,.of_eq hg}
  refine Vt ((F _ G (i A)).run VV [] s₁ H {[.ref a],[]} [.ref a] [.ref a] _ _ hr e0 (p s₁ (.ref a)) (.cons rfl .nil) (Q H Z hS)) λr s' h=>?_;cases r with
  |error e=>exact(R H e s' h).elim
  |ok fl=>
   cases fl with
   |next=>exact False.elim h
   |brk=>exact False.elim h
   |cont=>exact False.elim h
   |ret u=>
    let{v,H',os,I,un,J,r',q}:=h;have q':=q;subst q';obtain rfl:u=S5.bool true:=r';refine{rfl,OldK.of_keep λb o e=>?_,os,I};cases q:H b with
    |none=>exact un.keep b o e q (by intro z;exact absurd (show b∈([]:List Tu)from z) eq) eq
    |some u=>
     rcases Z b with z|⟨ob,xs,z⟩;.rw [q]at z;cases z
     .have z2:=un.frzs b ob _ z;let{e1,_}:=E b _ z;let{e2,_}:=J b _ z2;rw[e]at e1;cases e1;exact e2
 cases hk:K.lookup a with
 |some o=>
  -- the script is one of the module's own objects
  have e:=W a o hk;rw[M]at e;cases e;refine j (λ_=>none) (λ_=>.inl rfl) (.inr {_,vs.toArray,_,hk,rfl,rfl,rfl,by rw[Q2,C];exact hl,by simpa using Y}) (λb u z=>by have U:=z;cases U) (λb z=>absurd rfl z) λz=>absurd rfl z
 |none=>
  refine j (λb=>if b=a then some (.frz {cls:=.type "list",data:=.seq vs.toArray} (.lst (ns.map V.int)))else none) (λb=>?_) (.inl (.inr {{cls:=.type "list",data:=.seq vs.toArray},Xf rfl})) (λb u z=>?_) (λb z=>?_) λ_=>hk
  .by_cases f:b=a
   .exact .inr {_,_,Xf f}
   .exact .inl (Xe f)
  .by_cases f:b=a
   .have U:=(Xf f).symm.trans z;cases U;subst f;exact{M,by rw[QL];exact hl,vs,_,Y,M}
   .simp_all
  .simp_all
end _L
/- THE LAST THEOREM (shape;LID,My.* are yours):My.Adr:a structure of the addresses that your layer names (classes,functions);My.Txt K t:a structure (Prop) of the equations over K;
 My.txt_mk:{K} {implicit addresses ..} (e1:nsIn K Ti "law" =!(!(.ref f))) (e2:K.lookup f=some {oc,od,.func (fnOf "law" "law" params body scope dV kV doc pm an cdv ct),sl}) (e3:codeIn K cdv "law" =true) ..:∃t,My.Txt K t
set_option maxRecDepth 100000 in
set_option maxHeartbeats 0 in
theorem PySem.Challenge.cw_LID_holds : PySem.Challenge.rw_LID.Holds := by
 w_on;o_law;k_head;(case hw=>w_witness2)
 k_fill
 refine _L.walk_of (l:=PySem.Challenge.rw_LID) (n:=63) (k:=40) (x:="script") (CX:=λw=>..) (sp:=λ_=>My.sp_law) rfl Xs rfl ⟨rfl,by decide,by decide⟩ (λw h Y=>kIn_of Y) ?F ?S ?C
 case F=>
  intro w y r h q G j
  have T:∃t,My.Txt (_L.KOf q) t:=by
   dsimp only [_L.KOf] -- K must stand as «<heap const> w.params» for c
   refine' My.txt_mk ?e1 ?e2 ?e3 ..
   (case e1=>PySem.W.k_is) -- in e order: a name -> its address -> its object -> its parts
   (case e2=>PySem.W.k_is)
   ..
  obtain⟨t,T⟩:=T
  have v:=j.symm.trans (VR q G T.law)
  cases v -- r is e law's own address
  exact{_,λs u=>.of_eq rfl,λf o p=>My.law_fn T o p} -- if «.of_eq rfl» comes too early: refine' {_, ?b, fun f o p => My.law_fn T o p}; exact fun s u => .of_eq rfl
 case S=>exact λw H a ns hl z A=>..
 case C=>exact ..
(e i c has no d:write c) -/
#print y
def aI(s:Stmt)(j:Nat):Stmt:=match s with
 |.ClassDef _ _ _ a _ _ _ _ _ _ _=>a.getD j (.Pass {0,0,0,0})
 |_=>.Pass {0,0,0,0}
def gh(s:Stmt):Arguments:=match s with
 |.FunctionDef _ a _ _ _ _ _ _ _ _=>a
 |_=>{posonlyargs:=[],args:=[],vararg:=none,kwonlyargs:=[],kw_defaults:=[],kwarg:=none,defaults:=[]}
def cw(s:Stmt):List Stmt:=match s with
 |.FunctionDef _ _ b _ _ _ _ _ _ _=>b
 |_=>[]
def aj(s:Stmt):UQ:=match s with
 |.FunctionDef _ _ _ _ _ _ a _ _ _=>a
 |_=>{kind:=.function,names:=[],isGenerator:=false,isCoroutine:=false}
abbrev Yb:Z0:=λ_ _ _ _ _ _=>False
abbrev E0:XK:=λ_ _ _=>False
def gF:jI Yb X E0:=λ_ _ _ _ _ _ _ h=>h.elim
structure YQ(K:RP)(x qual:VA)(st:Stmt)(f:Tu)(fd:VB):Prop where
 ex:∃(oc:S5) (od:Option Tu) (kV doc pm:S5) (an:Option Tu) (cdv ct:S5) (osl:Array (Option S5)),
  fd=V6 x qual (gh st) (cw st) (aj st) .none kV doc pm an cdv ct/\K.lookup f=some {oc,od,.func fd,osl}/\Wx K cdv qual=true
 kp:Ul K (.ref f)=true
#print a
theorem YQ.ok{st:Stmt}(F:YQ K x qual st f fd)(S:au N ps (aj st))(len:∀vs H Q E,sp vs H Q E->vs.length=ps.length) (c:∀(b:S5) (A:Tj) (a:List Env) (s:S8) (H:Hp) (vs:List V) (Q:VK) (E:XK),mm k (A.deeper (TR qual (aj st) s.heap.objs.size f b))->sp vs H Q E->∃t,XM (fJ Yb P w K mg base N qual (aj st) f b A a s H E).ay (cw st) t/\t {nx:=λ_ i=>Q .non i,rt:=Q} (start N vs) H):fh P w K mg base Yb (k+1) f fd ps sp:=by
 let{r,u,kV,j,v,y,b,z,n,rfl,o,d}:=F.ex;refine pB o d S len λA a s H vs Q E p e=>?_;let{t,h,q}:=c b A a s H vs Q E p e;exact{(t),h.ay,q}
end
def bA(a:mm k A):A.units+1<Vk:=Rq (Nat.add_le_add_left (by decide:1<=64) _) a.units
def Az(h:n<=1000):n<S6:=Rq h Xs
#print b
theorem pv(i:Nat){pos:Pos}(b:‹X.N[i]? =!x›)(c:autoParam (Vis X.env.scope x) _aw)(d:((x==("__debug__":VA))=false)⁻¹)
 (a:((x==("__classdict__":VA))=false)⁻¹):PE X (.Name x pos) (eT i):=HM b c d a
end
def lB{B:Prop}(h:B):if false=true then A else B:=by exact h
def lC{B:Prop}(h:A):if true=true then A else B:=by exact h
theorem cR{B:Prop}[Decidable c](a:c->A)(b:¬c->B):if c then A else B:=by simp_all
def dA(H a:Hp):Prop:=∀b o,H b=!o->a b=!o
theorem dA.trans(a:dA H H1)(b:dA H1 H2):dA H H2:=λc o h=>b c o (a c o h)
theorem dA.free(e:dA H H')(h:H' l=Option.none):H l=Option.none:=by
 cases q:H l with
 |none=>rfl
 |some o=>rw[e l o q]at h;cases h
#print b
end
section
variable{κ:Type}[DecidableEq κ]
end
end _L
set_option maxHeartbeats 4000000
#print y
mutual
inductive Rp (K:RP) (H:Hp):V->Ta->Prop
 |non:Rp K H .non .none
 |bl (b:Bool):Rp K H (.bl b) (.bool b)
 |int (i:Int):Rp K H (.int i) (.int i)
 |str (x:VA):Rp K H (.str x) (.str x)
 |lst {a:Tu} {xs:List V} {ds:List Ta}:H a=!(.lst xs)->jk K H xs ds->Rp K H (.ref a) (.list ds)
 |tup {a:Tu} {xs:List V} {ds:List Ta}:H a=!(.tup xs)->jk K H xs ds->Rp K H (.ref a) (.tuple ds)
inductive jk (K:RP) (H:Hp):List V->List Ta->Prop
 |nil:jk K H [] []
 |cons {x:V} {d:Ta} {xs:List V} {ds:List Ta}:Rp K H x d->jk K H xs ds->jk K H (x::xs) (d::ds)
end
theorem Rp.mono{K:RP}{H a:Hp}(g:dA H a):∀{v:V} {d:Ta},Rp K H v d->Rp K a v d:=λh=>Rp.rec (motive_1:=λv d _=>Rp K a v d) (motive_2:=λv d _=>jk K a v d) .non .bl .int .str (λh _ i=>.lst (g _ _ h) i) (λh _ i=>.tup (g _ _ h) i) .nil (λ_ _ i j=>.cons i j) h
theorem jk.mono{K:RP}{H a:Hp}(g:dA H a):∀{vs:List V} {ds:List Ta},jk K H vs ds->jk K a vs ds:=λh=>jk.rec (motive_1:=λv d _=>Rp K a v d) (motive_2:=λv d _=>jk K a v d) .non .bl .int .str (λh _ i=>.lst (g _ _ h) i) (λh _ i=>.tup (g _ _ h) i) .nil (λ_ _ i j=>.cons i j) h
def aU(h:H p=none)(o:HO):dA H (jl H p o):=λb u q=>by rw[aN (ax q h)];exact q
#print b
def MQ(K:RP):List V->Hp->VK->Prop:=λa H Q=>∃x T t b,a= [x,.ty T]/\fg K H x t/\Sb K t (.type T)=!b/\Q (.bl b) H
def wt:bH X (.builtin "isinstance") (MQ X.K):=by intro d s σ H f i Q I r h;let{x,T,t,b,rfl,ty,e,q}:=h;let{u,w,rfl,c,a}:=pj r;cases a;exact Ai I c ty e λj=>{.bl b,H,I.tok _,rfl,q}
def qL{pos:Pos}(a:Gl X n)(b:X.mg n=none)(c:Tx n=!(.type T))(hn:(n≠"__name__")⁻¹)(d:((n==("__debug__":VA))=false)⁻¹):PE X (.Name n pos) (tC (.ty T)):=
 E6 a b c rfl hn d
end
def lE:R2:=λx y H Q=>∃p i a v,x=.ref p/\y=.int i/\(H p=!(.tup a)\/H p=!(.lst a))/\NB a i=!v/\Q v H
def MR:_z X lE:=by
 intro a b d s σ H x y v u Q I e f h hs;let{p,i,j,z,rfl,rfl,c,n,q}:=h;rcases c with c|c
 .exact Iw a b d s σ H _ _ v u Q I e f {p,j,i,z,rfl,rfl,qu.of c,n,q} hs
 .exact Fe a b d s σ H _ _ v u Q I e f {p,j,i,z,rfl,rfl,ip.of c,n,q} hs
theorem yC:NB (a::l) 0=!a:=fq rfl
theorem Eg:NB (a::b::l) 1=!b:=fq rfl
theorem Ln:NB (a::b::c::l) 2=!c:=fq rfl
theorem Lo:NB (a::b::c::d::l) 3=!d:=fq rfl
theorem Lq:NB (a::b::c::d::e::l) 4=!e:=fq rfl
def dy{R:Tu->Hp->Prop}(h:∀p a,H p=none->dA H a->a p=!o->R p a):∀p,H p=none->R p (jl H p o):=λp b=>h p _ b (aU b o) aA
theorem sz(h:n<=1000):(n<=S6)=True:=eq_true (Nat.le_of_lt (Az h))
theorem mn1:min 1 (n+1)=1:=by ext
theorem na2:Int.natAbs 2=2:=rfl
theorem MS:Int.natAbs 10=10:=rfl
theorem sz0:(0<=S6)=True:=sz Xs
theorem sz1:(1<=S6)=True:=sz Xs
theorem sz2:(2<=S6)=True:=sz Xs
theorem sz3:(3<=S6)=True:=sz Xs
theorem sz4:(4<=S6)=True:=sz Xs
theorem sz5:(5<=S6)=True:=sz Xs
theorem sz6:(6<=S6)=True:=sz Xs
theorem fK:(VA.ofString a=VA.ofString b)=(a=b):=by
 apply propext;constructor;.intro h;rw[VA.ofString_eq_toList,VA.ofString_eq_toList]at h;injection h with h;have f:a.toList.map Char.toNat=b.toList.map Char.toNat:= ~~~(congrArg Array.toList h);have inj:∀c d:Char,c.toNat=d.toNat->c=d:=λc d e=>Char.ext (UInt32.toNat_inj.mp e);exact String.toList_inj.mp (List.map_inj_right (λc d e=>inj c d e) |>.mp f)
 .rintro rfl;rfl
def jk.nil_inv{K:RP}(h:jk K H vs []):vs= []:=by cases h;rfl
theorem jk.cons_inv{K:RP}(h:jk K H vs (d::ds)):∃x xs,vs=x::xs/\Rp K H x d/\jk K H xs ds:=by cases h with|cons a b=>exact⟨_,_,rfl,a,b⟩
def Rp.str_inv{K:RP}(h:Rp K H v (.str x)):v=.str x:=by cases h;rfl
def Rp.int_inv{K:RP}(h:Rp K H v (.int x)):v=.int x:=by cases h;rfl
def Rp.b5{K:RP}(h:Rp K H v .none):v=.non:=by cases h;rfl
def Rp.E{K:RP}(h:Rp K H v (.tuple ds)):∃a xs,v=.ref a/\H a=!(.tup xs)/\jk K H xs ds:=by cases h with|tup a b=>exact⟨_,_,rfl,a,b⟩
def Rp.lst_inv{K:RP}(h:Rp K H v (.list ds)):∃a xs,v=.ref a/\H a=!(.lst xs)/\jk K H xs ds:=by cases h with|lst a b=>exact⟨_,_,rfl,a,b⟩
def Rp.bx{K:RP}(h:Rp K H v (.tuple [d])):∃a x,v=.ref a/\H a=!(.tup [x])/\Rp K H x d:=by let{a,b,rfl,c,r}:=h.E;let{x,b,rfl,e,r}:=r.cons_inv;cases r.nil_inv;exact{(a),x,rfl,c,e}
def Rp.aw{K:RP}(h:Rp K H v (.tuple [d,e])):∃a x y,v=.ref a/\H a=!(.tup [x,y])/\Rp K H x d/\Rp K H y e:=by let{a,b,rfl,c,r}:=h.E;let{x,b,rfl,f,r}:=r.cons_inv;let{y,b,rfl,i,r}:=r.cons_inv;cases r.nil_inv;exact{(a),x,y,rfl,c,f,i}
def Rp.bz{K:RP}(h:Rp K H v (.tuple [d,e,f])):∃a x y z,v=.ref a/\H a=!(.tup [x,y,z])/\Rp K H x d/\Rp K H y e/\Rp K H z f:=by let{a,b,rfl,c,r}:=h.E;let{x,b,rfl,i,r}:=r.cons_inv;let{y,b,rfl,j,r}:=r.cons_inv;let{z,b,rfl,n,r}:=r.cons_inv;cases r.nil_inv;exact{(a),x,y,z,rfl,c,i,j,n}
def uw{kvs:List (hH×V)}(h:bc kvs k=!v):∃a∈kvs,a.2=v:=by
 unfold bc at h;cases q:kvs.find? (λa=>decide (a.1=k))with
 |none=>simp_all
 |some p=>rw[q]at h;exact{p,List.mem_of_find?_eq_some q,Xr h}
def dL:V->Option hH
 |.int i=> !(.inl i)
 |.str x=> !(.inr x)
 |_=>none
theorem j6(h:dL y=!k):y=kV k:=by cases y<;>simp only[dL,Option.some.injEq,reduceCtorEq]at h<;>subst h<;>rfl
section
variable{X:Cx}{i o e value:Expr}{ty td te tv:TE}{pos pos' apos cpos:Pos}
def Eh(ty td:TE):TE:=λσ H Q=>ty σ H λy d=>td σ d λx c=>∃a b k,x=.ref a/\c a=!(.dK b)/\dL y=!k/\Q (.bl (bc b k).isSome) c
def AA(td ty:TE):TE:=λσ H Q=>td σ H λx d=>ty σ d λy c=>∃a b k v,x=.ref a/\c a=!(.dK b)/\dL y=!k/\bc b k=!v/\Q v c
def IF(td ty tv:TE):TS:=λD σ H=>tv σ H λv d=>td σ d λx f=>ty σ f λy c=>∃a b k,x=.ref a/\c a=!(.dK b)/\dL y=!k/\b.length<S6/\D.nx σ (jl c a (.dK (bR b k v)))
def bY(j:X.A.units+1<Vk)(n:PE X o td)(p:PE X i ty)(hs:Ca i):PE X (.Subscript o i pos) (AA td ty):=by
 intro c s σ H Q I h;refine wZ PySem.F.slot_dict_getitem.lookup hs (thn (n c s σ H _ I h) λu q ⟨x,r,A,B,C⟩=>thn (p c q σ r _ A C) λO P z=>?_);let{y,d,f,E,a,F,k,v,G,J,K,ev,M}:=z;subst G;obtain rfl:u=S5.ref a:=B;have g:Xz d a y (!v):=by rw[j6 K,<-ev];exact Xz.k J
 exact{wf f g,Ap j f g E λR S N b=>{(v),d,N,b,M}}
def Ff(f:X.A.units+1<Vk)(j:PE X i ty)(n:PE X o td):PC X .In i o (Eh ty td):=by
 intro c s σ H Q I h;refine thn (j c s σ H _ I h) λM p ⟨y,q,r,v,A⟩=>thn (n c p σ q _ r A) λu N z=>?_;let{x,d,B,C,a,b,k,E,F,G,J}:=z;subst E;obtain rfl:u=S5.ref a:=C;have g:Xz d a y (bc b k):=by rw[j6 G];exact Xz.k F
 exact MP f B g v λO K=>{.bl _,d,K,rfl,J}
def Cm(f:X.A.units+1<Vk)(j:PE X o td)(n:PE X i ty)(p:PE X value tv)(hs:‹U3 value (!(.Subscript o i pos')) pos.line X.env=pure false›):
 PS X (.Assign [.Subscript o i pos'] value pos) (IF td ty tv):=by
 intro b s σ H D I h;refine wpAny_Assign_Subscript (thn (p b s σ H _ I h) λr q ⟨v,A,B,C,E⟩=>thn (j b q σ A _ B E) λu F ⟨x,G,J,K,M⟩=>thn (n b F σ G _ J M) λW Y z=>?_) hs;let{y,d,N,O,a,c,k,P,Q,R,S,T}:=z;subst P;obtain rfl:u=S5.ref a:=K;have g:Zj d a y v (jl d a (.dK (bR c k v))):=by rw[j6 R];exact Zj.k Q S
 exact Ar f N g O C λZ U=>{σ,_,U,T}
def MT(b te:TE):TE:=λσ H Q=>b σ H λx a=>∃l c,x=.ref l/\a l=!(.lst c)/\te σ a λy d=>qJ (.ref l) [y] d Q
def IG(r:PE X o td)(u:PE X e te) (a:‹TF o "append" X.env (eval o X.env)=eval o X.env›)
 (c:‹((Um cpos (Te [e] X.env)).all (λx=>not x.1)&&(Us cpos (TW [] X.env)).all (λx=>x.1.isSome)
  && decide ([e].length+([]:List UW).length+(if([]:List UW).isEmpty then 0 else 1)<30))=true›)
 (b:‹(apos.endLine==cpos.line)=true›) (hs:‹Te [e] X.env= [(false,eval e X.env)]›):
 PE X (.Call (.Attribute o "append" apos) [e] [] cpos) (MT td te):=by
 intro d s σ H Q I h;refine wpAny_Call_method_late a c b rfl (thn (r d s σ H _ I h) λv A y=>?_);let{x,B,n,p,l,C,E,hl,F}:=y;subst E;let{G,J}:=iI n p (Or.inl {rfl,C,ip.of hl});exists "list",_,Tb,PySem.F.slot_list_append,PySem.F.type_list_append,G,J;have q:=(wS u bJ (hs:=by rw[hs];rfl)) cpos d A σ B (λf j=>qJ (.ref l) f j Q) n F;rw[hs]at q⊢;refine Calls.callWith_builtin (by rfl) (Calls.evalArgs_plain ?_);exact thn q λK M z=>by let{f,j,N,O,P}:=z;exact sj d M σ j _ f v K Q N p O P
end
theorem Fg{a b:VA}:hY (.str a) (.str b)=true:=rfl
theorem Fh{a b:Int}:hY (.int a) (.int b)=true:=rfl
theorem Fi{a b:Bool}:hY (.bl a) (.bl b)=true:=rfl
theorem Fj:hY .non .non=true:=rfl
theorem Fk{b:VA}:hY .non (.str b)=true:=rfl
theorem Fl{b:VA}:hY (.str b) .non=true:=rfl
theorem Fm{b:Int}:hY .non (.int b)=true:=rfl
theorem Fn{b:Int}:hY (.int b) .non=true:=rfl
theorem Fo{a:VA}:dL (.str a)=!(.inr a):=rfl
theorem Fp{a:Int}:dL (.int a)=!(.inl a):=rfl
theorem II{a:VA}:dJ (.str a)=true:=rfl
theorem IJ{a:Int}:dJ (.int a)=true:=rfl
theorem IK:dJ .non=true:=rfl
theorem IL{a:Bool}:dJ (.bl a)=true:=rfl
theorem Fq{x:V}:Z4 x []=false:=rfl
theorem Cn{x y:V}{l:List V}:Z4 x (y::l)=(Zu y x || Z4 x l):=rfl
theorem IM:Zu (.str a) (.str b)=decide (a=b):=by rfl
theorem MU{CX:Z0}{P:S9}{w:Td}{K:RP}{mg:VA->Option S5}{base:Heap}{N:List VA}{c:VA}{a:UQ}{f:Tu}{d:S5}{A:Tj}{b:List Env}{s:S8}{H:Hp}{E:XK}:(fJ CX P w K mg base N c a f d A b s H E).K=K:=rfl
#print b
def IN(neg:Bool):R2:=λx y H Q=>∃p a,y=.ref p/\(H p=!(.tup a)\/H p=!(.lst a))/\dJ x=true/\a.all dJ=true/\Q (.bl (if neg then(not (Z4 x a))else Z4 x a)) H
def pF:NF X (TD .In) (IN false):=by intro a s σ H x y v u Q I b c h;let{p,d,rfl,e,f,fs,q}:=h;exact Ao a s σ H x _ v u Q I b c {p,d,rfl,e.symm.imp ip.of qu.of,f,fs,q}
def Ei(n:Nat)(t:Z3):TG:=λv σ H Q=>∃a b,v=.ref a/\H a=!(.tup b)/\b.length=n/\t b σ H Q
def bG{k:Nat}{pos:Pos}(n:Nat)(hc:X.calm=true)(h:_e X es t) (hn:‹(Uc es X.env).length=n›) (b:‹(Uc es X.env).findIdx? (·.1)=none›):PG X (.Tuple es k pos) (Ei n t):=by
 intro c s σ H v u Q I r hw;let{a,d,e1,e,hl,hw}:=hw;exact HY hc h hn b c s σ H v u Q I r {a,d,e1,qu.of e,hl,hw}
def tM(t:TE):TE:=λσ H Q=>∃a:VK,t σ H a/\∀v b,a v b->Q v b
def PE.up(h:PE X e t):PE X e (tM t):=by intro b s σ H Q I c;let{d,f,i}:=c;exact thn (h b s σ H d I f) λu n z=>by let{v,a,j,r,q}:=z;exact{v,a,j,r,i v a q}
def IP:V->Option Int->Option Int->Hp->VK->Prop:=λx d e H Q=>∃a b,x=.ref a/\
 ((H a = some (.tup b) ∧ ¬ (_T.sIx b.length 0 d = 0 ∧ _T.sIx b.length b.length e = b.length) ∧ ∀ p c, H p = none → dA H c → c p = some (.tup (dO b d e)) → Q (.ref p) c) ∨
  (H a=!(.lst b)/\∀p c,H p=none->dA H c->c p=!(.lst (dO b d e))->Q (.ref p) c))
def Co:_r X IP:=by
 intro c s σ H x v d e f i j Q I n hs pl o h;obtain⟨a,p,rfl,⟨b,hn,q⟩|⟨b,q⟩⟩:=h;.exact Ip c s σ H _ v d e f i j Q I n hs pl o {a,p,rfl,qu.of b,hn,dy q}
 .exact wY c s σ H _ v d e f i j Q I n hs pl o {a,p,rfl,ip.of b,dy q}
def MV(K:RP):V->Option Int->Option Int->Hp->VK->Prop:=λx d e H Q=>∃a c,x=.ref a/\ip K H a c/\∀p b,H p=none->dA H b->b p=!(.lst (dO c d e))->Q (.ref p) b
def MW:_r X (MV X.K):=by intro b s σ H x v c d e f i Q I j hs pl n h;let{a,o,rfl,p,q}:=h;exact wY b s σ H _ v c d e f i Q I j hs pl n {a,o,rfl,p,dy q}
def tMA(t:TA):TA:=λσ H Q=>∃a:List V->Hp->Prop,t σ H a/\∀b c,a b c->Q b c
def PA.up(h:PA X es t):PA X es (tMA t):=by intro pos c s σ H Q I d;let{e,f,i}:=d;exact thn (h pos c s σ H e I f) λn o z=>by let{a,b,j,r,q}:=z;exact{a,b,j,r,i a b q}
def j7(t:TA):TE:=λσ H Q=>t σ H λb c=>b.length<=S6/\∀p a,c p=none->dA c a->a p=!(.tup b)->Q (.ref p) a
def mM(t:TA):TE:=λσ H Q=>t σ H λb c=>b.length<=S6/\∀p a,c p=none->dA c a->a p=!(.lst b)->Q (.ref p) a
def am(h:PA X es t):PE X (.Tuple es x1 pos) (j7 t):=λa s σ H Q I b=>
 Ik h.up a s σ H Q I {_,b,λ_ _ q=>{q.1,dy q.2}}
def aQ(h:PA X es t):PE X (.List es pos) (mM t):=λa s σ H Q I b=>
 Il h.up a s σ H Q I {_,b,λ_ _ q=>{q.1,dy q.2}}
def AB:TE:=λ_ H Q=>∀p a,H p=none->dA H a->a p=!(.dK [])->Q (.ref p) a
def ux:PE X (.Dict [] [] pos) AB:=λa s σ H Q I h=>Cg a s σ H Q I (dy h)
structure Mu(H:Hp)(l:Tu)(o:HO)(H':Hp):Prop where
 at_:H' l=!o
 else_:∀a,a≠l->H' a=H a
def Mu.mk':Mu H l o (jl H l o):={aA,λ_ h=>aN h}
theorem Mu.old(m:Mu H l o H')(h:H a=!u)(n:a≠l):H' a=!u:=by rw[m.else_ a n];exact h
theorem Mu.same(m:Mu H l o H')(g:dA H0 H)(n:H0 l=none):dA H0 H':=λa u h=>m.old (g a u h) (ax h n)
def pG(e f:TE):TE:=λσ H Q=>e σ H λx b=>∃l h,x=.ref l/\b l=!(.lst h)/\f σ b λy c=>∃a,c l=!(.lst a)/\a.length<S6/\∀d,Mu c l (.lst (a++[y])) d->Q .non d
def a8{b a:Pos}(i:PE X o td)(j:PE X e te) (c:‹TF o "append" X.env (eval o X.env)=eval o X.env›)
 (f:‹((Um a (Te [e] X.env)).all (λx=>not x.1)&&(Us a (TW [] X.env)).all (λx=>x.1.isSome)
  && decide ([e].length+([]:List UW).length+(if([]:List UW).isEmpty then 0 else 1)<30))=true›)
 (d:‹(b.endLine==a.line)=true›) (hs:‹Te [e] X.env= [(false,eval e X.env)]›):
 PE X (.Call (.Attribute o "append" b) [e] [] a) (pG td te):=λn s σ H Q I h=>
 IG i.up j.up c f d hs n s σ H Q I {_,h,λ_ _ w=>by let{l,p,e1,r,q}:=w;exact{l,p,e1,r,_,q,λy _ z=>by let{u,v,A,q}:=z;exact{l,u,y,rfl,rfl,v,A,q _ .mk'}}}
def w8(e ty f:TE):TS:=λD σ H=>f σ H λv h=>e σ h λx i=>ty σ i λy c=>∃a b k,x=.ref a/\c a=!(.dK b)/\dL y=!k/\b.length<S6/\∀d,Mu c a (.dK (bR b k v)) d->D.nx σ d
def gM(c:X.A.units+1<Vk)(d:PE X o td)(e:PE X i ty)(f:PE X value tv)(hs:‹U3 value (!(.Subscript o i pos')) pos.line X.env=pure false›):
 PS X (.Assign [.Subscript o i pos'] value pos) (w8 td ty tv):=λj s σ H D I h=>
 Cm c d.up e.up f.up hs j s σ H D I {_,h,λ_ _ q=>{_,q,λ_ _ q=>{_,q,λ_ _ z=>by let{a,b,k,e1,e2,e3,n,q}:=z;exact{a,b,k,e1,e2,e3,n,q _ .mk'}}}}
def X7:List (V×V)->Option (List (hH×V))
 |[]=>some []
 |(x,y)::r=>(dL x).bind λk=>(X7 r).bind λl=> !((k,y)::l)
def iw(a:Tu)(o:HO)(g:TG)(b:TS)(D:hX):List V->St->Hp->Prop
 |[],σ,H=>H a=!o/\D.nx σ H
 |x::r,σ,H=>H a=!o/\g x σ H λc d=>b {D with nx:=iw a o g b D r,ct:=iw a o g b D r,bk:=D.nx} c d
def Ej(d:TE)(g:TG)(e:TS):TS:=λD σ H=>d σ H λx c=>∃a b,x=.ref a/\c a=!(.tup b)/\iw a (.tup b) g e D b σ c
def AC{xs:List V}(h:iw a o g tb D (xs.drop i) σ H):H a=!o/\((xs.length<=i/\D.nx σ H)\/∃x,xs[i]? =!x/\g x σ H λc H2=>tb {D with nx:=iw a o g tb D (xs.drop (i+1)),ct:=iw a o g tb D (xs.drop (i+1)),bk:=D.nx} c H2):=by
 by_cases b:i<xs.length;.rw [List.drop_eq_getElem_cons b]at h;exact{h.1,.inr {xs[i],QV b,h.2}}
 .rw [List.drop_eq_nil_of_le Xu]at h;exact{h.1,.inl {by ext,h.2}}
def Fr(j:Tl (model X.prog X.w) X.A X.env X.xe)(hc:X.calm=true)(f:PE X iter tl)(n:PG X tg g)(o:XM X body tb) (hs:autoParam (∀x,T5 iter X.env x=pure x) _ai):PS X (.For tg iter body [] pos) (Ej tl g tb):=by
 intro p s σ H D I h;refine cE j hc (pe f.up) n o hs p s σ H D I {_,h,λx A q=>?_};let{a,b,rfl,r,q}:=q;refine{a,rfl,{b,qu.of r},λi m σ H=>m=b.length-i/\i<=b.length/\iw a (.tup b) g tb D (b.drop i) σ H,{_,rfl,Ra _,q},?_};rintro i m σ H ⟨rfl,f,q⟩;obtain⟨c,⟨hl,q⟩|⟨x,d,q⟩⟩:=AC q;.exact .inl {{b,qu.of c,hl},q}
 .have e:=(Xj d).1;refine .inr {{b,x,qu.of c,d},iw a (.tup b) g tb D (b.drop (i+1)),λB u v=>{b.length-(i+1),by ext,rfl,e,v},λy u z=>?_};let{rfl,z}:=z;cases(d.symm.trans (z b (qu.of c)));exact q
end
def F3:HO->Option String
 |.lst _=>some "list"
 |.tup _=>some "tuple"
 |.dK _=>some "dict"
 |_=>none
def YR(H:Hp):V->Option String
 |.non=>some "NoneType"
 |.bl _=>some "bool"
 |.int _=>some "int"
 |.str _=>some "str"
 |.ref a=>(H a).bind F3
 |_=>none
theorem Lr{H:Hp}:YR H .non=some "NoneType":=rfl
theorem Ls{H:Hp}{x:Bool}:YR H (.bl x)=some "bool":=rfl
theorem Lu{H:Hp}{x:Int}:YR H (.int x)=some "int":=rfl
theorem Lv{H:Hp}{x:VA}:YR H (.str x)=some "str":=rfl
theorem Ek:YR H (.ref a)=(H a).bind F3:=rfl
theorem Lw{xs:List V}:F3 (.lst xs)=some "list":=rfl
theorem Lx{xs:List V}:F3 (.tup xs)=some "tuple":=rfl
theorem Lz{xs:List (hH×V)}:F3 (.dK xs)=some "dict":=rfl
def w9{K:RP}(h:YR H x=!t):fg K H x (.type t):=by
 cases x with
 |non=>cases h;exact .non
 |bl b=>cases h;exact .bl b
 |int b=>cases h;exact .int b
 |str b=>cases h;exact .str b
 |ref a=>
  rw[Ek]at h;cases e:H a with
  |none=>simp_all
  |some o=>
   rw[e]at h;cases o with
   |lst c=>cases h;exact .lst e
   |tup c=>cases h;exact .tup e
   |dK c=>cases h;exact .dK e
   |_=>cases h
 |_=>cases h
def yD(K:RP):List V->Hp->VK->Prop:=λa H Q=>∃x T t b,a= [x,.ty T]/\YR H x=!t/\Sb K (.type t) (.type T)=!b/\Q (.bl b) H
def uy:bH X (.builtin "isinstance") (yD X.K):=by intro a s σ H c d Q I r h;let{x,T,t,b,e1,e2,e3,q}:=h;exact wt a s σ H c d Q I r {x,T,_,b,e1,w9 e2,e3,q}
theorem IQ{K:RP}:Sb K (.type "int") (.type "list")=!false:=rfl
theorem IR{K:RP}:Sb K (.type "NoneType") (.type "list")=!false:=rfl
theorem IS{K:RP}:Sb K (.type "tuple") (.type "list")=!false:=rfl
theorem IT{K:RP}:Sb K (.type "list") (.type "list")=!true:=rfl
theorem IU{K:RP}:Sb K (.type "str") (.type "list")=!false:=rfl
theorem IV{K:RP}:Sb K (.type "bool") (.type "list")=!false:=rfl
theorem IW{K:RP}:Sb K (.type "dict") (.type "list")=!false:=rfl
def bz:Expr->Bool
 |.Starred _ _=>false
 |_=>true
theorem dI(h:bz e=true):Te (e::es) env=(false,eval e env)::Te es env:=by
 cases e with
 |Starred v q=>exact absurd (h) Xp
 |_=>rfl
theorem dB:∀{es:List Expr},es.all bz=true->(Um pos (Te es env)).any (·.1)=false
 |[],_=>rfl
 |e::es,h=>by rw[List.all_cons,RE]at h;rw[dI h.1];show(false || (Um pos (Te es env)).any (·.1))=false;rw[dB h.2];rfl
section
variable{X:Cx}{e:Expr}{es:List Expr}{te:TE}{t:TA}{x:VA}{p pos:Pos}{id T:String}{r:List V->Hp->VK->Prop}
def gj(a:PE X e te)(b:PA X es t)(hn:‹bz e=true›):PA X (e::es) (bI te t):=wS a b (dI hn)
def fL(hc:bH X (.builtin id) r)(b:Gl X x)(c:X.mg x=none)(d:Tx x=!(.builtin id))(f:PA X (e::es) t)(hn:(x≠"__name__")⁻¹)(a:((x==("__debug__":VA))=false)⁻¹)
 (hs:‹(e::es).all bz=true›):PE X (.Call (.Name x p) (e::es) [] pos) (_l r t):=
 B3 hc b c d f hn a (dI (Xo hs).1) (dB (Xo hs).2)
def IX(hc:bH X (.type T) r)(b:Gl X x)(c:X.mg x=none)(d:Tx x=!(.type T))(f:PA X (e::es) t)(hn:(x≠"__name__")⁻¹)(a:((x==("__debug__":VA))=false)⁻¹)
 (hs:‹(e::es).all bz=true›):PE X (.Call (.Name x p) (e::es) [] pos) (_l r t):=
 Ak hc b c d f hn a (dI (Xo hs).1) (dB (Xo hs).2)
end
structure hW(K:RP)(mg:VA->Option S5)(x:VA)(st:Stmt)(ps:List VA):Prop where
 ex:∃f fd,mg x=!(.ref f)/\YQ K x x st f fd/\ri K fd ps []
structure _h(P:S9)(w:Td)(K:RP)(mg:VA->Option S5)(base:Heap)(n:Nat)(x:VA)(ps:List VA)(sp:Sp):Prop where
 ex:∃f fd,mg x=!(.ref f)/\Ul K (.ref f)=true/\ri K fd ps []/\fh P w K mg base Yb n f fd ps sp
def j8(sp:Sp)(t:TA):TE:=λσ H Q=>t σ H λa b=>sp a b Q E0
#print j
theorem hW.ok(D:hW K mg x st ps)(S:au N ps (aj st))(len:∀vs H Q E,sp vs H Q E->vs.length=ps.length) (a:∀(f:Tu) (c:S5) (A:Tj) (b:List Env) (s:S8) (H:Hp) (vs:List V) (Q:VK) (E:XK),mm k (A.deeper (TR x (aj st) s.heap.objs.size f c))->sp vs H Q E->∃t,XM (fJ Yb P w K mg base N x (aj st) f c A b s H E).ay (cw st) t/\t {nx:=λ_ d=>Q .non d,rt:=Q} (start N vs) H):_h P w K mg base (k+1) x ps sp:=by
 let{f,e,h,F,i}:=D.ex;exact{f,e,h,F.kp,i,F.ok S len (a f)}
def hW.never(D:hW K mg x st ps)(n:Nat)(h:∀vs H Q E,¬sp vs H Q E):_h P w K mg base n x ps sp:=by let{f,c,d,F,e}:=D.ex;exact{f,c,d,F.kp,e,{λvs H Q E q=>absurd q (h vs H Q E),λA a s H b i vs Q E _ _ _ _ q=>absurd q (h vs H Q E)}}
end
#print k
def aB(G:_h X.prog X.w X.K X.mg X.base k x ps sp)(d:mm n X.A)(i:Gl X x)(j:PA X (e::es) t)(hk:autoParam (k<=n) _ae)(c:((x==("__debug__":VA))=false)⁻¹)
 (hs:‹(e::es).all bz=true›):PE X (.Call (.Name x p) (e::es) [] pos) (j8 sp t):=by
 let{f,v,o,q,r,F}:=G.ex;intro u s σ H Q I h;apply Fb F (d.mono hk) i o q r .nil gF j c (dI (Xo hs).1) (dB (Xo hs).2) u s σ H Q I;have e:(λa b=>sp (a++[]) b Q E0)=λa b=>sp a b Q E0:=by funext a b;rw[Rf]
 show t σ H λa b=>sp (a++[]) b Q E0;rw[e];exact h
end
def yE(K:RP):Sp:=λb H Q _=>∃(a:Tu) (ns:List Int),b= [.ref a]/\ip K H a (ns.map V.int)/\ns.length<=63/\∀c,Q (.bl true) c
#print l
end
section
variable{X:Cx}{Xg:List (Tu×Obj)}{σ:St}{H1:Hp}{s1:S8}
end
#print f
end
section
variable{X:Cx}{E:XK}{x:VA}{C:Tu}{np cpos pos:Pos}{e:Expr}{es:List Expr}{t:TA}
end
#print f
end
#print j
end
section
variable{X:Cx}{E:XK}{k n:Nat}{ps:List VA}{sp:Sp}{x:VA}{p pos:Pos}{e:Expr}{es:List Expr}{t:TA}
end
#print g
end
section
open PySem.W
end
abbrev TX:=St->Hp->VK->XK->Prop
#print k
end
section
variable{X:Cx}{B:Tu}{i:Nat}{n cx:VA}{e:Expr}{b0:Stmt}{suite:List Stmt}{ep np hpos pos:Pos}{t:TX}{th:TS}
end
abbrev Cx.comp(X:Cx)(a:UQ)(b:List (VA×Tu))(N:List VA)(C:Tu)(c:List Tu)(s₀:S8)(H₀:Hp):Cx:=
 {X with N:=N,s₀:=s₀,H₀:=H₀,env:=compEnvC a b C X.env,outer:=X.stack,ex:=c,fn:=λ_=>false,pn:=[],xe:=λ_ _=>False}
def tS(σ:St)(cap:List Nat):St:=cap.map λi=>(σ[i]?).join
section
variable{X:Cx}{Xg:List (Tu×Obj)}{σ:St}{H:Hp}{s:S8}{scope:UQ}{cl:List (VA×Tu)}{N:List VA}{cap:List Nat}
end
def _x(X:Cx)(a:List Expr)(t:TT):Prop:=
 ∀(b:List (Tu×Obj)) (s:S8) (σ:St) (H:Hp) (Q:Bool->Hp->Prop),dN X b σ H s->t σ H Q->
  Tc (model X.prog X.w) X.A (forIn a true λc r=>if r=true then do let ok <-WX c X.env (eval c X.env);pure (ForInStep.yield ok)else pure (ForInStep.yield r)) (TP X b σ Q) X.xe s
def yF:TT:=λ_ H Q=>Q true H
def cc{X:Cx}:_x X [] yF:=λ_ _ _ H _ I h=>wpAny_tests_nil {(H),I,h}
def Fs{X:Cx}{c:Expr}{t:TT}(h:PT X c t):_x X [c] t:=λa s σ H Q I q=>wpAny_tests_one (h a s σ H Q I q)
section
variable{X:Cx}{scope:UQ}{cl:List (VA×Tu)}{N:List VA}{cap:List Nat}{x:VA}{px pos:Pos}{iter elt:Expr}{ifs:List Expr}{wi:TI}{tc:TT}{te:TE}
end
structure qM(J:It)(xs:List V)(ok:Hp->Prop):Prop where
 go:∀i H,ok H->i<xs.length->J.go i H
 stop:∀i H,ok H->xs.length<=i->J.stop i H
 yld:∀i H x H',ok H->i<xs.length->J.yld i H x H'->H'=H/\xs[i]? =!x
def sq{K:RP}{a:Tu}{xs:List V}:qM (Zy K a) xs (λH=>H a=!(.lst xs)) where
 go:=λi H e h=>{xs,xs[i],ip.of e,QV h}
 stop:=λi H e h=>{xs,ip.of e,h}
 yld:=λi H v b e h y=>{y.1,y.2 xs (ip.of e)}
def Cp{K:RP}{a:Tu}{xs:List V}:qM (Z1 K a) xs (λH=>H a=!(.tup xs)) where
 go:=λi H e h=>{xs,xs[i],qu.of e,QV h}
 stop:=λi H e h=>{xs,qu.of e,h}
 yld:=λi H v b e h y=>{y.1,y.2 xs (qu.of e)}
def yG(lo:Int)(n:Nat):qM (Zk lo n) ((List.range n).map λ(k:Nat)=>V.int (lo+k)) (λ_=>True) where
 go:=λi H _ h=>(show i<n by simpa using h)
 stop:=λi H _ h=>(show n<=i by simpa using h)
 yld:=λi H v b _ h y=>by let{e,rfl}:=y;refine{e,?_};have a:i<n:= ~~~h;rw[QY,List.getElem?_range a];rfl
def d8{a:List (VA×TQ)}{y:VA}{k:TQ}(h:a.lookup y=!k):(y,k)∈a:=TZ h
#print b
end
def yH:R2:=λx y H Q=>∃l b a c,x=.ref l/\y=.ref b/\H l=!(.lst a)/\H b=!(.lst c)/\a.length+c.length<=S6/\∀p d,H p=none->dA H d->d p=!(.lst (a++c))->Q (.ref p) d
def Ft{X:Cx}:NF X (UB .Add) yH:=by intro a s σ H x y v u Q I c d h;let{l,b,e,f,e1,e2,i,j,n,q}:=h;exact IB a s σ H x y v u Q I c d {l,b,e,f,e1,e2,i,j,n,dy q}
def El:V->V->V->Hp->(Hp->Prop)->Prop:=λo i v H Q=>∃p a k j,o=.ref p/\i=.int k/\H p=!(.lst a)/\YM a.length k=!j/\∀b,Mu H p (.lst (a.set j v)) b->Q b
def dR{X:Cx}:yj X El:=by intro a s σ H o i v b c u Q I d e f h;let{p,n,k,j,e1,e2,r,x,q}:=h;exact B7 a s σ H o i v b c u Q I d e f {p,n,k,j,e1,e2,r,x,q _ .mk'}
def tMs(t:TS):TS:=λD σ H=>∃Z:St->Hp->Prop,t {D with nx:=Z} σ H/\∀a b,Z a b->D.nx a b
def jf{X:Cx}{st:Stmt}{t:TS}(h:PS X st t):PS X st (tMs t):=by
 intro a s σ H D I b;let{Z,c,d}:=b;refine thn (h a s σ H _ I c) λe n hs=>?_;cases e with
 |next=>let{f,i,j,q}:=hs;exact{f,i,j,d _ _ q}
 |_=>exact hs
section
variable{X:Cx}{Xg:List (Tu×Obj)}{σ:St}{H:Hp}{s:S8}{h':Heap}
def dN.bp{ch:List Tu}(I:dN X Xg σ H s)(k:∀b o,b∉ch->s.heap.get? b=!o->h'.get? b=!o)(a:∀b∈ch,gf X Xg H b):dN X Xg σ H {s with heap:=h',toks:=t'}:=by
 have d:∀b u,H b=!u->b∉ch:=λb u e z=>by rw[(a b z).1]at e;cases e
 refine I.step (λb f=>?_) (λb o _ _ hc e _=>k b o hc e) (λb o _ _ hc e _=>{o.slots,k b o hc e}) (λ_ _ _ _ n=>n)
  (λb o hc e=>{o,k b o hc e}) (λ_ _ e=>e) (λ_ _ _ e=>e) (λb B e=>{#[],by rw[e];simp}) (λm h=>?_) (λb u e=>?_) I.bare
 .let{_,i,_,j,p,x}:=a b f;exact{(j),i,p,x}
 .let{o,es,y,A,r}:=h;exact{o,es,y,k _ o (λz=>(a _ z).2.1 rfl) A,r}
 .refine(I.hok b u e).a4 (λc v hc q=>k c v ?_ q) (λ_ q=>q) λ_ _ q=>q;rcases hc with z|z;.simp_all
  .exact d c _ z
end
def _U(K:RP)(a:Tu):It:=
 {λi H=>∃b x,ip K H a b/\b[i]? =!x,λi H v c=>∃p x,v=.ref p/\H p=none/\dA H c/\c p=!(.tup [.int i,x])/\∀b,ip K H a b->b[i]? =!x,λi H=>∃b,ip K H a b/\b.length<=i}
def AD{K:RP}(a e n:Tu)(v:e≠n):om P w K (.Tuple elts kk tpos) (_U K a) [e,n] e (λi h=>(∃old,IsEnum h e n i old)/\h.IsListIter n a i) where
 mem:=by simp
 obj:=λi h st b f=>by
  let{{old,r},o,Z,c,d}:=st;rcases Xi f with rfl|f
  .simp_all
  .simp_all
 keep:=λi h h' y k=>by let{{old,r},j}:=y;exact{{old,k e eq _ r},j.at λo q=>k n eq o q}
 item:=by
  intro X Q hw R hc i M s σ H E I N st S;subst Q hw R;let{xs,x,O,T}:=S;let{{old,r},j}:=st;let{U,W,p,hz}:=I.list O;let{u,hu,ru}:=W.get T;refine wpAny_pyNext_enum_item r j p.isList (~~~hu) v λh' Z A hT a1 hk=>?_;refine{_,rfl,wpAny_letOwnedTupleGo_enum Z λY B hs=>?_};have C:=Q5 r;have a0:n<s.heap.objs.size:=by let{_,q,_}:=j;exact Q5 q
  have I1:dN X M σ (jl H s.heap.objs.size (.tup [.int i,x])) {s with heap:=s.heap.push {cls:=.type "tuple",data:=.seq #[.int i s.toks,u]},toks:=s.toks+1}:=
   I.laid (λb o q=>QK _ q) (Xm _) {by show 2<=S6;decide,[.int i s.toks,u],.cons {_,rfl} (.cons ru .nil),{_,QR _ rfl,rfl,_,{(rfl),rfl}}}
  have F:∀b∈[e,n],gf X M (jl H s.heap.objs.size (.tup [.int i,x])) b:=λb f=>by
   have lt:b<s.heap.objs.size:=by
    rcases Xi f with rfl|f;.exact C
    .simp_all
   refine{?_,(N b f).2};rw[aN (Q8 lt)];exact(N b f).1
  have I2:dN X M σ (jl H s.heap.objs.size (.tup [.int i,x])) {s with heap:=Y,toks:=s.toks+1}:=I1.bp (λb o f q=>by
   have n1:b≠e:=λz=>f (by simp[z]);have n2:b≠n:=λz=>f (by simp[z]);apply(hs.2 b n1).trans;by_cases G:b=s.heap.objs.size;.subst G;have J:(s.heap.push {cls:=.type "tuple",data:=.seq #[.int i s.toks,u]}).get? s.heap.objs.size=!o:=q;rw[QR _ rfl]at J;cases J;exact hT
   .have J:(s.heap.push {cls:=.type "tuple",data:=.seq #[.int i s.toks,u]}).get? b=!o:=q;rw[Rt _ _ _ G]at J;exact hk b o n1 n2 J) F
  refine{.ref s.heap.objs.size,_,I2,rfl,{_,x,rfl,I.hok.fresh (Xm _),aU (I.hok.fresh (Xm _)) _,aA,λys hy=>by rw[I.bh hy O];exact T},{{_,by simpa using B},?_},λb f=>(F b f).1};exact A.at λo q=>(hs.2 n v.symm).trans q
 done := by intro X Q hw R hc i M s σ H E I N st S;subst Q hw R;let{xs,O,T}:=S;let{{old,r},j}:=st;let{U,W,p,hz}:=I.list O;let{f0,f1,f2,f3,f4,f5}:=N n eq;have hl:=W.length;exact wpAny_pyNext_enum_end (I.ok.hd hc) r j p.isList (by simp;ext) λh' eb=>{rfl,I.turned (λb o f e=>eb b o f e) f0 f1 f3 f4 f5}
 self:=λ_ _ _ _ _ st h=>by let{{old,r},_}:=st;exact wpAny_pyIter_enum r h
def Em(K:RP)(c:TA):TI:=λσ H R=>c σ H λd b=>∃a,d= [.ref a]/\(∃e,ip K b a e)/\R (_U K a) b
def Fu(j:Gl X "enumerate")(n:X.mg "enumerate" =none)(o:PA X [a] ta)(hs:‹Te [a] X.env= [(false,eval a X.env)]›):
 PI X (.Tuple elts kk tpos) (.Call (.Name "enumerate" p) [a] [] pos) (Em X.K ta):=by
 intro u s σ H R I h;refine Call_ (gJ I j n (show Tx "enumerate" =some (.type "enumerate") by decide) (Tq (thn (o pos u s σ H _ I h) λG c z=>?_) hs rfl));let{J,v,d,x,y}:=z;let{l,e,{K,A},q}:=y;subst e;cases x with
 |cons r B=>
  cases B;cases r;let{C,M,pl,N}:=d.list A;refine call_enumerate_list pl.isList λO f E F hk=>?_;refine wpAny_pyIter_enum f {c.heap.objs.size+1,[c.heap.objs.size+1,c.heap.objs.size],_,_,v,rfl,d.kept hk,AD l _ _ (Nat.succ_ne_self _),{{_,f},E},λb i=>?_,q};have le:c.heap.objs.size<=b:=by
   rcases Xi i with rfl|i;.lia
   .grind
  exact d.ar le (d.hok.fresh le)
def Cq{K:RP}{g:TG}{j:TS}{D:hX}(xs:List V)(c:Nat->St->Hp->Prop)(o:c 0 σ H1) (hl:∀i σ H,i<=xs.length->c i σ H->ip K H a xs) (hs:∀i x σ H p b,xs[i]? =!x->c i σ H->H p=none->dA H b->b p=!(.tup [.int (i:Nat),x])->g (.ref p) σ b λf H2=>j {D with nx:=c (i+1),ct:=c (i+1),bk:=D.nx} f H2)
 (r:∀σ H,c xs.length σ H->D.nx σ H):∃W:Nat->Nat->St->Hp->Prop,(∃m,W 0 m σ H1)/\∀i m σ H,W i m σ H->
  ((_U K a).stop i H/\D.nx σ H)\/((_U K a).go i H/\∃N,(∀h b,N h b->∃n,n<m/\W (i+1) n h b)/\∀x b,(_U K a).yld i H x b->g x σ b λf H2=>j {D with nx:=N,ct:=N,bk:=D.nx} f H2):=by
 refine{λi m σ H=>m=xs.length-i/\i<=xs.length/\c i σ H,{xs.length,by simp,Ra _,o},?_};rintro i m σ H ⟨rfl,u,p⟩;have q:=hl i σ H u p;by_cases d:i<xs.length;.refine .inr {{xs,xs[i],q,QV d},c (i+1),λh b z=>{xs.length-(i+1),by ext,rfl,d,z},λv b y=>?_};let{A,x,rfl,hn,sm,B,C}:=y;exact hs i x σ H A b (C xs q) p hn sm B
 .have e:i=xs.length:=by ext
  subst e;exact .inl {{xs,q,Xm _},r σ H p}
inductive F2 (R:V->V->Prop):List V->List V->Prop
 |nil:F2 R [] []
 |cons {x v:V} {xs vs:List V}:R x v->F2 R xs vs->F2 R (x::xs) (v::vs)
theorem iJ{α:Type}{f:α->β->Sem (ForInStep β)}(g:α->β->β):∀(l:List α) (b:β),(∀x∈l,∀b,f x b=pure (.yield (g x b)))->forIn l b f=pure (l.foldl (λb x=>g x b) b)
 |[],b,_=>by rw[Sk];rfl
 |x::l,b,h=>by rw[Sa,h x QO b];exact iJ g l (g x b) λy a=>h y (QM _ a)
def iK(env:Env)(x:VA×TQ)(r:List (VA×Tu)):List (VA×Tu):=if x.2== .free then(x.1,(env.cells.lookup x.1).getD 0)::r else r
def qN(env:Env)(a:UQ):List (VA×Tu):=a.names.foldl (λr x=>iK env x r) []
def yI(h:∀y∈scope.names,y.2=.free->∃c,env.cells.lookup y.1=!c):WC scope env=pure (qN env scope):=by
 simp only[WC];rw[iJ (iK env) scope.names [] (λx d b=>by
  let{n,k}:=x;cases hk:(k==TQ.free)with
  |false=>simp[iK,hk]
  |true=>have e:k=.free:= ~~~hk;let{c,hc}:=h _ d e;have a:=hc;simp[iK,hk,cellOf,a])]
 rfl
theorem AE:∀(a:List (VA×TQ)) (b:List (VA×Tu)),(∀y∈a,y.2=.free->∃c,env.cells.lookup y.1=!c)->(∀y c,b.lookup y=!c->env.cells.lookup y=!c)->∀y c,(a.foldl (λr x=>iK env x r) b).lookup y=!c->env.cells.lookup y=!c
 |[],b,_,i,y,c,e=>i y c e
 |(n,k)::a,b,h,i,y,c,e=>by
  refine AE a (iK env (n,k) b) (λz o=>h z (QM _ o)) (λz d f=>?_) y c e;unfold iK at f;split at f
  .rename_i hk;have j:k=.free:= ~~~hk;let{q,p}:=h _ QO j;rw[Ru]at f;split at f;.grind
   .exact i z d f
  .exact i z d f
theorem AF:∀(a:List (VA×TQ)) (b:List (VA×Tu)) (y:VA),((y,TQ.free)∈a\/(b.lookup y).isSome)->((a.foldl (λr x=>iK env x r) b).lookup y).isSome
 |[],b,y,h=>h.elim (λz=>absurd z Q7) id
 |(n,k)::a,b,y,h=>by
  apply AF a (iK env (n,k) b) y;rcases h with h|h
  .rcases Xi h with h|h
   .let{rfl,rfl}:=Prod.mk.inj h;right;simp[iK]
   .exact .inl h
  .right;unfold iK;split;.simp_all
   .exact h
theorem fY{env:Env}:∀{a:List (VA×TQ)} {x:VA},a.lookup x=!.free->(a.map λ(n,k)=>if(k==TQ.free&&env.scope.kind== .function&&env.kindOf n== !.cell)then(n,TQ.cell)else(n,k)).lookup x=!.cell\/(a.map λ(n,k)=>if(k==TQ.free&&env.scope.kind== .function&&env.kindOf n== !.cell)then(n,TQ.cell)else(n,k)).lookup x=!.free
 |[],_,h=>by simp at h
 |(n,k)::r,x,h=>by
  have c:= @fY env r x;rw[Ru]at h;rw[QU];cases b:x==n with
  |true=>
   rw[b]at h;have hk:k=.free:= ~~~h;subst hk;dsimp only;split;.left;rw[Ru,b]
   .right;rw[Ru,b]
  |false=>
   rw[b]at h;dsimp only;split;.rw [Ru,b];exact c h
   .rw [Ru,b];exact c h
section
variable{X:Cx}{B:Tu}{cx:VA}{e:Expr}{b0:Stmt}{suite:List Stmt}{ep np hpos pos:Pos}{t:TX}{th:TS}
end
def MX(J:It)(g:TG)(d:TS)(D:hX)(σ:St)(e:Hp):Prop:=∃W:Nat->Nat->St->Hp->Prop,(∃m,W 0 m σ e)/\∀i m σ H,W i m σ H->
 (J.stop i H/\D.nx σ H)\/(J.go i H/\∃N:St->Hp->Prop,(∀b a,N b a->∃c,c<m/\W (i+1) c b a)/\∀x a,J.yld i H x a->g x σ a λf h=>d {D with nx:=N,ct:=N,bk:=D.nx} f h)
def ce(h:wi σ H λJ a=>MX J g tb D σ a):yn wi g tb D σ H:=h
#print g
def uz(X:Cx)(d:Tu):Prop:=∀o u,X.H₀ d≠!(.frz o u)
def dN.bq(I:dN X Xg σ H s)(i:H d=!u)(y:∀xs,u≠.tup xs)(B:uz X d)(C:∀j,u≠.tbl j)(E:∀x,u≠.own x)(new:ni X.prog X.w (jl H d u') s.heap d u'):dN X Xg σ (jl H d u') s:=by
 have ne:∀{b:Tu},H b=none->b≠d:=λh z=>by rw[z,i]at h;cases h
 have sub:∀{b:Tu},H b=none->jl H d u' b=none:=λ{b} h=>by rw[aN (ne h)];exact h
 have bs:=I.base;refine{I.ok,I.os,I.bare,{bs.keep,bs.slot,λb o e n F=>sub (bs.free b o e n F),bs.there,λb xs e=>?_,λb o v e=>?_,λb j e=>?_},I.loc,I.cell,sub I.free,λx c e=>sub (I.freeC x c e),λp G=>?_,λa v e=>?_,I.len}
 .have:=bs.tups b xs e;have f:b≠d:=λz=>by rw[z,i]at this;exact y xs (Xr this)
  rw[aN f];exact this
 .have f:b≠d:=λz=>B o v (by rw[<-z];exact e);rw[aN f];exact bs.frzs b o v e
 .let{more,r}:=bs.tbls b j e;have f:b≠d:=λz=>by rw[z,i]at r;exact C _ (Xr r)
  exact{more,by rw[aN f];exact r}
 .let{J,K,M,N,O}:=I.pin p G;exact{J,sub K,M,N,O}
 .by_cases A:a=d
  .subst A;rw[aA]at e;cases e;exact new
  .rw [aN A]at e;refine(I.hok a v e).a4 (λ_ _ _ q=>q) (λb q=>?_) λb xs q=>?_
   .have f:b≠d:=λz=>by rw[z,i]at q;exact E _ (Xr q)
    rw[aN f];exact q
   .have f:b≠d:=λz=>by rw[z,i]at q;exact y _ (Xr q)
    rw[aN f];exact q
def dN.ca(I:dN X Xg σ H s)(a:H d=!(.dK kvs)):uz X d:=λo u e=>by have:=I.base.frzs d o u e;rw[a]at this;cases this
end
def ox(h:jc k v=true):hB (kV k) v:=by
 rcases bQ h with ⟨i,t,rfl,rfl⟩|⟨x,t,rfl,rfl⟩
 .exact{(t),rfl}
 .exact{(t),rfl}
#print b
def En:V->List V->Hp->VK->Prop:=λx c H Q=>∃l a y,x=.ref l/\c= []/\H l=!(.lst (a++[y]))/\∀b,Mu H l (.lst a) b->Q y b
def qO:Zw X "list.pop" En:=by
 intro a s σ H x b v c Q I d e h;let{l,f,y,e1,e2,i,q}:=h;refine Iz a s σ H x b v c Q I d e {l,f++[y],y,e1,e2,i,?_,?_};.simp_all
 .rw [List.dropLast_concat];exact q _ .mk'
end
#print d
theorem sx{t:Tu}{items:Array S5}(b:t≠it):∀(n i:Nat) (s:S8) (Q:List S5->S8->Prop),s.heap.IsListIter it t i->s.heap.IsList t items->i+n<=items.size->(∀h',h'.IsListIter it t (i+n)->Heap.SameBut it s.heap h'->Q ((items.toList.drop i).take n) {s with heap:=h'})->Tc (model prog w) A (draw (.ref it) n) Q E s
 |0,i,s,Q,a,_,_,j=>by exact S7 (~~~(j s.heap a (Heap.SameBut.refl ..)))
 |n+1,i,s,Q,a,q,r,j=>by
  have c:i<items.size:=by ext
  refine S4 (Uw a q (x:=items[i]) (by simp[c]) λy d f=>?_);refine S4 (Tf (sx b n (i+1) _ _ d (q.at λo e=>(f.2 t b).trans e) Xu λu h p=>S7 ?_));have v:items.toList.drop i=items[i]::items.toList.drop (i+1):=by simp[List.drop_eq_getElem_cons,c]
  have:=j u (by rw[show i+(n+1)=i+1+n by ext];exact h) (f.trans p);rw[v]at this;exact this
def oA(p:A.handled=none)(a:s.heap.IsList t items) (q:∀h',Heap.ExtBut s.heap.objs.size s.heap h'->Q items.toList {s with heap:=h'}):Tc (model prog w) A (unpackItems (.ref t) items.size none) Q E s:=by
 have c:t≠s.heap.objs.size:=by let{o,r,_}:=a;exact Q8 (Q5 r)
 apply S4;refine S4 (wpAny_specialOf a.typeIs F.slot_list_iter.lookup ?_);apply S7;refine S4 (Tf (Uj a ?_));refine S4 (Tf (sx c items.size 0 _ _ {_,QR _ rfl,rfl,rfl} (a.at λo e=>QK _ e) Xu λv d f=>?_));have h:List.take items.size (List.drop 0 items.toList)=items.toList:=by rw[List.drop_zero];exact QZ eq
 rw[h];rw[Xe eq];have i:=(a.at λo e=>QK _ e).at λo e=>(f.2 t c).trans e;refine S4 (Tf (UC p d i eq λu j=>?_));refine S7 (q u λb o n e=>j b o n (f.extBut b o n (QK _ e)))
end
def Eo(n:Nat)(t:Z3):TG:=λv σ H Q=>∃a b,v=.ref a/\H a=!(.lst b)/\b.length=n/\t b σ H Q
def Fv{k:Nat}{pos:Pos}(n:Nat)(hc:X.calm=true)(h:_e X es t) (hn:‹(Uc es X.env).length=n›) (c:‹(Uc es X.env).findIdx? (·.1)=none›):PG X (.Tuple es k pos) (Eo n t):=by
 intro f s σ H v u Q I r hw;let{a,j,e1,q,hl,hw}:=hw;subst e1;cases r;let{d,i,p,A}:=I.list (ip.of q);refine S4 (UI ?_);unfold unpack;have e:(Uc es X.env).length=d.toArray.size:=by simp[hn,<-hl,i.length]
 rw[e,c];refine S4 (Tf (oA (I.ok.hd hc) p.isList λx y=>?_));have z:dN X f σ H {s with heap:=x}:=I.kept λb o e=>y b o (Q8 (Q5 e)) e;exact h f _ σ H j _ Q z (~~~i) hw
theorem uA:∀{ns:List Int} {a:List S5},eC (ns.map V.int) a->Ud a ns
 |[],_,.nil=>.nil
 |n::ns,_,.cons h r=>by let{t,rfl}:=h;exact .cons n t (uA r)
def uB:∀{ns:List Int} {a:List S5},Ud a ns->eC (ns.map V.int) a:=by
 intro d e b;induction b with
 |nil=>exact .nil
 |cons n t r c=>exact .cons {(t),rfl} c
def Ep:List V->Hp->VK->Prop:=λd H Q=>∃(p:Tu) (ns:List Int),d= [.ref p]/\(H p=!(.lst (ns.map V.int))\/∃a:List (hH×V),H p=!(.dK a)/\a.map (·.1)=ns.map Sum.inl)/\ns.length<64/\
 ∀D b c,H D=none->dA H b->b D=!(.lst (c.map V.int))->List.Perm c ns->List.Pairwise (λx y=>x<=y) c->Q (.ref D) b
def wu(hc:X.calm=true):bH X (.builtin "sorted") Ep:=by
 intro Xg s σ H xs us Q I r h;let{p,ns,rfl,E,a0,q}:=h;let{u,rfl,ru}:=d6 r;cases ru;rcases E with E|⟨F,E,hk⟩
 .let{G,rv,pl,hz}:=I.list (ip.of E);have O:=uA rv;have hl:G.length=ns.length:=by have:=rv.length;rw[QL]at this;exact this.symm
  refine sorted_ints pl.isList O Xu λc d P J R=>?_;let{e,S}:=sortedAll_at s.heap G c;have T:d.length<=S6:=by have:=J.length_eq;unfold S6;ext
  have fr:=I.hok.fresh (R0 _);have U:=I.laid (o:=.lst (d.map V.int)) (t':=s.toks) (λb u e=>sortedAll_old e) (R0 _) ({by rw[QL];exact T,c.toList,e,uB P,S});exact{.ref (s.heap.objs.size+1),_,U,rfl,q _ _ _ fr (aU fr _) aA J R}
 .let{z1,z2,vs,A,o,es,ep,ho,r}:=gD I.hok E;have D0:s.heap.DictAt (aF X.prog X.w) p vs ep:={(o),es,ho,r}
  have lv:vs.length=ns.length:=by have N:=A.length;have h2:=congrArg List.length hk;rw[QL,QL]at h2;ext
  apply UA Wf V0 V1 (V2 _);refine S4 (S7 ?_);refine S4 (PySem.W.kdu_collect (SX z2) (I.ok.hd hc) D0 (by rw[lv];unfold S6;ext) λB tk a W y=>?_);have K:a.toList.length=ns.length:=by rw[Array.length_toList,y.1,lv]
  refine S4 (UJ ?_ (by rw[K];unfold S6;ext));have O:Ud a.toList ns:=by
   have Y:∀(n:Nat) (l:List S5) (f:List Int),l.length=f.length->(∀(j:Nat) (v:S5),l[j]? =!v->∃i t,f[j]? =!i/\v=S5.int i t)->Ud l f:=by
    intro n l;induction l with
    |nil=>intro f hl _;cases f with
     |nil=>exact .nil
     |cons _ _=>cases hl
    |cons v l ih=>
     intro f hl hv;cases f with
     |nil=>cases hl
     |cons i f=>let{i',t,e1,rfl}:=hv 0 v rfl;cases e1;exact .cons _ t (ih f (~~~hl) λj v e=>by simpa using hv (j+1) v (~~~e))
   refine Y 0 _ _ K λj v e=>?_;let{k,x,hx,Z}:=y.2 j v (by rw[<-Array.getElem?_toList];exact e);let{N,h2}:=Xj hx;have hj:j<F.length:=(by have:=A.length;ext);have ek:(F[j]).1=k:=(by have N:=congrArg (λl:List hH=>l[j]?) A.keys;simp only[QY,QV hj,hx,SL]at N;exact Xr N);have e3:=congrArg (λl:List hH=>l[j]?) hk;simp only[QY,QV hj,SL]at e3;have M:j<ns.length:=(by ext);rw[QV M]at e3;simp only[SL,Option.some.injEq]at e3;rw[ek]at e3;subst e3;rcases bQ (show jc (Sum.inl ns[j]) v=true from Z)with ⟨i,t,e4,rfl⟩|⟨z,t,e4,_⟩
   .cases e4;exact{_,t,QV M,rfl}
   .cases e4
  have C:(B.push (T3 "list" a.toList.toArray 0)).get? B.objs.size=!(T3 "list" a.toList.toArray 0):=QR _ rfl;refine S4 (Tf (Tw VF {_,C,rfl} Vu (list_sort_tree C O Xu λc d P J R=>{_,rfl,?_}) (VG _)));refine S7 {_,rfl,?_};let{e,S}:=sortedHeap_at C;have I1:dN X Xg σ H {s with heap:=B,toks:=tk}:=I.kept W;have T:d.length<=S6:=by have:=J.length_eq;unfold S6;ext
  have fr:=I1.hok.fresh (Xm _);have kp:∀b o,B.get? b=!o->(VW (B.push (T3 "list" a.toList.toArray 0)) B.objs.size a.toList c).get? b=!o:=λb o e1=>by have l1:=Q5 e1;rw[sortedHeap_old (Q8 l1) (by rw[RC];exact RD l1)];exact QK _ e1
  have U:=I1.laid (o:=.lst (d.map V.int)) (t':=tk) kp (Xm _) ({by rw[QL];exact T,c.toList,e,uB P,S});exact{.ref B.objs.size,_,U,rfl,q _ _ _ fr (aU fr _) aA J R}
def AG(K:RP):List V->Hp->VK->Prop:=λc H Q=>∃p a,c= [.ref p]/\(H p=!(.lst a)\/H p=!(.tup a))/\∀l b,H l=none->dA H b->b l=!(.lst a)->Q (.ref l) b
def d9:bH X (.type "list") (AG X.K):=by intro a s σ H b c Q I r h;let{p,d,e,f,q}:=h;exact uu a s σ H b c Q I r {p,d,e,f.elim (λh=>.inl (ip.of h)) (λh=>.inr (.inl (.inl h))),dy q}
def Cr(xs:List V)(k:Nat)(y:V):List V:=xs.take k++y::xs.drop k
def Er:V->List V->Hp->VK->Prop:=λx c H Q=>∃l a k y,x=.ref l/\c= [.int k,y]/\H l=!(.lst a)/\0<=k/\k<=a.length/\a.length<1000/\∀b,Mu H l (.lst (Cr a k.toNat y)) b->Q .non b
def Fw:Zw X "list.insert" Er:=by
 intro o s σ H x p v A Q I d b h;let{l,B,k,y,rfl,rfl,c,C,E,G,q}:=h;cases d;cases b with
 |cons f b=>
 cases b with
 |cons i b=>
 cases b;let{t,rfl}:=f;rename_i u;let{z,a,n,r,hl,e}:=I.av c;have J:1000<=S6:=by unfold S6;decide
 have j:¬((not (Th.List.listFitsIndex k)))=true:=by have:Th.List.listFitsIndex k=true:=fitsIndex_both Xu Xu;rw[this];decide
 refine Uk F.slot_list_insert {_,e,rfl} F.entry_list_insert (F.args_list_insert_3 _ _ _) (Vn l a.toArray n k t u j (by rw[Q2];ext)) {e,?_};refine{.non,_,I.bc (its':=a.take k.toNat++u::a.drop k.toNat) c e ?_ ?_ ?_,rfl,q _ .mk'};.show(a.toArray.extract 0 (if k<0 then(k+(a.toArray.size:Int)).toNat else min k.toNat a.toArray.size)).push u++a.toArray.extract (if k<0 then(k+(a.toArray.size:Int)).toNat else min k.toNat a.toArray.size)=_;rw[Xe Xu,Q2,Nat.min_eq_left Xu];apply Array.toList_inj.mp;simp;exact QZ (by rw[RS];exact Xm _)
 .exact(r.take _).append (.cons i (r.drop _))
 .unfold Cr;rw[QN,Rv,QP,RS];ext
def AH(f ty:TE):TE:=λσ H Q=>f σ H λx c=>∃a,x=.ref a/\(∃b,c a=!(.dK b))/\ty σ c λy d=>∃b k v,d a=!(.dK b)/\dL y=!k/\bc b k=!v/\∀e,Mu d a (.dK (je b k)) e->Q v e
def Ct(c:PE X o td)(d:PE X e ty)(m:M1 X o "pop" apos e cpos):PE X (.Call (.Attribute o "pop" apos) [e] [] cpos) (AH td ty):=by intro f s σ H Q I h;exact Cj c.up d.up m f s σ H Q I {_,h,λx n w=>by let{a,e,{b,hk},q}:=w;exact{a,e,.inl {b,Rd.of hk},_,q,λy p z=>by let{b,k,v,i,j,ev,q}:=z;exact{b,k,v,i,j6 j,ev,q _ .mk'}}}
section
variable{prog:S9}{w:Td}{A:Tj}{s:S8}
theorem Fx(I:Nat->S8->Prop) (turn:∀n s,I n s->Tc (model prog w) A (Vq it) (λr a=>match r with
  |none=>R (.ok .next) a
  | some v=>Tc (model prog w) A (Vr target it v) (λ_ j=>Tc (model prog w) A (assign target env v) (λ_ o=>
   Tc (model prog w) A (forIn ifs true λc r=>if r=true then do let ok <-WX c env (eval c env);pure (ForInStep.yield ok)else pure (ForInStep.yield r)) (λok d=>if ok=true then Tc (model prog w) A (eval elt env) (λx p=>
    Tc (model prog w) A (call (.builtin "list.append") [acc,x]) (λ_ q=>∃m,m<n/\I m q) (Wg (model prog w) A env λe s'=>R (.error e) s') p) (Wg (model prog w) A env λe s'=>R (.error e) s') d
    else ∃m,m<n/\I m d) (Wg (model prog w) A env λe s'=>R (.error e) s') o)
   (Wg (model prog w) A env λe s'=>R (.error e) s') j) (Wg (model prog w) A env λe s'=>R (.error e) s') a) (Wg (model prog w) A env λe s'=>R (.error e) s') s)
 (n:Nat) (h:I n s):UF (model prog w) A (.compLoop (.ListComp elt [{(target),iter,ifs,0}] scope pos) 0 it acc env) R s:=by
 refine codeAny_loop rfl I (λn s u=>?_) n h;refine(wpAny_noted ?_);rw[compTurn_list];refine S4 (UI (S4 (Tp (turn n s u) (λr F f=>?_) λ_ _ z=>z)));cases r with
 |none=>exact S7 f
 |some v=>
  refine S4 (Tp f (λ_ G y=>S4 (Tp y (λ_ H B=>S4 (Tp B (λb J i=>?_) λ_ _ z=>z)) λ_ _ z=>z)) λ_ _ z=>z);cases b with
  |false=>exact S7 {(rfl),i}
  |true=>exact S4 (S4 (Tp i (λx K C=>S4 (Tp C (λ_ M E=>S7 (S7 {(rfl),E})) λ_ _ z=>z)) λ_ _ z=>z))
end
structure eE(X:Cx)(scope:UQ)(cl:List (VA×Tu))(N:List VA)(cap:List Nat)(k:Nat):Prop where
 kind:scope.kind=.function
 clos:X.Ok->WC scope X.env=pure cl
 ncell:∀y∈scope.names,y.2≠.cell
 names:∀y∈scope.names,y.2=.local->scope.names.lookup y.1=!.local
 nd:N.Nodup
 has:∀y,((relabel scope X.env).names.lookup y=!.cell\/(relabel scope X.env).names.lookup y=!.free)->∃c,cl.lookup y=!c
 sub:X.Ok->∀y c,cl.lookup y=!c->X.env.cells.lookup y=!c
 len:N.length=cap.length+k
 cap:∀(j i:Nat) (y:VA),N[j+k]? =!y->cap[j]? =!i->X.N[i]? =!y/\Vis X.env.scope y/\X.env.kindOf y≠!.local/\((relabel scope X.env).names.lookup y=!.cell\/(relabel scope X.env).names.lookup y=!.free)
def iL(k:Nat)(σ:St)(cap:List Nat):St:=Sf k none++tS σ cap
def lF(k:Nat)(cap:List Nat)(o:TI)(g:TG)(p:TT)(q:TE):TE:=λσ H Q=>o σ H λJ c=>∀D,c D=none->∃W:Nat->Nat->St->Hp->Prop,(∃m,W 0 m (iL k σ cap) (jl c D (.lst [])))/\∀i m f H,W i m f H->
 (J.stop i H/\Q (.ref D) H)\/(J.go i H/\∀x h,J.yld i H x h->g x f h λd c=>p d c λb j=>if b=true then q d j λv n=>∃e,n D=!(.lst e)/\e.length<S6/\∃a,a<m/\W (i+1) a d (jl n D (.lst (e++[v])))
  else ∃a,a<m/\W (i+1) a d j)
section
variable{X:Cx}{Xg:List (Tu×Obj)}{σ:St}{H:Hp}{s:S8}{scope:UQ}{cl:List (VA×Tu)}{N:List VA}{cap:List Nat}{k:Nat}
def dN.cb(S:eE X scope cl N cap k)(I:dN X Xg σ H s)(f:∀b∈fp,gf X Xg H b/\b<s.heap.objs.size)(hn:h'.Ns s.heap.objs.size λ_=>none) (r:∀b o,s.heap.get? b=!o->h'.get? b=!o):dN (X.comp scope cl N s.heap.objs.size fp s H) [] (iL k σ cap) H {s with heap:=h',toks:=tk}:=by
 have ok:=I.ok;have d:=λy c e=>I.cell y c (S.sub I.ok y c e);refine{{ok.mod,?_,ok.glob,ok.blt,Xm _,λx y c a b=>ok.inj x y c (S.sub I.ok x c a) (S.sub I.ok y c b),S.has,λ_ _ z=>absurd z Xp,ok.hd,ok.frames,.inl rfl,λb h=>{Q8 (f b h).2,λy c e=>(f b h).1.2.2.2.2.1 y c (S.sub I.ok y c e)},I.bs,Xn ok.bsz I.sz,λb o e h=>?_,λb h z=>?_,I.stack,I.bm},
  rfl,I.bare,Un.kept r,{_,hn,λi y v a b c=>?_},λy c e=>?_,I.hok.fresh (Xm _),λy c e=>I.freeC y c (S.sub I.ok y c e),λp E=>by simp at E,I.hok.kept r,?_}
 .exact S.kind
 .have:=(f b h).1.2.2.2.1;rcases this with z|z;.exact ok.noex b o e z
  .have F:=Q5 e;exact absurd (Q4 F (Xn ok.bsz z)) (Ro _)
 .rcases Xi (I.a6 b z)with q|q
  .exact(f b h).1.2.1 q
  .exact(f b h).1.2.2.1 q
 .unfold iL at b;by_cases n:i<k;.rw [List.getElem?_append_left (by rw[Rz];exact n)]at b;simp[n]at b
  .obtain⟨j,rfl⟩:∃j,i=j+k:={i-k,by ext}
   rw[List.getElem?_append_right (by rw[Rz];ext),Rz,Nat.add_sub_cancel]at b;unfold tS at b;rw[QY]at b;cases e:cap[j]? with
   |none=>simp_all
   |some i=>
    rw[e]at b;have b:(σ[i]?).join=!v:= ~~~b;let{G,J,U,B}:=S.cap j i y a e;have K:σ[i]? =!(!v):=by
     cases q:σ[i]? with
     |none=>simp_all
     |some w=>rw[q]at b;exact congrArg some b
    let{m,W,hl}:=I.loc;let{u,M,l}:=hl i y v G K J;refine{u,M,.inr {B,?_}};rcases l with l|⟨l,O,P,Q,R,A⟩
    .simp_all
    .let{c,C}:=S.has y B;have:=S.sub I.ok y c C;rw[P]at this;cases this;exact{O,C,Q,r _ _ R,A}
 .let{v,o,q,T}:=d y c e;exact{v,o,r _ _ q,T}
 .show(iL k σ cap).length=N.length;unfold iL tS;rw[S.len,QN,Rz,QL];ext
end
#print h
def pH{σ:St}(S:eE X scope cl N cap k)(hc:X.calm=true)(hi:PI X tg iter wi)(hg:∀C A s₀ H₀,PG (X.comp scope cl N C A s₀ H₀) tg g) (ht:∀C A s₀ H₀,_x (X.comp scope cl N C A s₀ H₀) ifs tc) (he:∀C A s₀ H₀,PE (X.comp scope cl N C A s₀ H₀) elt te) (hs:∀x,T5 iter X.env x=pure x) (I:dN X Xg σ H s) (h:lF k cap wi g tc te σ H Q) (fin:∀(D C:Tu) (Z:Hp) (R:S8) (m:VA->Option S5),dN X Xg σ Z R->gf X Xg Z C->R.heap.Ns C m->Q (.ref D) Z->compPost (model X.prog X.w) X.A X.xe use Qv (.ref D) C (.ok .next) R):Tc (model X.prog X.w) X.A (comprehension (.ListComp elt [{(tg),iter,ifs,0}] scope pos) scope X.env pos' (newList []) false (eval iter X.env) use) Qv X.xe s:=by
 refine wpAny_comprehension_free rfl hs (S.clos I.ok) S.kind S.names (thn (hi Xg s σ H _ I h) λv s1 h1=>thn h1 λb5 j h2=>?_);let{it,A,tn,J,M,rfl,I2,T,a1,f2,q}:=h2;let{W,{m0,w0},turn}:=q j.heap.objs.size (I2.hok.fresh (Xm _));have I3:dN X Xg σ (jl M j.heap.objs.size (.lst [])) {j with heap:=j.heap.push {cls:=.type "list",dict:=none,data:=.seq ([]:List S5).toArray}}:=
  I2.laid (λb u e=>QK _ e) (Xm _) {Ra _,[],0,.nil,QR _ rfl}
 refine TL (wpAny_newFunctionEnv S.ncell (by intro y hy;simp at hy) (λh4 a2 a3=>?_) S.kind);generalize a4:({j with heap:=j.heap.push {cls:=.type "list",dict:=none,data:=.seq ([]:List S5).toArray}}:S8)=a at I3 a2 a3⊢;have O:∀b∈A,gf X Xg (jl M j.heap.objs.size (.lst [])) b/\b<a.heap.objs.size:=λb f=>by
  let{o,ho,_}:=T.obj _ _ a1 b f;have l1:=Q5 ho;refine{{?_,(f2 b f).2},?_};.rw [aN (Q8 l1)];exact(f2 b f).1
  .rw [<-a4,RC];exact RD l1
 have ad:h4.Ns a.heap.objs.size λ_=>none:=by have:=a2;simpa using this
 have F:∀b o,a.heap.get? b=!o->h4.get? b=!o:=λb o e=>(a3.2 b (Q8 (Q5 e))).trans (QK _ e);have Ic:=I3.cb (tk:=a.toks+([]:List (VA×S5)).length) S O ad F;have a5:=T.keep _ _ _ a1 λb f o e=>F b o (by rw[<-a4];exact QK _ e);have G:∀{B:Hp},(∀b∈A,B b=none)->∀b∈A,gf (X.comp scope cl N a.heap.objs.size A a (jl M j.heap.objs.size (.lst []))) [] B b:=λhn b f=>
  {hn b f,Q8 (O b f).2,λz=>(Xi (I3.a6 b z)).elim (λq=>(O b f).1.2.1 q) λq=>(O b f).1.2.2.1 q,.inl f,λy c e=>(O b f).1.2.2.2.2.1 y c (S.sub I.ok y c e),λp hp=>by simp at hp}
 have af:∀{E:St} {Z:Hp} {R:S8},dN (X.comp scope cl N a.heap.objs.size A a (jl M j.heap.objs.size (.lst []))) [] E Z R->Q (.ref j.heap.objs.size) Z->
  compPost (model X.prog X.w) X.A X.xe use Qv (S5.ref j.heap.objs.size) a.heap.objs.size (.ok .next) R:=λ{E Z R} U q6=>by
  let{m,hm,_}:=U.loc;have Io:=I3.ci U.os U.base U.hok U.bare λb f=>{(O b f).1.2.2.2.1,(O b f).1.2.1,(O b f).1.2.2.2.2.1,(O b f).1.2.2.2.2.2}
  exact fin _ _ _ _ m Io (I3.ar (Xm _) U.free) hm q6
 have Y:UF (model X.prog X.w) X.A (.compLoop (.ListComp elt [⟨tg,iter,ifs,0⟩] scope pos) 0 (.ref it) (.ref j.heap.objs.size) (compEnvC scope cl a.heap.objs.size X.env))
  (compPost (model X.prog X.w) X.A X.xe use Qv (S5.ref j.heap.objs.size) a.heap.objs.size) {a with heap:=h4,toks:=a.toks+([]:List (VA×S5)).length}:=by
  refine Fx (λn s'=>∃i E B,dN (X.comp scope cl N a.heap.objs.size A a (jl M j.heap.objs.size (.lst []))) [] E B s'/\tn i s'.heap/\(∀b∈A,B b=none)/\W i n E B) ?_ m0 {0,_,_,Ic,a5,λb f=>(O b f).1.1,w0};rintro n s5 ⟨i,E,H5,I5,a9,ab,w5⟩;rcases turn i n E H5 w5 with ⟨stop,qd⟩|⟨go,step⟩
  .refine Tp (T.done (X.comp scope cl N a.heap.objs.size A a (jl M j.heap.objs.size (.lst []))) rfl rfl rfl hc i [] s5 _ H5 (λ_ _=>False) I5 (G ab) a9 stop) (λr R z4=>?_) λ_ _ z=>z.elim;let{hr,U}:=z4;subst hr;exact af U qd
  .refine Tp (T.item (X.comp scope cl N a.heap.objs.size A a (jl M j.heap.objs.size (.lst []))) rfl rfl rfl hc i [] s5 _ H5 (λ_ _=>False) I5 (G ab) a9 go) (λr R z3=>?_) λ_ _ z=>z.elim;let{u,hr,h6}:=z3;subst hr;refine Tp h6 (λ_ s7 z2=>?_) λ_ _ z=>z.elim;let{v,H7,I7,r7,y7,a0,ag}:=z2;have ak:=I7.pinned (G ag) (T.obj _ _ a0);have K:∀{σ9:St} {H9:Hp} {s9:S8},dN (X.comp scope cl N a.heap.objs.size A a (jl M j.heap.objs.size (.lst []))) ([]++lj A s7.heap) σ9 H9 s9->(∃P,P<n/\W (i+1) P σ9 H9)->
    ∃P,P<n/\∃i E B,dN (X.comp scope cl N a.heap.objs.size A a (jl M j.heap.objs.size (.lst []))) [] E B s9/\tn i s9.heap/\(∀b∈A,B b=none)/\W i P E B:=λ{σ9 H9 s9} I9 ⟨P,lt,w'⟩=>by
    refine{P,lt,i+1,σ9,H9,I9.au,T.keep _ _ _ a0 λb f o e=>(I9.pin (b,o) (QS _ (QS _ (iu f e)))).1,λb f=>?_,w'};let{o,e,d}:=T.obj _ _ a0 b f;exact(I9.pin (b,o) (QS _ (QS _ (iu f e)))).2.1
   refine Tp (hg _ _ _ _ _ s7 E H7 v u _ ak r7 (step v H7 y7)) (λ_ s8 z1=>?_) λ_ _ z=>z.elim;let{σ8,H8,I8,q8}:=z1;refine Tp (ht _ _ _ _ _ s8 _ H8 _ I8 q8) (λb s9 ww=>?_) λ_ _ z=>z.elim;let{H9,I9,q9}:=ww;cases b with
   |false=>exact K I9 q9
   |true=>refine Tp (he _ _ _ _ _ s9 _ H9 _ I9 q9) (λu' al yy=>?_) λ_ _ z=>z.elim;let{v',an,b0,b1,ys,hD,hz,b2}:=yy;refine Tp (sj (X:=X.comp scope cl N a.heap.objs.size A a (jl M j.heap.objs.size (.lst []))) _ al _ an (.ref j.heap.objs.size) [v'] (.ref j.heap.objs.size) [u'] (λ_ B=>∃P,P<n/\W (i+1) P σ8 B) b0 rfl (.cons b1 .nil) {_,ys,v',rfl,rfl,hD,hz,b2}) (λ_ b6 zz=>by let{_,b7,b3,_,b4}:=zz;exact K b3 b4) λ_ _ z=>z.elim
 exact codeAny_compStart_list Y (T.self _ 0 _ _ _ a5 Y)
def Cu(S:eE X scope cl N cap k)(hc:X.calm=true)(i:PI X tg iter wi)(j:∀C a c d,PG (X.comp scope cl N C a c d) tg g) (p:∀C a c d,_x (X.comp scope cl N C a c d) ifs tc) (q:∀C a c d,PE (X.comp scope cl N C a c d) elt te) (hs:autoParam (∀x,T5 iter X.env x=pure x) _ai):
 PE X (.ListComp elt [{(tg),iter,ifs,0}] scope pos) (lF k cap wi g tc te):=by
 intro A s σ H Q I h;refine pH S hc i j p q hs I h λD C r B m u f v y=>?_;exact{m,v,λE z=>{.ref D,r,u.turned (λb o n e=>(z.2 b n).trans e) f.1 f.2.1 f.2.2.2.1 f.2.2.2.2.1 f.2.2.2.2.2,rfl,y}}
def j9{r c:Pos}(F:X.N.Nodup)(u:X.N[i]? =!y)(G:ZW X.env.scope y)(S:eE X scope cl N cap k)(hc:X.calm=true)(J:PI X tg iter wi)(K:∀C f j p,PG (X.comp scope cl N C f j p) tg g) (M:∀C f j p,_x (X.comp scope cl N C f j p) ifs tc) (O:∀C f j p,PE (X.comp scope cl N C f j p) elt te) (hs:autoParam (∀x,T5 iter X.env x=pure x) _ai)
 (z:‹U3 (.ListComp elt [{(tg),iter,ifs,0}] scope pos) (!(.Name y r)) c.line X.env=pure true›)
 (P:autoParam (X.fn y=true\/X.env.scope.names.lookup y=!.local) _aw):
 PS X (.Assign [.Name y r] (.ListComp elt [{(tg),iter,ifs,0}] scope pos) c) (kY (lF k cap wi g tc te) (gA i)):=by
 intro Xg s σ H D I h;rw[exec_Assign_Name_used _ _ _ _ z];refine S4 (UI (S4 ?_));refine S4 (Tp (pH (use:=!(assign (.Name y r) X.env)) S hc J K M O hs I h λQ C R s6 m T d U W=>?_) (λ_ s' Y=>S7 (S7 Y)) λ_ _ e=>e);refine wpAny_assign_Name (rQ (v:=.ref Q) T F u G rfl (λs7 Z A=>?_) P);let{a,sb,ha}:=A;have B:C≠a:=λe=>ha.elim (λq=>d.2.1 (e.trans q)) λq=>d.2.2.2.2.1 _ _ q e.symm;refine{m,U.at' λo e=>(sb.2 C B).trans e,λh' E=>?_};exact{_,R,Z.turned (λb o n e=>(E.2 b n).trans e) d.1 d.2.1 d.2.2.2.1 d.2.2.2.2.1 d.2.2.2.2.2,W}
end
def eZ(k:Nat)(hk:scope.kind=.function)(u:scope.names.all (λy=>y.2 != .cell)=true)(v:scope.names.all (λy=>y.2 != .local || scope.names.lookup y.1== !.local)=true) (x:scope.names.all (λy=>y.2 != .free || X.env.scope.names.lookup y.1==some .cell || X.env.scope.names.lookup y.1== !.free)=true) (nd:N.Nodup) (hl:N.length=cap.length+k) (hc:(N.drop k).map some=cap.map (λi=>X.N[i]?)) (A:(N.drop k).all (λy=>scope.names.lookup y== !.free)=true):eE X scope (qN X.env scope) N cap k:=by
 have fr:∀y:VA,(y,TQ.free)∈scope.names->X.env.scope.names.lookup y=!.cell\/X.env.scope.names.lookup y=!.free:=λy d=>by have:=List.all_eq_true.mp x _ d;simpa using this
 have q:=λy d=>by have:=List.all_eq_true.mp u y d;simpa using this
 have f:X.Ok->∀y∈scope.names,y.2=.free->∃c,X.env.cells.lookup y.1=!c:=λok y d e=>by let{n,k}:=y;subst e;exact ok.has n (fr n d)
 refine{hk,λok=>yI (f ok),q,λy d e=>?_,nd,λy d=>?_,λok y c e=>AE scope.names [] (f ok) (λ_ _ z=>by simp at z) y c e,hl,λj i y a b=>?_};.have:=List.all_eq_true.mp v y d;simpa[e]using this
 .have o:(y,TQ.free)∈scope.names:=by
   have:∃h,(h=TQ.cell\/h=TQ.free)/\(y,h)∈(relabel scope X.env).names:=by
    rcases d with d|d;.exact{_,.inl rfl,d8 d}
    .exact{_,.inr rfl,d8 d}
   let{h,p,o}:=this
   let{{n,k},r,e}:=Xl o
   dsimp only at e
   split at e
   .simp_all
   .let{rfl,rfl}:=Prod.mk.inj e;rcases p with rfl|rfl;.exact absurd rfl (q _ r)
    .exact r
  have:=AF (env:=X.env) scope.names [] y (.inl o)
  exact Option.isSome_iff_exists.mp this
 .have d:y∈N.drop k:=by
   refine QW (i:=j) ?_
   rw[Rw,Nat.add_comm]
   exact a
  have e1:X.N[i]? =!y:=by have:=congrArg (λl=>l[j]?) hc;simp only[QY,Rw,Nat.add_comm k j,a,b]at this;exact(Xr this).symm
  have e2:scope.names.lookup y=!.free:=by have:=List.all_eq_true.mp A y d;simpa using this
  have e3:=fr y (d8 e2)
  refine{e1,e3.elim (λz=>.inr (.inl z)) λz=>.inr (.inr z),?_,fY e2}
  intro z
  have z:X.env.scope.names.lookup y=!.local:=z
  rcases e3 with e3|e3<;>rw[e3]at z<;>cases z
def gG(J:It)(g:TG)(o:TT)(p:TE)(q:St)(c:Hp)(Q:VK):Prop:=∀D,c D=none->∃W:Nat->Nat->St->Hp->Prop,(∃m,W 0 m q (jl c D (.lst [])))/\∀i m f H,W i m f H->
 (J.stop i H/\Q (.ref D) H)\/(J.go i H/\∀x h,J.yld i H x h->g x f h λd c=>o d c λb j=>if b=true then p d j λv n=>∃e,n D=!(.lst e)/\e.length<S6/\∃a,a<m/\W (i+1) a d (jl n D (.lst (e++[v])))
  else ∃a,a<m/\W (i+1) a d j)
def bD(h:wi σ H λJ a=>gG J g tc te (iL k σ cap) a Q):lF k cap wi g tc te σ H Q:=h
def CW(xs:List V)(b:Hp)(D:Tu)(c:Nat->List V->St->Hp->Prop)(i m:Nat)(d:St)(H:Hp):Prop:=m=xs.length-i/\i<=xs.length/\dA b H/\∃a,H D=!(.lst a)/\a.length<=i/\c i a d H
def ZZ(xs:List V)(d:Hp)(D:Tu)(e:Nat->List V->St->Hp->Prop)(i:Nat)(f:St)(v:V)(b:Hp):Prop:=∃a,b D=!(.lst a)/\a.length<S6/\∃c,c<xs.length-i/\CW xs d D e (i+1) c f (jl b D (.lst (a++[v])))
def oB(xs:List V)(b:Hp)(D:Tu)(c:Nat->List V->St->Hp->Prop)(i:Nat)(d:St)(H2:Hp):Prop:=∃a,a<xs.length-i/\CW xs b D c (i+1) a d H2
structure At(xs:List V)(H1:Hp)(D:Tu)(i:Nat)(ys:List V)(H:Hp):Prop where
 new:H1 D=none
 lt:i<xs.length
 sz:xs.length<S6
 same:dA H1 H
 lst:H D=!(.lst ys)
 le:ys.length<=i
theorem At.put(a:At xs H1 D i ys H)(g:dA H H4)(p:∀b,Mu H4 D (.lst (ys++[v])) b->Pv (i+1) (ys++[v]) σ2 b):ZZ xs H1 D Pv i σ2 v H4:=
 {ys,g _ _ a.lst,by have:=a.le;have:=a.lt;have:=a.sz;ext,xs.length-(i+1),by have:=a.lt;ext,rfl,a.lt,Mu.mk'.same (a.same.trans g) a.new,_,aA,by have:=a.le;rw[QN,Q0];ext,p _ Mu.mk'}
theorem At.skip(a:At xs H1 D i ys H)(g:dA H H4)(p:Pv (i+1) ys σ2 H4):oB xs H1 D Pv i σ2 H4:=
 {xs.length-(i+1),by have:=a.lt;ext,rfl,a.lt,a.same.trans g,ys,g _ _ a.lst,Nat.le_succ_of_le a.le,p}
def LB(O:qM J xs ok)(d:∀H,dA H1 H->ok H)(sz:xs.length<S6)(j:Nat->List V->St->Hp->Prop) (z:∀a,dA H1 a->j 0 [] cs a) (hs:∀D i x c f a,xs[i]? =!x->At xs H1 D i c a->j i c f a->g x f a λn H2=>tc n H2 λb q=>if b=true then te n q λv B=>ZZ xs H1 D j i n v B else oB xs H1 D j i n q) (A:∀D c f a,H1 D=none->dA H1 a->a D=!(.lst c)->c.length<=xs.length->j xs.length c f a->Q (.ref D) a):gG J g tc te cs H1 Q:=by
 intro D o;exists CW xs H1 D j,{_,rfl,Ra _,aU o _,[],aA,Xm _,z _ (aU o _)};rintro i m f H ⟨rfl,E,sm,c,r,u,p⟩;by_cases h:i<xs.length;.refine .inr {O.go i _ (d _ sm) h,λx a y=>?_};let{rfl,C}:=O.yld i _ x a (d _ sm) h y;exact hs D i x c f a C {(o),h,sz,sm,r,u} p
 .have e:i=xs.length:=by ext
  subst e;exact .inl {O.stop _ _ (d _ sm) (Xm _),A D c f _ o sm r u p}
theorem iy{K:RP}(n:H1 a=!(.lst xs))(sz:xs.length<S6)(d:Nat->List V->St->Hp->Prop) (o:∀c,dA H1 c->d 0 [] cs c) (hs:∀D i x e f c,xs[i]? =!x->At xs H1 D i e c->d i e f c->g x f c λh H2=>tc h H2 λb j=>if b=true then te h j λv q=>ZZ xs H1 D d i h v q else oB xs H1 D d i h j) (p:∀D e f c,H1 D=none->dA H1 c->c D=!(.lst e)->e.length<=xs.length->d xs.length e f c->Q (.ref D) c):gG (Zy K a) g tc te cs H1 Q:=
 LB sq (λH g=>g _ _ n) sz d o hs p
def nw(H b:Hp):Hp:=λa=>match H a with|none=>b a | !_=>none
def Es:dA (nw H H') H':=λa u e=>by
 unfold nw at e;split at e;.exact e
 .cases e
def jg(h:H a=none)(h':H' a=!u):nw H H' a=!u:=by unfold nw;rw[h];exact h'
def dS(e:nw H H' a=!u):H a=none/\H' a=!u:=by
 unfold nw at e;split at e;.rename_i h;exact{(h),e}
 .cases e
def bF(D:Tu)(H:Hp):Hp:=λc=>if c=D then none else H c
theorem aV(n:c≠D)(h:H c=!u):bF D H c=!u:=by unfold bF;rw[Xe n];exact h
def bK(h:bF D H c=!u):c≠D/\H c=!u:=by
 unfold bF at h;by_cases e:c=D;.grind
 .simp_all
theorem cz:dA (bF D H) H:=λc u h=>(bK h).2
def dU(g:dA H H'):dA (bF D H) (bF D H'):=λc u h=>aV (bK h).1 (g _ _ (bK h).2)
def eI(mu:Mu H D o H'):dA (bF D H) (bF D H'):=λc u h=>aV (bK h).1 (mu.old (bK h).2 (bK h).1)
theorem pJ(O:qM J xs ok)(d:∀H,dA H1 H->ok H)(sz:xs.length<S6)(j:Tu->Nat->List V->St->Hp->Prop) (z:∀D a,H1 D=none->dA H1 a->a D=!(.lst [])->j D 0 [] cs a) (hs:∀D i x c f a,xs[i]? =!x->At xs H1 D i c a->j D i c f a->g x f a λo H2=>tc o H2 λb q=>if b=true then te o q λv B=>ZZ xs H1 D (j D) i o v B else oB xs H1 D (j D) i o q) (A:∀D c f a,H1 D=none->dA H1 a->a D=!(.lst c)->c.length<=xs.length->j D xs.length c f a->Q (.ref D) a):gG J g tc te cs H1 Q:=by
 intro D n;exists CW xs H1 D (j D),{_,rfl,Ra _,aU n _,[],aA,Xm _,z D _ n (aU n _) aA};rintro i m f H ⟨rfl,E,sm,c,r,u,p⟩;by_cases h:i<xs.length;.refine .inr {O.go i _ (d _ sm) h,λx a y=>?_};let{rfl,C}:=O.yld i _ x a (d _ sm) h y;exact hs D i x c f a C {(n),h,sz,sm,r,u} p
 .have e:i=xs.length:=by ext
  subst e;exact .inl {O.stop _ _ (d _ sm) (Xm _),A D c f _ n sm r u p}
theorem de{K:RP}(n:H1 a=!(.lst xs))(sz:xs.length<S6)(d:Tu->Nat->List V->St->Hp->Prop) (o:∀D c,H1 D=none->dA H1 c->c D=!(.lst [])->d D 0 [] cs c) (hs:∀D i x e f c,xs[i]? =!x->At xs H1 D i e c->d D i e f c->g x f c λh H2=>tc h H2 λb j=>if b=true then te h j λv q=>ZZ xs H1 D (d D) i h v q else oB xs H1 D (d D) i h j) (p:∀D e f c,H1 D=none->dA H1 c->c D=!(.lst e)->e.length<=xs.length->d D xs.length e f c->Q (.ref D) c):gG (Zy K a) g tc te cs H1 Q:=
 pJ sq (λH g=>g _ _ n) sz d o hs p
#print b
def xc:V->List V->Hp->VK->Prop:=λx c H Q=>∃l a i y,x=.ref l/\c= [.int i]/\H l=!(.lst a)/\0<=i/\i<a.length/\a.length<100000/\a[i.toNat]? =!y/\∀b,Mu H l (.lst (a.eraseIdx i.toNat)) b->Q y b
def jh:Zw X "list.pop" xc:=by intro a s σ H x b v c Q I d e h;let{l,f,i,y,e1,e2,j,n,o,r,p,q}:=h;exact B8 a s σ H x b v c Q I d e {l,f,i,i.toNat,y,e1,e2,j,by ext,by ext,V9 n o,p,q _ .mk'}
end
theorem Cv{f:VA}:List.lookup f ([]:List (VA×V))=none:=rfl
theorem Cw{g:VA}{v:V}:List.lookup f ((g,v)::r)=if f=g then some v else List.lookup f r:=by
 by_cases h:f=g;.simp_all
 .have a:=beq_eq_false_iff_ne.mpr h;simp only[List.lookup,a,Xe h]
theorem IY{f:VA}{v:V}:bX f v []= [(f,v)]:=rfl
theorem IZ{f g:VA}{v x:V}{r:List (VA×V)}:bX f v ((g,x)::r)=if g=f then(g,v)::r else(g,x)::bX f v r:=rfl
structure eH(K:RP)(C:Tu)(m q:VA)(st:Stmt)(ps:List VA):Prop where
 ex:∃f fd,oq K C m f/\YQ K m q st f fd/\ri K fd ps []
structure Zz(P:S9)(w:Td)(K:RP)(mg:VA->Option S5)(base:Heap)(n:Nat)(C:Tu)(m:VA)(ps:List VA)(sp:Sp):Prop where
 ex:∃f fd,oq K C m f/\ri K fd ps []/\fh P w K mg base Yb n f fd ps sp
 cl:jp K C
structure oD(K:RP)(mg:VA->Option S5)(x:VA)(C:Tu)(q:VA)(st:Stmt)(ps:List VA):Prop where
 ex:∃f fd,mg x=!(.ref C)/\Mk K C f/\YQ K "__init__" q st f fd/\ri K fd ps []
structure _Q(P:S9)(w:Td)(K:RP)(mg:VA->Option S5)(base:Heap)(n:Nat)(x:VA)(C:Tu)(ps:List VA)(sp:Sp):Prop where
 ex:∃f fd,mg x=!(.ref C)/\Mk K C f/\ri K fd ps []/\fh P w K mg base Yb n f fd ps sp
section
variable{P:S9}{w:Td}{K:RP}{mg:VA->Option S5}{base:Heap}{x m q:VA}{st:Stmt}{N ps:List VA}{k:Nat}{sp:Sp}{C:Tu}
theorem eH.ok(D:eH K C m q st ps)(d:jp K C)(S:au N ps (aj st))(len:∀vs H Q E,sp vs H Q E->vs.length=ps.length) (a:∀(f:Tu) (c:S5) (A:Tj) (b:List Env) (s:S8) (H:Hp) (vs:List V) (Q:VK) (E:XK),mm k (A.deeper (TR q (aj st) s.heap.objs.size f c))->sp vs H Q E->∃t,XM (fJ Yb P w K mg base N q (aj st) f c A b s H E).ay (cw st) t/\t {nx:=λ_ e=>Q .non e,rt:=Q} (start N vs) H):Zz P w K mg base (k+1) C m ps sp:=by
 let{f,h,i,F,j}:=D.ex;exact{{f,h,i,j,F.ok S len (a f)},d}
theorem oD.ok(D:oD K mg x C q st ps)(S:au N ps (aj st))(len:∀vs H Q E,sp vs H Q E->vs.length=ps.length) (a:∀(f:Tu) (c:S5) (A:Tj) (b:List Env) (s:S8) (H:Hp) (vs:List V) (Q:VK) (E:XK),mm k (A.deeper (TR q (aj st) s.heap.objs.size f c))->sp vs H Q E->∃t,XM (fJ Yb P w K mg base N q (aj st) f c A b s H E).ay (cw st) t/\t {nx:=λ_ d=>Q .non d,rt:=Q} (start N vs) H):_Q P w K mg base (k+1) x C ps sp:=by
 let{f,e,h,i,F,j}:=D.ex;exact{f,e,h,i,j,F.ok S len (a f)}
end
def pK(C:Tu)(f:VA)(c:TE):TE:=λσ H Q=>c σ H λx b=>∃a d fs v,x=.ref a/\b a=!(.ins C d fs)/\fs.lookup f=!v/\Q v b
def ko(C:Tu)(f:VA)(e h:TE):TS:=λD σ H=>h σ H λy i=>e σ i λx b=>∃a c fs,x=.ref a/\b a=!(.ins C c fs)/\fs.length<1000/\∀d,Mu b a (.ins C c (bX f y fs)) d->D.nx σ d
def gN(C:Tu)(m:VA)(sp:Sp)(c:TE)(t:TA):TE:=λσ H Q=>c σ H λx b=>∃a d fs,x=.ref a/\b a=!(.ins C d fs)/\fs.lookup m=none/\t σ b λe f=>sp (x::e) f Q E0
def uC(C:Tu)(sp:Sp)(t:TA):TE:=λσ H Q=>t σ H λd b=>∀x c a,b x=none->b c=none->dA b a->a x=!(.ins C c [])->a c=!(.own x)->sp (.ref x::d) a (λv e=>v=.non/\Q (.ref x) e) E0
section
variable{X:Cx}{k n:Nat}{ps:List VA}{sp:Sp}{x m f:VA}{p pos pos' apos:Pos}{o e value:Expr}{es:List Expr}{t:TA}{ta tv:TE}{C:Tu}
def ah(c:jp X.K C)(b:cD X.K C f)(d:PE X e ta)(i:‹TF e f X.env (eval e X.env)=eval e X.env›):PE X (.Attribute e f pos) (pK C f ta):=by intro j s σ H Q I h;refine Fa i (thn (d j s σ H _ I h) λu J z=>?_);let{x,r,y,A,a,K,fs,v,B,E,l,q}:=z;subst B;obtain rfl:u=S5.ref a:=A;exact yr y E c b l λM N F G=>{(v),r,F,G,q}
def aG(c:jp X.K C)(d:cD X.K C f)(i:PE X o ta)(j:PE X value tv)(hs:‹U3 value (!(.Attribute o f pos')) pos.line X.env=pure false›):PS X (.Assign [.Attribute o f pos'] value pos) (ko C f ta tv):=by intro b s σ H D I h;refine plainObj_wpAny_Assign_Attribute (thn (j b s σ H _ I h) λu r ⟨y,v,A,B,q⟩=>thn (i b r σ v _ A q) λE O z=>?_) hs;let{x,P,F,G,a,Q,fs,J,K,l,M}:=z;subst J;obtain rfl:E=S5.ref a:=G;exact yt F K c d l B λR N=>{σ,_,N,M _ .mk'}
def aO{pl:Sem Bool}(G:Zz X.prog X.w X.K X.mg X.base k C m ps sp)(i:mm n X.A)(j:PE X o ta)(q:PA X (e::es) t)(hk:autoParam (k<=n) _ae)(hs:‹(e::es).all bz=true›)
 (r:‹eval (.Call (.Attribute o m apos) (e::es) [] pos) X.env=(do
  let d <-eval o X.env
  U9 apos.atName
  let (f,first) <-holding [d] (Ur d m pl)
  VC pos f first (Um pos (Te (e::es) X.env)) (Us pos (TW [] X.env)))›):PE X (.Call (.Attribute o m apos) (e::es) [] pos) (gN C m sp ta t):=by
 let{{f,J,u,v,F},z}:=G;intro A s σ H Q I h;apply Fc (dvs:=[]) j z u F (i.mono hk) v .nil gF q (dI (Xo hs).1) (dB (Xo hs).2) r A s σ H Q I;have e:∀y,(λc b=>sp (y::(c++[])) b Q E0)=λc b=>sp (y::c) b Q E0:=λy=>by funext c b;rw[Rf]
 show ta σ H λy b=>∃a B fs,y=.ref a/\b a=!(.ins C B fs)/\fs.lookup m=none/\t σ b λc E=>sp (y::(c++[])) E Q E0;simp only[e];exact h
def bL{pl:Sem Bool}(G:Zz X.prog X.w X.K X.mg X.base k C m ps sp)(b:mm n X.A)(c:PE X o ta)(hk:autoParam (k<=n) _ae)
 (d:‹eval (.Call (.Attribute o m apos) [] [] pos) X.env=(do
  let a <-eval o X.env
  U9 apos.atName
  let (f,first) <-holding [a] (Ur a m pl)
  VC pos f first (Um pos (Te [] X.env)) (Us pos (TW [] X.env)))›):PE X (.Call (.Attribute o m apos) [] [] pos) (gN C m sp ta eU):=by
 let{{f,q,h,i,F},j}:=G;exact B0 (dvs:=[]) c j h F (b.mono hk) i .nil gF d
def uD{Q:VK}{vs:List V}(h:∀x a d,H1 x=none->H1 a=none->dA H1 d->d x=!(.ins C a [])->d a=!(.own x)->sp (.ref x::vs) d (λv H2=>v=.non/\Q (.ref x) H2) E0):∀x a,H1 x=none->H1 a=none->a≠x->sp (.ref x::(vs++[])) (jl (jl H1 a (.own x)) x (.ins C a [])) (λv H2=>v=.non/\Q (.ref x) H2) E0:=λx a i b ne=>by
 rw[Rf];exact h x a _ i b (λc u hc=>by rw[aN (ax hc i),aN (ax hc b)];exact hc) aA (by rw[aN ne,aA])
def fj(G:_Q X.prog X.w X.K X.mg X.base k x C ps sp)(c:mm n X.A)(d:Gl X x)(i:PA X (e::es) t)(hk:autoParam (k+1<=n) _ae)(a:((x==("__debug__":VA))=false)⁻¹)(hs:‹(e::es).all bz=true›):
 PE X (.Call (.Name x p) (e::es) [] pos) (uC C sp t):=by
 let{f,y,j,M,u,F}:=G.ex;intro v s σ H Q I h;refine Ue (jD I d j ?_ a);refine RO I.ok.mod.kin M.kp (thn (i pos v s σ H _ I h) λz A ⟨B,E,b,r,q⟩=>{b.J,?_}) (dI (Xo hs).1) (dB (Xo hs).2);exact uq (dvs:=[]) (ds:=[]) M F (c.mono hk) u .nil gF b r (uD q)
def lG(G:_Q X.prog X.w X.K X.mg X.base k x C ps sp)(b:mm n X.A)(c:Gl X x)(hk:autoParam (k+1<=n) _ae)(a:((x==("__debug__":VA))=false)⁻¹):
 PE X (.Call (.Name x p) [] [] pos) (uC C sp eU):=by
 let{f,j,d,M,i,F}:=G.ex;intro q s σ H Q I h;refine Ue (jD I c d ?_ a);exact R6 I.J M.kp (uq (dvs:=[]) (ds:=[]) (us:=[]) M F (b.mono hk) i .nil gF I .nil (uD h))
end
theorem pL:∀{kvs:List (hH×V)} {vs:List (hH×S5)},KV kvs vs->∀{i:Nat} {k:hH} {x:V},kvs[i]? =!(k,x)->∃u,vs[i]? =!(k,u)/\hB x u
 |[],_,_,i,k,x,e=>by simp at e
 |p::kvs,[],r,i,k,x,e=>by cases r
 |p::kvs,(a,u)::vs,r,i,k,x,e=>by
  cases r with
  |cons h r=>
   cases i with
   |zero=>simp at e;subst e;have b:k=a:=h.1;exact{u,by simp[b],h.2}
   |succ i=>simpa using pL r (i:=i) (~~~e)
def Itv(d:Tu)(o:Obj)(kvs:List (hH×V)):It:=
 {λi H=>i<kvs.length/\H d=!(.frz o (.dK kvs)),λi H x a=>a=H/\∃k,kvs[i]? =!(k,x),λi H=>kvs.length<=i/\H d=!(.frz o (.dK kvs))}
def Iti(d:Tu)(o:Obj)(kvs:List (hH×V)):It:=
 {λi H=>i<kvs.length/\H d=!(.frz o (.dK kvs)),λi H v a=>∃p k x,v=.ref p/\H p=none/\dA H a/\a p=!(.tup [kV k,x])/\kvs[i]? =!(k,x),λi H=>kvs.length<=i/\H d=!(.frz o (.dK kvs))}
def AI{K:RP}(d a:Tu)(o:Obj)(kvs:List (hH×V))(vs:List (hH×S5))(ep:Nat)(T:d≠a)(j:KV kvs vs)(O:∀h:Heap,h.get? d=!o->h.DictAt (aF P w) d vs ep):om P w K tg (Itv d o kvs) [a] a (λi h=>h.IsValIter a d i vs.length ep) where
 mem:=QX _
 obj:=λi h st b f=>by obtain rfl:=Xh f;let{o,e,c,r}:=st;exact{o,e,λv z=>by rw[r]at z;cases z}
 keep:=λi h p st k=>st.at λo e=>k a (QX _) o e
 item:=by
  intro X Q hw R hc i S s σ H E I q st y;let{A,B}:=y;let{C,F,U,G,J,M}:=q a (QX _);let{N,_}:=(I.hok d _ B)
  let{u,W,Y}:=pL j (k:=kvs[i].1) (x:=kvs[i].2) (QV A);refine wpAny_pyNext_values_item st (O _ N) W λp n Z=>?_;have I1:dN X S σ H {s with heap:=p}:=I.turned (λb o f e=>(Z.2 b f).trans e) C F G J M;let{oi,e,c,r}:=id n;exact{u,rfl,tQ (s:={s with heap:=p}) e c r Xs {kvs[i].2,H,I1,Y,{rfl,kvs[i].1,QV A},n,λb f=>(q b f).1}}
 done := by
   intro X Q hw R hc i S s σ H E I q st y;subst Q hw R;let{A,B}:=y;let{C,F,U,G,J,M}:=q a (QX _);let{N,_}:=(I.hok d _ B)
   have hl:=j.length;exact wpAny_pyNext_values_end (I.ok.hd hc) st (O _ N) (List.getElem?_eq_none Xu) λp eb=>{rfl,I.turned (λb o f e=>eb b o f e) C F G J M}
 self:=λ_ _ _ _ _ st h=>wpAny_pyIter_valiter st h
def yJ{K:RP}(d f:Tu)(o:Obj)(kvs:List (hH×V))(vs:List (hH×S5))(ep:Nat)(Z:d≠f)(p:KV kvs vs)(U:∀h:Heap,h.get? d=!o->h.DictAt (aF P w) d vs ep):om P w K (.Tuple elts kk tpos) (Iti d o kvs) [f] f (λi h=>∃ok j,IsItemIter h f d i vs.length ep ok j) where
 mem:=QX _
 obj:=λi h st b a=>by obtain rfl:=Xh a;let{ok,j,e}:=st;exact{_,e,λv z=>by have z':=z;cases z'}
 keep:=λi h W y k=>by let{ok,j,e}:=y;exact{ok,j,k f (QX _) _ e}
 item:=by
  intro X hP hw hK hc i M s σ H E I N st O;let{Q,R}:=O;let{ok,j,n}:=st;let{S,_}:=(I.hok d _ R)
  let{u,hx,ru}:=pL p (k:=kvs[i].1) (x:=kvs[i].2) (QV Q);refine wpAny_pyNext_items_item n (U _ S) hx λc W r A hT a0 hk=>?_;refine{_,rfl,wpAny_letOwnedTupleGo_items A λT B hs=>?_};have C:=Q5 n;have I1:dN X M σ (jl H s.heap.objs.size (.tup [kV kvs[i].1,kvs[i].2])) {s with heap:=s.heap.push {cls:=.type "tuple",data:=.seq #[c,u]},toks:=s.toks}:=
   I.laid (λb o q=>QK _ q) (Xm _) {by show 2<=S6;decide,[c,u],.cons (ox r) (.cons ru .nil),{_,QR _ rfl,rfl,_,{(rfl),rfl}}}
  have F:∀b∈[f],gf X M (jl H s.heap.objs.size (.tup [kV kvs[i].1,kvs[i].2])) b:=λb a=>by obtain rfl:=Xh a;refine{?_,(N b (QX _)).2};rw[aN (Q8 C)];exact(N b (QX _)).1
  have I2:dN X M σ (jl H s.heap.objs.size (.tup [kV kvs[i].1,kvs[i].2])) {s with heap:=T,toks:=s.toks}:=I1.bp (λb o a q=>by
   have Y:b≠f:=λz=>a (by simp[z]);apply(hs.2 b Y).trans;by_cases G:b=s.heap.objs.size;.subst G;have J:(s.heap.push {cls:=.type "tuple",data:=.seq #[c,u]}).get? s.heap.objs.size=!o:=q;rw[QR _ rfl]at J;cases J;exact hT
   .have J:(s.heap.push {cls:=.type "tuple",data:=.seq #[c,u]}).get? b=!o:=q;rw[Rt _ _ _ G]at J;exact hk b o Y J) F
  exact{.ref s.heap.objs.size,_,I2,rfl,{_,kvs[i].1,kvs[i].2,rfl,I.hok.fresh (Xm _),aU (I.hok.fresh (Xm _)) _,aA,QV Q},{_,_,B},λb a=>(F b a).1}
 done := by
   intro X hP hw hK hc i M s σ H E I N st O;let{Q,R}:=O;let{ok,j,n}:=st;let{f0,f1,f2,f3,f4,f5}:=N f (QX _);let{S,_}:=(I.hok d _ R)
   have hl:=p.length;exact wpAny_pyNext_items_end (I.ok.hd hc) n (U _ S) (List.getElem?_eq_none Xu) λW eb=>{rfl,I.turned (λb o a e=>eb b o a e) f0 f1 f3 f4 f5}
 self:=λ_ _ _ _ _ st h=>by let{ok,j,n}:=st;exact PySem.W.kcp_self n h
def yK(c:Tu->Prop)(e:TE):TI:=λσ H R=>e σ H λx b=>∃d a,x=.ref d/\b d=!(.dK a)/\∀o,c d->R (Itv d o a) (jl b d (.frz o (.dK a)))
def AJ(c:Tu->Prop)(e:TE):TI:=λσ H R=>e σ H λx b=>∃d a,x=.ref d/\b d=!(.dK a)/\∀o,c d->R (Iti d o a) (jl b d (.frz o (.dK a)))
def xf{tg:Expr}{a c:Pos}(hl:PE X l tl)(f:‹TF l "values" X.env (eval l X.env)=eval l X.env›)(i:‹(a.endLine==c.line)=true›):
 PI X tg (.Call (.Attribute l "values" a) [] [] c) (yK (uz X) tl):=by
 intro K s σ H R I h;refine TU f i (thn (hl K s σ H _ I h) λv u y=>?_);let{x,P,A,Q,S}:=y;let{d,j,e,B,q}:=S;subst e;cases Q;let{T,M,C,n,o,es,F,E,r}:=gD A.hok B;have G:∀h:Heap,h.get? d=!o->h.DictAt (aF X.prog X.w) d C F:=λh e=>{(o),es,e,r}
 have N:=A.ca B;have U:dN X K σ (jl P d (.frz o (.dK j))) u:=A.bq B (λ_ z=>by cases z) N (λ_ z=>by cases z) (λ_ z=>by cases z) {(E),T,M,C,n,o,es,F,E,r};let{O,W}:=iI A (show hB (.ref d) (.ref d)from rfl) (.inr (.inr (.inl {rfl,.inl {_,B}})));refine{"dict","dict.values",TJ,T6,U7,O,W,Calls.callWith_builtin rfl (T7 ?_)};refine Uq T6 O UY (US _) (meets_dict_values (aF X.prog X.w) d M) {{C,(G _ E).dictOf},?_};have J:=U.kept (t':=u.toks) (h':=u.heap.push {cls:=.type "dict_values",data:=.fields #[.ref d]}) λb o e=>QK _ e;have p:(u.heap.push {cls:=.type "dict_values",data:=.fields #[.ref d]}).get? d=!o:=QK _ E;refine wpAny_pyIter_values {_,QR _ rfl,rfl,rfl} (G _ p) ?_;refine{_,[_],_,_,_,rfl,J.kept λb o e=>QK _ e,AI d _ o j C F (Q8 (Q5 p)) n G,{_,QR _ rfl,rfl,rfl},λb Y=>?_,q o N};obtain rfl:=Xh Y;exact J.ar (Xm _) (J.hok.fresh (Xm _))
def Cy{j:List Expr}{S:Nat}{n:Pos}{a c:Pos}(hl:PE X l tl)(f:‹TF l "items" X.env (eval l X.env)=eval l X.env›)(i:‹(a.endLine==c.line)=true›):
 PI X (.Tuple j S n) (.Call (.Attribute l "items" a) [] [] c) (AJ (uz X) tl):=by
 intro N s σ H R I h;refine TU f i (thn (hl N s σ H _ I h) λv B y=>?_);let{x,T,C,U,W}:=y;let{d,p,e,E,q}:=W;subst e;cases U;let{Y,O,F,u,o,es,J,G,r}:=gD C.hok E;have K:∀h:Heap,h.get? d=!o->h.DictAt (aF X.prog X.w) d F J:=λh e=>{(o),es,e,r}
 have P:=C.ca E;have Z:dN X N σ (jl T d (.frz o (.dK p))) B:=C.bq E (λ_ z=>by cases z) P (λ_ z=>by cases z) (λ_ z=>by cases z) {(G),Y,O,F,u,o,es,J,G,r};let{Q,h2}:=iI C (show hB (.ref d) (.ref d)from rfl) (.inr (.inr (.inl {rfl,.inl {_,E}})));refine{"dict","dict.items",TJ,T8,Vh,Q,h2,Calls.callWith_builtin rfl (T7 ?_)};refine Uq T8 Q U8 (UZ _) (meets_dict_items (aF X.prog X.w) d O) {{F,(K _ G).dictOf},?_};have M:=Z.kept (t':=B.toks) (h':=B.heap.push {cls:=.type "dict_items",data:=.fields #[.ref d]}) λb o e=>QK _ e;have A:(B.heap.push {cls:=.type "dict_items",data:=.fields #[.ref d]}).get? d=!o:=QK _ G;refine wpAny_pyIter_items {_,QR _ rfl,rfl,rfl} (K _ A) ?_;refine{_,[_],_,_,_,rfl,M.kept λb o e=>QK _ e,yJ d _ o p F J (Q8 (Q5 A)) u K,{_,_,QR _ rfl},λb hb=>?_,q o P};obtain rfl:=Xh hb;exact M.ar (Xm _) (M.hok.fresh (Xm _))
def I0(c:Tu->Prop)(t:TE):TE:=λσ H Q=>t σ H λv b=>∃d o a,c d/\b d=!(.frz o (.dK a))/\Q v (jl b d (.dK a))
def uE(h:PE X e t):PE X e (I0 (uz X) t):=by
 intro c s σ H Q I hw;refine thn (h c s σ H _ I hw) λu n y=>?_;let{v,p,a,f,d,o,i,j,b,q}:=y;let{_,z}:=(a.hok d _ b)
 refine{v,_,a.bq b (λ_ z=>by cases z) j (λ_ z=>by cases z) (λ_ z=>by cases z) ?_,f,q};exact z
def xg(e ty f:TE):TE:=λσ H Q=>e σ H λx c=>∃a,x=.ref a/\(∃b,c a=!(.dK b))/\ty σ c λy h=>f σ h λz d=>∃b k,d a=!(.dK b)/\dL y=!k/\Q ((bc b k).getD z) d
def lH(c:X.A.units+1<Vk)(d:PE X o td)(i:PE X e ty)(j:PE X f tx)(m:M2 X o "get" apos e f cpos):PE X (.Call (.Attribute o "get" apos) [e,f] [] cpos) (xg td ty tx):=by intro n s σ H Q I h;exact Ci c d.up i.up j.up m n s σ H Q I {_,h,λx v u=>by let{a,e,{b,hk},q}:=u;exact{a,e,.inl {b,Rd.of hk},_,q,λy A q=>{_,q,λz B w=>by let{b,k,p,r,q}:=w;exact{_,by rw[j6 r];exact Xz.k p,q}}}}
def AK:Ux (.type "list") "keys" =pure none:=by rfl
def AL
 (hx:s.heap.get? a=some {cls:=.type "list",dict:=none,data:=.seq xs k,slots:= #[]}) (hA:A.handled=none)
 (h:∀h' tk,(∀b o,s.heap.get? b=!o->h'.get? b=!o)->Q none {s with heap:=h',toks:=tk}):Tc (model prog w) A (getAttr? (.ref a) "keys") Q E s:=by
 let{hp,g,d,tk,os}:=s;have hT:∀tk',(⟨hp,g,d,tk',os⟩:S8).TypeIs (.ref a) "list":=λ_=>{_,hx,rfl}
 have f1:=UU;have f3:=F.slot_list_getattribute.lookup;have f4:=F.slot_list_getattribute.bind (.ref a);have f5:=am_list_getattr_none
 repeat (any_goals (first|assumption|exact hT _|((with_reducible show Tc _ _ (call (S5.builtin "list.__getattribute__") _ _) _ _ _);refine Uk F.slot_list_getattribute (hT _) am_entry_list_getattribute (F.args_list_getattribute_2 _ _) (meets_getattribute_miss_list a xs k #[] "keys" _ AK Xs) {hx,hA,λh' tk' e hx'=>?_})|wp_step))
 let{t',u',he}:=hx'.there;show Tc _ _ (UV _ _ _ _ _ _ _) _ _ _
 repeat (any_goals (first|assumption|exact hE _|exact h _ _ hx'.keeps|wp_step))
def cM:entryFor table "dict.update.loop" =some Th.«dict.update.loop»:=entryFor_of_tree (by kernel_rfl)
#print e
inductive YW (prog:S9) (w:Td) (h:Heap) (d it:Tu):List S5->List (hH×S5)->Prop
 |nil:YW prog w h d it [] []
 |cons {a:Tu} {o:Obj} {key v:S5} {k:hH} {n:Nat} {xs:List S5} {ps:List (hH×S5)}:h.get? a=!o->o.cls=.type "tuple"->o.data=.seq #[key,v] n->(aF prog w).is k key=true->a≠d->a≠it->YW prog w h d it xs ps->YW prog w h d it (.ref a::xs) ((k,v)::ps)
def YW.keep(g:∀b o,b≠d->b≠it->h.get? b=!o->h'.get? b=!o):∀{xs:List S5} {a:List (hH×S5)},YW prog w h d it xs a->YW prog w h' d it xs a:=by
 intro u v f;induction f with
 |nil=>exact .nil
 |cons i j n p c e r q=>exact .cons (g _ _ c e i) j n p c e q
theorem uF{R:W7->S8->Prop}(T:A.handled=none){d y l:Tu}{items:Array S5}(u:d≠y)(F:d≠l)(nil:y≠l):∀(rest:List (hH×S5)) (i:Nat) (s:S8) (f:List (hH×S5)),s.heap.IsListIter y l i->s.heap.IsList l items->YW prog w s.heap d y (items.toList.drop i) rest->s.heap.DictOf (aF prog w) d f->f.length+rest.length<=1000->(∀h' tk,h'.DictOf (aF prog w) d (rest.foldl (λc p=>stored c p.1 p.2) f)->(∀b o,b≠d->b≠y->s.heap.get? b=!o->h'.get? b=!o)->R (.ok (.ret .none)) {s with heap:=h',toks:=tk})->
 UF (model prog w) A (.builtin "dict.update.loop" {[.ref d,.ref y,VO i,.none],[]}) R s
 |[],i,s,f,z,hl,B,J,G,K=>by
  apply Uf cM;unfold Th.«dict.update.loop»;have M:items[i]? =none:=by
   cases h:items.toList.drop i with
   |nil=>have:=List.drop_eq_nil_iff.mp h;simpa using this
   |cons x E=>rw[h]at B;cases B
  refine S4 (UC T z hl M λh' U=>?_);refine S4 (S7 (S7 ?_));exact K h' s.toks (J.extBut U u) λb o C j e=>U b o j e
 |(k,v)::rest,i,s,f,z,hl,B,J,G,K=>by
  apply Uf cM;obtain⟨x,E,N⟩:∃x E,items.toList.drop i=x::E:=by
   cases h:items.toList.drop i with
   |nil=>rw[h]at B;cases B
   |cons x E=>exact{(x),E,rfl}
  have M:items[i]? =!x:=by have:=congrArg (λl=>l[0]?) N;simp only[Rw,Nat.add_zero,List.getElem?_cons_zero,Array.getElem?_toList]at this;exact this
  have e1:items.toList.drop (i+1)=E:=by rw[<-So,N];rfl
  rw[N]at B;cases B with
  | @cons a o Z _ _ n _ _ h1 h2 O h4 h5 h6 r=>
  refine S4 (Uw z hl M λh' H W=>?_);have P:∀b o,b≠y->s.heap.get? b=!o->h'.get? b=!o:=λb o C e=>(W.2 b C).trans e;have X:=P a o h6 h1;have hT:({s with heap:=h'}:S8).TypeIs (.ref a) "tuple":={(o),X,h2}
  refine S4 (Tf (S4 (VH ?_)));refine S4 (Uo hT ?_);refine S4 (Tv (s:={s with heap:=h'}) X O (S7 ?_));refine Tf (UO h4 (J.sameBut W u) (λQ I q=>?_) (by unfold S6;ext));have Y:=λb o C j e=>(q.2 b C).trans (P b o j e);refine S7 {Code.quiet_builtin _ Xs,?_};have NO:=stored_length_le f k v;have ih:=uF T u F nil rest (i+1) {s with heap:=Q,toks:=s.toks+1} (stored f k v) (H.at λo e=>(q.2 y (Ne.symm u)).trans e) (hl.at λo e=>(q.2 l (Ne.symm F)).trans (P l o (Ne.symm nil) e)) (by rw[e1];exact r.keep Y) I (by simp only[QP]at G;ext) λO tk S k3=>K O tk S λb o C j e=>k3 b o C j (Y b o C j e);exact ih
end
inductive XG (H:Hp):List V->List (hH×V)->Prop
 |nil:XG H [] []
 |cons {a:Tu} {k:hH} {v:V} {xs:List V} {ps:List (hH×V)}:H a=!(.tup [kV k,v])->XG H xs ps->XG H (.ref a::xs) ((k,v)::ps)
def bU(a:List (hH×V)):List (hH×V):=a.foldl (λc p=>bR c p.1 p.2) []
def AM:List V->Hp->VK->Prop:=λd H Q=>∃(p:Tu) (c:List V) (a:List (hH×V)),d= [.ref p]/\H p=!(.lst c)/\XG H c a/\a.length<1000/\∀l b,H l=none->dA H b->b l=!(.dK (bU a))->Q (.ref l) b
def AN{X:Cx}{i:List (Tu×Obj)}{σ:St}{H:Hp}{s:S8}(I:dN X i σ H s){d f:Tu}(j:s.heap.objs.size<=d)(p:s.heap.objs.size<=f):∀{e:List V} {c:List (hH×V)} {b:List S5},XG H e c->eC e b->∃us,YW X.prog X.w s.heap d f b us/\KV c us:=by
 intro e c b h;induction h generalizing b with
 |nil=>intro r;cases r;exact{[],.nil,.nil}
 | @cons a k v J c h r x=>
  intro q;cases q with
  |cons y z=>
   let{us,A,B}:=x z;cases y;let{_,b,C,o,e1,e2,n,e3,_}:=(show ni X.prog X.w H s.heap a (.tup [kV k,v])from I.hok a _ h)
   let{E,u,rfl,F,G}:=C.two;have lt:=Q5 e1;exact{(k,u)::us,.cons e1 e2 e3 (gC F) (Q8 (Q4 lt j)) (Q8 (Q4 lt p)) A,.cons {(rfl),G} B}
def uG:∀{a:List (hH×V)} {us:List (hH×S5)} {b:List (hH×V)} {ds:List (hH×S5)},KV a us->KV b ds->KV (a.foldl (λc p=>bR c p.1 p.2) b) (us.foldl (λc p=>stored c p.1 p.2) ds):=by
 intro a us b ds h;replace h:UM _ a us:=h;induction h generalizing b ds with
 |nil=>exact id
 | @cons p q a us r _ d=>let{k,x}:=p;let{j,u}:=q;let{e,f}:=r;cases e;exact λi=>d (i.put k f)
def lI(a:List (hH×V)):(bU a).length<=a.length:=by
 have:∀(a:List (hH×V)) (c:List (hH×V)),(a.foldl (λc p=>bR c p.1 p.2) c).length<=c.length+a.length:=λa=>by
  induction a with
  |nil=>simp_all
  |cons p a b=>intro c;have d:=b (bR c p.1 p.2);have e:=jw c p.1 p.2;rw[List.foldl_cons,QP];ext
 have:=this a [];unfold bU;simpa using this
def eJ(hc:‹X.calm=true›):bH X (.type "dict") AM:=by
 intro Xg s σ H xs x Q I r h;let{p,ys,G,rfl,T,U,W,q}:=h;let{u,rfl,Y}:=d6 r;cases Y;let{hz,d,J,Z,K}:=(I.hok p _ T)
 have M:=I.ok.hd hc;apply VI (Q₁:=λf N=>f=.ref s.heap.objs.size/\N={s with heap:=s.heap.push {cls:=.type "dict",data:=.dict #[]}}) F.kt_called_dict (F.kt_typeCall_dict_1 _) F.entry_dict_init (Vj _ {(rfl),rfl});rintro f N ⟨rfl,rfl⟩;have a:(s.heap.push {cls:=.type "dict",data:=.dict #[]}).DictOf (aF X.prog X.w) s.heap.objs.size []:=Heap.DictOf.new s.heap;have e1:(s.heap.push {cls:=.type "dict",data:=.dict #[]}).get? p=some {cls:=.type "list",data:=.seq d.toArray J}:=QK _ K;have hT:({s with heap:=s.heap.push {cls:=.type "dict",data:=.dict #[]}}:S8).TypeIs (.ref p) "list":={_,e1,rfl}
 exists a.typeIs,F.args_dict_init_2 _ _;apply S4;refine S4 (UD a.typeIs ?_);apply S7;refine S4 (Uo hT ?_);refine S4 (AL e1 M λi y z=>?_);have O:∀b o,s.heap.get? b=!o->i.get? b=!o:=λb o e=>z _ _ (QK _ e);have j:i.DictOf (aF X.prog X.w) s.heap.objs.size []:=by let{o,es,P,B,r}:=a;exact{o,es,P,z _ _ B,r}
 have n:i.IsList p d.toArray:={_,z _ _ e1,rfl,J,rfl}
 have c:s.heap.objs.size<i.objs.size:=by let{o,es,P,B,r}:=j;exact Q5 B
 have v:=Q5 K;refine S4 (UL ?_);refine S4 (Uj (s:={s with heap:=i,toks:=y}) n ?_);refine S7 {Code.quiet_builtin _ Xs,?_};let{x,hI,R}:=AN I (Xm _) (Nat.le_of_lt c) U Z;have a0:=(KV.length R).symm;refine uF (A:=X.A.in1) M (Q8 c) (Ri v) (Ri (Sg v c)) x 0 _ [] {_,QR _ rfl,rfl,rfl} (n.at λo e=>QK _ e) ?_ (j.push _) (by simp only[Rl];ext) λh2 C E k2=>?_;.show YW X.prog X.w _ _ _ (d.toArray.toList.drop 0) x;exact hI.keep λb o _ _ e=>QK _ (O b o e)
 .refine{rfl,?_};have kp:∀b o,s.heap.get? b=!o->h2.get? b=!o:=λb o e=>by have S:=Q5 e;exact k2 b o (Q8 S) (Q8 (Sg S c)) (QK _ (O b o e))
  have fr:=I.hok.fresh (Xm _);have hs:=beq_eq_false_iff_ne.mpr (Ri I.big);have kv:=uG R .nil;have le:=lI G;have I2:=I.laid (o:=.dK (bU G)) (t':=C) kp (Xm _) ({by unfold S6;ext,hs,_,kv,E});exact{.ref s.heap.objs.size,_,I2,rfl,q _ _ fr (aU fr _) aA}
end _L
namespace _L
open PySem PySem.Spec PyProof.Rows PySem.W
def XB(n:Nat)(p:Array Nat):Prop:=p.Perm (List.toArray (List.range n))
theorem XB.size{n:Nat}{p:Array Nat}(h:XB n p):p.size=n:=by have:=h.size_eq;simpa using this
theorem XB.get{n:Nat}{p:Array Nat}(h:XB n p)(hn:0<n)(i:Nat):p.getD i 0<n:=by
 by_cases c:i<p.size
 .have e:p.getD i 0=p[i]:=by simp[Array.getD,c]
  rw[e];have a:p[i]∈p.toList:=by simp
  have:=(Array.perm_iff_toList_perm.mp h).mem_iff.mp a;simpa using this
 .have e:p.getD i 0=0:=by simp[Array.getD,c]
  rw[e];exact hn
def XB.rev{n:Nat}{p:Array Nat}(h:XB n p)(i j:Nat):XB n (Wi p i j):=(mirror_perm p i j _).trans h
def XB.bub{n:Nat}{p:Array Nat}(h:XB n p)(i j:Nat):XB n (bubble p i j):=(bubble_perm p i j).trans h
section
variable{N:Nat}(hN:0<N)
include hN
end
#print d
end
end _L
#print y
theorem sy:qM (Itv d o kvs) (kvs.map (·.2)) (λH=>H d=!(.frz o (.dK kvs))) where
 go:=λi H h lt=>{by simpa using lt,h}
 stop:=λi H h le=>{by simpa using le,h}
 yld:=λi H x a h lt y=>by let{rfl,k,e}:=y;exact{rfl,by rw[QY,e];rfl}
theorem wv(n:H1 d=!(.frz o (.dK kvs)))(sz:kvs.length<S6)(j:Tu->Nat->List V->St->Hp->Prop) (F:∀D a,H1 D=none->dA H1 a->a D=!(.lst [])->j D 0 [] cs a) (hs:∀D i k x c f a p h,kvs[i]? =!(k,x)->At (kvs.map (·.2)) H1 D i c a->j D i c f a->a p=none->dA a h->h p=!(.tup [kV k,x])->g (.ref p) f h λu H2=>tc u H2 λb B=>if b=true then te u B λv I=>ZZ (kvs.map (·.2)) H1 D (j D) i u v I else oB (kvs.map (·.2)) H1 D (j D) i u B) (G:∀D c f a,H1 D=none->dA H1 a->a D=!(.lst c)->c.length<=kvs.length->j D kvs.length c f a->Q (.ref D) a):gG (Iti d o kvs) g tc te cs H1 Q:=by
 have z:(kvs.map (·.2)).length=kvs.length:=by rw[QL]
 intro D q;exists CW (kvs.map (·.2)) H1 D (j D),{_,rfl,Ra _,aU q _,[],aA,Xm _,F D _ q (aU q _) aA};rintro i m f H ⟨rfl,J,sm,c,C,E,p⟩;by_cases r:i<kvs.length;.refine .inr {{r,sm _ _ n},λv a y=>?_};let{K,k,x,rfl,hn,A,M,N}:=y;exact hs D i k x c f H K a N {q,by rw[z];exact r,by rw[z];exact sz,sm,C,E} p hn A M
 .have e:i=kvs.length:=by rw[z]at J;ext
  subst e;exact .inl {{Xm _,sm _ _ n},G D c f _ q sm C E p}
def WM(xs:List V)(D:Tu)(b:Nat->List V->St->Hp->Prop)(i m:Nat)(σ:St)(H:Hp):Prop:=m=xs.length-i/\i<=xs.length/\∃a,H D=!(.lst a)/\a.length<=i/\b i a σ H
def Ja(xs:List V)(D:Tu)(d:Nat->List V->St->Hp->Prop)(i:Nat)(e:St)(v:V)(b:Hp):Prop:=∃a,b D=!(.lst a)/\a.length<S6/\∃c,c<xs.length-i/\WM xs D d (i+1) c e (jl b D (.lst (a++[v])))
def LC(xs:List V)(D:Tu)(b:Nat->List V->St->Hp->Prop)(i:Nat)(c:St)(H2:Hp):Prop:=∃a,a<xs.length-i/\WM xs D b (i+1) a c H2
theorem MY(b:i<xs.length)(sz:xs.length<S6)(c:H3 D=!(.lst ys))(d:ys.length<=i)(h:∀a,Mu H3 D (.lst (ys++[v])) a->Pv (i+1) (ys++[v]) σ2 a):Ja xs D Pv i σ2 v H3:=
 {ys,c,by ext,xs.length-(i+1),by ext,rfl,b,_,aA,by rw[QN,Q0];ext,h _ .mk'}
#print b
def AQ:List V->Hp->VK->Prop:=λxs H Q=>∃(d:Tu) (kvs:List (hH×V)),xs= [.ref d]/\H d=!(.dK kvs)/\kvs.length<1000/\∀l H',H l=none->dA H H'->H' l=!(.lst (kvs.map λkv=>kV kv.1))->Q (.ref l) H'
theorem qP:∀(xs:List V) (vs:List S5),vs.length=xs.length->(∀(j:Nat) (v:S5),vs[j]? =!v->∃x,xs[j]? =!x/\hB x v)->eC xs vs
 |[],[],_,_=>.nil
 |x::xs,v::vs,hl,h=>by let{y,e,r}:=h 0 v rfl;cases e;exact .cons r (qP xs vs (~~~hl) λj v e=>by simpa using h (j+1) v (~~~e))
 |[],_::_,hl,_=>by simp at hl
 |_::_,[],hl,_=>by simp at hl
def yL(hc:‹X.calm=true›):bH X (.type "list") AQ:=by
 intro O s σ H P R Q I r h;let{d,b,rfl,z,S,q}:=h;let{u,rfl,A}:=d6 r;cases A;let{T,B,U,f,o,es,W,C,E}:=gD I.hok z;have hl:=f.length;refine SY (SX B) (I.ok.hd hc) {(o),es,C,E} Xu λY F i G hk J a=>?_;have fr:=I.hok.fresh (Xm _);have K:eC (b.map λc=>kV c.1) i.toList:=by
  refine qP _ _ (by rw[Array.length_toList,a.1,QL,hl]) λj v M=>?_;let{k,x,e,n}:=a.2 j v (by rw[<-Array.getElem?_toList];exact M);have p:=congrArg (λl=>l[j]?) f.keys;simp only[QY,e]at p;cases y:b[j]? with
  |none=>simp_all
  |some c=>rw[y]at p;have p:c.1=k:=Xr p;refine{kV c.1,by rw[QY,y];rfl,?_};rw[p];exact ox n
 have N:=I.laid (o:=.lst (b.map λc=>kV c.1)) (t':=F) hk (Xm _) ({by rw[QL];ext,i.toList,G,K,by simpa using J});exact{.ref s.heap.objs.size,_,N,rfl,q _ _ fr (aU fr _) aA}
end
def Et:List V->Hp->VK->Prop:=λa H Q=>∃k,a= [.bl k]/\Q (.int (if k=true then 1 else 0)) H
def AR:bH X (.type "int") Et:=by intro a s σ H b c Q I r h;exact Ae a s σ H b c Q I r (.inr h)
end _L
namespace _L
open PySem PySem.Spec PyProof.Rows PySem.W
def Go{α:Type}(lt:Nat->Nat->Bool)(N:Nat)(R:α->Prop):KasT α->Prop
 |.ret a=>R a
 |.ask i j k=>i<N/\j<N/\Go lt N R (k (lt i j))
theorem Go.bind{R:α->Prop}{S:β->Prop}{f:α->KasT β}(b:∀a,R a->Go lt N S (f a)):∀{t:KasT α},Go lt N R t->Go lt N S (t.bind f)
 |.ret a,h=>b a h
 |.ask i j k,⟨c,d,e⟩=>{c,d,Go.bind b e}
theorem Go.wp{lt:Nat->Nat->Bool}{N:Nat}{R:α->Prop}{Q:α->S8->Prop}(hc:∀i j,i<N->j<N->∀C:Bool->S8->Prop,C (lt i j) s->cmp i j C s)(b:∀a,R a->Q a s):∀{t:KasT α},Go lt N R t->t.kasWp cmp Q s
 |.ret a,h=>b a h
 |.ask i j k,⟨c,d,e⟩=>hc i j c d _ (Go.wp hc b e)
section
variable{lt:Nat->Nat->Bool}{N:Nat}(hN:0<N)(tr:∀i j k,lt i j=true->lt j k=true->lt i k=true)(tot:∀i j,i<N->j<N->i≠j->lt i j=true\/lt j i=true)
def Up(lt:Nat->Nat->Bool)(p:Array Nat)(k:Nat):Prop:=∀i j,i<j->j<k->lt (p.getD i 0) (p.getD j 0)=true
def Yl(lt:Nat->Nat->Bool)(p:Array Nat)(k:Nat):Prop:=∀i j,i<j->j<k->lt (p.getD j 0) (p.getD i 0)=true
theorem XB.ne(h:XB N p)(c:i<j)(d:j<N):p.getD i 0≠p.getD j 0:=by
 have nd:p.toList.Nodup:=by have:=(Array.perm_iff_toList_perm.mp h).nodup_iff.mpr (~~~List.nodup_range);exact this
 have hs:=h.size;have a:i<p.size:=by ext
 have b:j<p.size:=by ext
 simp only[Array.getD,a,b];intro e;have:=(List.pairwise_iff_getElem.mp nd) i j (~~~a) (~~~b) c;exact this (~~~e)
include tr in
theorem Up.step{p:Array Nat}{n:Nat}(h:Up lt p n)(b:1<=n)(hl:lt (p.getD (n-1) 0) (p.getD n 0)=true):Up lt p (n+1):=λi j a c=>by
 by_cases e:j=n
 .subst e;by_cases e2:i=j-1;.subst e2;exact hl
  .exact tr _ _ _ (h i (j-1) Xu Xu) hl
 .exact h i j a Xu
include tr in
theorem Yl.step{p:Array Nat}{n:Nat}(h:Yl lt p n)(b:1<=n)(hl:lt (p.getD n 0) (p.getD (n-1) 0)=true):Yl lt p (n+1):=λi j a c=>by
 by_cases e:j=n
 .subst e;by_cases e2:i=j-1;.subst e2;exact hl
  .exact tr _ _ _ hl (h i (j-1) Xu Xu)
 .exact h i j a Xu
include hN tr tot in
theorem uH{p:Array Nat}(c:XB N p):∀f n,1<=n->n+f<=N->Up lt p n->Go lt N (λm=>n<=m/\m<=n+f/\Up lt p m/\(m<n+f->lt (p.getD m 0) (p.getD (m-1) 0)=true)) (kas_asc p f n)
 |0,n,o,hl,d=>{Xm _,Xm _,d,λz=>absurd z Xu}
 |f+1,n,o,hl,d=>by
  exists c.get hN _,c.get hN _;cases b:lt (p.getD n 0) (p.getD (n-1) 0)with
  |true=>exact{Xm _,by ext,d,λ_=>b}
  |false=>
   have e:lt (p.getD (n-1) 0) (p.getD n 0)=true:=((tot _ _ (c.get hN _) (c.get hN _) (c.ne Xu Xu)).resolve_right (by rw[b];simp))
   have:=uH c f (n+1) Xu Xu (d.step tr o e);show Go lt N _ (kas_asc p f (n+1));rw[show n+(f+1)=n+1+f by ext];have w:∀{t:KasT Nat},Go lt N (λm=>n+1<=m/\m<=n+1+f/\Up lt p m/\(m<n+1+f->lt (p.getD m 0) (p.getD (m-1) 0)=true)) t->Go lt N (λm=>n<=m/\m<=n+1+f/\Up lt p m/\(m<n+1+f->lt (p.getD m 0) (p.getD (m-1) 0)=true)) t:=by
    intro t;induction t with
    |ret a=>exact λh=>{by have:=h.1;ext,h.2}
    |ask i j k q=>exact λh=>{h.1,h.2.1,q _ h.2.2}
   exact w this
include hN tr tot in
theorem xh{p:Array Nat}(a:XB N p):∀f n,1<=n->n+f<=N->Yl lt p n->Go lt N (λr=>r.1=p/\r.2.2=0/\Yl lt p r.2.1/\1<=r.2.1/\r.2.1<=N) (WV f p n 0)
 |0,n,c,hl,e=>{rfl,rfl,e,c,by ext}
 |f+1,n,c,hl,e=>by
  exists a.get hN _,a.get hN _;cases b:lt (p.getD n 0) (p.getD (n-1) 0)with
  |true=>show Go lt N _ (if true=true then(if 0>0 then WV f (Wi p (n-(0+1)) n) (n+1) 0 else WV f p (n+1) 0)else _);rw[Xf rfl,Xe Xu];exact xh a f (n+1) Xu Xu (e.step tr c b)
  |false=>
   show Go lt N _ (if false=true then _ else KasT.ask (p.getD (n-1) 0) (p.getD n 0) λd=>if d=true then .ret (p,n,0)else WV f p (n+1) (0+1));rw[Xe Xs];have h:lt (p.getD (n-1) 0) (p.getD n 0)=true:=((tot _ _ (a.get hN _) (a.get hN _) (a.ne Xu Xu)).resolve_right (by rw[b];simp))
   exists a.get hN _,a.get hN _;rw[h];exact{rfl,rfl,e,c,by show n<=N;ext}
def Jb{p:Array Nat}(b:XB N p){n:Nat}(hn:n<=N)(h:Yl lt p n):Up lt (Wi p 0 n) n:=λi j a c=>by
 have hs:=b.size;have g:∀k,k<n->(Wi p 0 n).getD k 0=p.getD (n-1-k) 0:=λk hk=>by have e:=getElem?_mirror_all (xs:=p) (i:=0) (j:=n) Xu k;rw[Xf {Ra _,hk}]at e;show(Wi p 0 n).getD k 0=_;rw[Array.getD_eq_getD_getElem?,Array.getD_eq_getD_getElem?];unfold Wi;rw[e];congr 2;ext
 rw[g i Xu,g j c];exact h _ _ (Nat.sub_lt_sub_left Xu a) Xu
include hN tr tot in
def Cz{p:Array Nat}(a:XB N p)(F:2<=N):Go lt N (λr=>XB N r.2/\Up lt r.2 r.1/\1<=r.1/\r.1<=N) (kas_count N p):=by
 refine(uH hN tr tot a (N-1) 1 (Xm _) Xu λi j e o=>absurd o Xu).bind λn d=>?_;let{q,G,f,y}:=d;by_cases c:(n==N)=true;.rw [Xf c];exact{a,f,q,by ext}
 .rw [Xe c];have c:n≠N:=λz=>c (by rw[z];exact beq_self_eq_true N);by_cases u:n>1;.rw [Xf u];exists a.get hN _,a.get hN _;rw[f 0 (n-1) Xu Xu];exact{a,f,q,by ext}
  .rw [Xe u];have e1:n=1:=(by ext);subst e1;have b:=y Xu;have A:Yl lt p 2:=λi j e o=>by have:i=0:=(by ext);have:j=1:=(by ext);subst i;subst j;exact b
   refine(xh hN tr tot a (N-2) 2 Xu Xu A).bind λr d=>?_;let{B,H,C,v,h}:=d;rw[Xe Xu];let{I,x,J}:=r;cases B;refine(uH hN tr tot (a.rev _ _) (N-x) x v (by dsimp only at h;ext) (Jb a h C)).bind λm d=>?_;let{K,M,E,O}:=d;exact{a.rev _ _,E,by dsimp only at v;dsimp only;ext,by dsimp only at h;dsimp only;ext}
include hN tr tot in
theorem oC{p:Array Nat}(a:XB N p){k:Nat}(hk:k<N):∀f l r,l<=r->r<=k->r-l<=f->Up lt p k->(∀i,i<l->lt (p.getD i 0) (p.getD k 0)=true)->(∀i,r<=i->i<k->lt (p.getD k 0) (p.getD i 0)=true)->Go lt N (λl=>l<=k/\(∀i,i<l->lt (p.getD i 0) (p.getD k 0)=true)/\(∀i,l<=i->i<k->lt (p.getD k 0) (p.getD i 0)=true)) (kas_place p k f l r)
 |0,l,r,u,v,x,d,j,n=>{by ext,j,λi o=>n i Xu}
 |f+1,l,r,u,v,x,d,j,n=>by
  show Go lt N _ (if l>=r then KasT.ret l else _);by_cases c:l>=r;.rw [Xf c];exact{by ext,j,λi o=>n i Xu}
  .rw [Xe c];exists a.get hN _,a.get hN _;cases b:lt (p.getD k 0) (p.getD ((l+r)/2) 0)with
   |true=>
    refine oC a hk f l ((l+r)/2) Xu Xu Xu d j λi o q=>?_;by_cases e:i=(l+r)/2;.rw [e];exact b
    .exact tr _ _ _ b (d _ _ Xu q)
   |false=>
    have h:lt (p.getD ((l+r)/2) 0) (p.getD k 0)=true:=((tot _ _ (a.get hN _) (a.get hN _) (a.ne Xu hk)).resolve_right (by rw[b];simp))
    refine oC a hk f ((l+r)/2+1) r Xu Xu Xu d (λi o=>?_) n;by_cases e:i=(l+r)/2;.rw [e];exact h
    .exact tr _ _ _ (d _ _ Xu Xu) h
def Jc(f:XB N p)(hk:k<N)(hl:l<=k)(a:Up lt p k)(h:∀i,i<l->lt (p.getD i 0) (p.getD k 0)=true)(n:∀i,l<=i->i<k->lt (p.getD k 0) (p.getD i 0)=true):Up lt (bubble p k (k-l)) (k+1):=by
 have hs:=f.size;have g:∀i,(bubble p k (k-l)).getD i 0=if i=l then p.getD k 0 else if l<i/\i<=k then p.getD (i-1) 0 else p.getD i 0:=λi=>by
  have e:=getElem?_bubble (xs:=p) (src:=k) Xu (k-l) Xu i;rw[show k-(k-l)=l by ext]at e;rw[Array.getD_eq_getD_getElem?,e];split;.rw [Array.getD_eq_getD_getElem?]
  .split
   .rw [Array.getD_eq_getD_getElem?]
   .rw [Array.getD_eq_getD_getElem?]
 intro i j b r;rw[g i,g j];by_cases c:i=l;.rw [Xf c,Xe Xu,Xf {by ext,by ext}];exact n _ Xu Xu
 .rw [Xe c];by_cases d:j=l;.rw [Xf d,Xe Xu];exact h _ Xu
  .rw [Xe d];by_cases o:l<i;.rw [Xf {o,by ext},Xf {by ext,by ext}];exact a _ _ Xu Xu
   .rw [Xe Xu];by_cases q:l<j;.rw [Xf {q,by ext}];exact a _ _ Xu Xu
    .rw [Xe Xu];exact a _ _ b Xu
include hN tr tot in
theorem AS:∀(f:Nat) {p:Array Nat} (k:Nat),XB N p->k+f=N->Up lt p k->Go lt N (λp=>XB N p/\Up lt p N) (kas_bin f p k)
 |0,p,k,a,hk,b=>{a,by rw[<-hk];exact b}
 |f+1,p,k,a,hk,b=>(oC hN tr tot a Xu k 0 k Xu Xu Xu b (λi c=>absurd c Xu) (λi n d=>absurd d Xu)).bind λl ⟨e,h,j⟩=>AS f (k+1) (a.bub _ _) Xu (Jc a Xu e b h j)
include hN tr tot in
def Fy(d:2<=N):Go lt N (λp=>XB N p/\Up lt p N) (kas_sort N):=(Cz hN tr tot (Array.Perm.refl _) d).bind λr ⟨a,b,e,f⟩=>by
 by_cases c:r.1<N;.rw [Xf c,show max r.1 1=r.1 by ext];exact AS hN tr tot _ _ a Xu b
 .rw [Xe c];exact{a,by rw[show N=r.1 by ext];exact b}
end
theorem gP:∀{x y z:List Int},_T.aL x y=true->_T.aL y z=true->_T.aL x z=true
 |[],[],_,h,_=>by cases h
 |[],_::_,[],_,h=>by cases h
 |[],_::_,_::_,_,_=>rfl
 |_::_,[],_,h,_=>by cases h
 |_::_,_::_,[],_,h=>by cases h
 |a::x,b::y,c::z,h,d=>by
  rw[_T.bM]at h d⊢;by_cases e1:a=b
  .rw [Xf e1]at h;by_cases e2:b=c;.rw [Xf e2]at d;rw[Xf (e1.trans e2)];exact gP h d
   .simp_all
  .rw [Xe e1]at h;by_cases e2:b=c;.simp_all
   .grind
theorem ji:∀{x y:List Int},x≠y->_T.aL x y=true\/_T.aL y x=true
 |[],[],h=>absurd rfl h
 |[],_::_,_=>.inl rfl
 |_::_,[],_=>.inr rfl
 |a::x,b::y,h=>by
  rw[_T.bM,_T.bM];by_cases e:a=b;.rw [Xf e,Xf e.symm];exact ji λz=>h (by rw[e,z])
  .rw [Xe e,Xe (Ne.symm e)];rcases Int.lt_or_gt_of_ne e with z|z;.exact .inl (decide_eq_true z)
   .exact .inr (decide_eq_true z)
theorem kx:∀x:List Int,_T.aL x x=false
 |[]=>rfl
 |a::x=>by rw[_T.bM,Xf rfl];exact kx x
def _i(h:Heap)(v:S5)(ns:List Int)(d:List V):Prop:=∃a o b c n,v=.ref a/\h.get? a=!o/\o.cls=.type "tuple"/\o.data=.seq (List.toArray (b++c)) n/\Ud b ns/\eC d c
def _y(a:List V):Prop:=∀r∈a,(∃i,r=V.int i)\/∃x,r=V.str x
#print d
def MZ{Q:Bool->S8->Prop}(h:Q false s):∀{a:List V} {us vs:List S5} (i:Nat),eC a us->eC a vs->_y a->KatLex prog w A b false Q (us.zip vs) i s:=by
 intro a;induction a with
 |nil=>intro us vs i c d f;cases c;exact kat_nil h
 |cons r a j=>
  intro us vs i c d f;cases c with
  |cons o p=>
   cases d with
   |cons q u=>
    have v:=λx y=>f x (QM _ y);rcases f r QO with ⟨n,rfl⟩|⟨x,rfl⟩
    .let{_,rfl}:=o;let{_,rfl}:=q;exact kat_cons (Vi (kat_go (λ_=>kat_yes (j (i+1) p u v)) λe=>by simp at e))
    .let{_,rfl}:=o;let{_,rfl}:=q;exact kat_cons (wpAny_eqBool_str (kat_go (λ_=>kat_yes (j (i+1) p u v)) λe=>by simp at e))
def M5{b:Bool}{Q:Bool->S8->Prop}{o a:List V}{ws d:List S5}(r:eC o ws)(v:eC a d)(f:_y o){us vs:List S5}{xs j:List Int}(i:Nat)(x:Ud us xs)(p:Ud vs j)(hl:xs.length=j.length)(q:xs=j->o=a)(h:Q (_T.aL xs j) s):KatLex prog w A b false Q ((us++ws).zip (vs++d)) i s:=by
 induction x generalizing vs j i with
 |nil=>
  cases p with
  |nil=>cases q rfl;exact MZ h i r v f
  |cons _ _ _=>cases hl
 |cons m t C y=>
  cases p with
  |nil=>cases hl
  |cons n u B=>
   rw[Rn,Rn,List.zip_cons_cons];refine kat_cons (Vi ?_);refine kat_go (λe=>kat_yes (y (i+1) B (~~~hl) (λz=>q (by rw[z,show m=n by simpa using e])) ?_)) λe=>kat_no ?_;.rw [_T.bM,Xf (~~~e)]at h;exact h
   .rw [_T.bM,Xe (~~~e)]at h;cases c:(b&&i==0)with
    |true=>exact oneLt_int h
    |false=>exact kat_one _ _ (lt_int h)
def Jd(u:_i s.heap x xs rs)(v:_i s.heap y ys rs')(hl:xs.length=ys.length)(I:rs.length=rs'.length)(f:_y rs)(z:xs=ys->rs=rs')(h:Q (_T.aL xs ys) s):Tc (model prog w) A (keyLt' (tuples' true) x y) Q E s:=by
 let{a,o,B,C,n,rfl,F,J,G,q,r}:=u;let{K,M,d,i,N,rfl,j,H,p,b,c}:=v;apply kat_lt F G j p;have e:decide ((B++C).toArray.size<(d++i).toArray.size)=false:=by have O:=q.length;have P:=b.length;have R:=r.length;have S:=c.length;simp;ext
 rw[e];simpa using M5 r c f 0 q b hl z h
theorem pM{R:Tu->List V}:∀{b:List (Tu×List Int)},(∀q∈b,_i h (.ref q.1) q.2 (R q.1)/\0<q.2.length)->∃fs,KatTups h (b.map λq=>S5.ref q.1) fs/\fs.length=b.length/\∀f∈fs,∃i t,f=S5.int i t
 |[],_=>{[],trivial,rfl,λf c=>absurd c Q7}
 |q::b,d=>by
  let{{a,o,F,G,n,p,v,x,y,j,_},B}:=d q QO;cases p;let{fs,k,l,e}:=pM λu C=>d u (QM _ C);revert B;generalize H:q.2=I at j;cases j with
  |nil=>exact λh=>absurd h Xs
  |cons i t r=>exact λ_=>{.int i t::fs,.cons v x y rfl k,by rw[QP,QP,l],λf c=>(Xi c).elim (λz=>{(i),t,z}) (e f)}
def sZ{R:Tu->List V}{M:Nat}{a:Tu}{d:List (Tu×List Int)}{L n:Nat}{P:Fin->S8->Prop}(hh:A.handled=none)(Y:s.heap.get? a=!(T3 "list" (d.map λq=>S5.ref q.1).toArray n))(tv:∀q∈d,_i s.heap (.ref q.1) q.2 (R q.1)/\q.1≠a)(hM:∀q∈d,(R q.1).length=M/\_y (R q.1))(hL:0<L)(tl:∀q∈d,q.2.length=L)(nd:d.Pairwise (λq r=>q.2≠r.2))(al:d.length<64) (h:∀qs:List (Tu×List Int),qs.Perm d->qs.Pairwise (λq r=>_T.aL q.2 r.2=true)->P (.done (.ret .none)) {s with heap:=VW s.heap a (d.map λq=>S5.ref q.1) (qs.map λq=>S5.ref q.1).toArray}):
 Tc (model prog w) A (Th.«list.sort» {[.ref a],[]}) P E s:=by
 generalize F:(d.map λq=>S5.ref q.1)=c at Y h⊢;have Z:c.length=d.length:=by rw[<-F,QL]
 rw[list_sort_plain];have ha:a<s.heap.objs.size:=Q5 Y;refine S4 (listItems_at Y rfl ?_);refine S4 (UK Y rfl ?_);obtain⟨e1,a0⟩:∃e1,(s.heap.update a (Obj.mapSeq λ_=> #[])).get? a=!(T3 "list" #[] e1):={_,get?_update_seq Y (λ_=> #[])}
 refine S4 (Vb a0 rfl ?_);refine S4 (VJ ?_);refine S4 (UJ ?_);refine Tf ?_;have K:(((s.heap.update a (Obj.mapSeq λ_=> #[])).push (T3 "tuple" c.toArray 0)).push (T3 "list" #[] 0)).get? a=!(T3 "list" #[] e1):=by rw[Rt _ _ _ (by rw[WD,RR];exact Q8 (RD ha)),Rt _ _ _ (by rw[RR];exact Q8 ha)];exact a0
 show Tc (model prog w) A _ P E {s with heap:=((s.heap.update a (Obj.mapSeq λ_=> #[])).push (T3 "tuple" c.toArray 0)).push (T3 "list" #[] 0)};dsimp only;have af:c.toArray.size=c.length:=by simp
 have S:∀q∈d,_i (((s.heap.update a (Obj.mapSeq λ_=> #[])).push (T3 "tuple" c.toArray 0)).push (T3 "list" #[] 0)) (.ref q.1) q.2 (R q.1):=λq W=>by let{{b,o,us,ws,n,e0,X,I,h3,h4},nb}:=tv q W;cases e0;refine{q.1,o,us,ws,n,rfl,QK _ (QK _ ?_),I,h3,h4};rw[Heap.get?_update_ne _ _ _ _ nb];exact X
 by_cases I:c.toArray.size<2
 .rw [Xf I,Xf I];refine S4 (S7 ?_);rw[StateT.run_pure];refine S4 (S7 ?_);dsimp only;refine S4 (Vb K rfl ?_);refine S4 (UK K rfl ?_ (hsz2:=by rw[Array.size_map];show(VE c).size<=_;rw[U0,Va];ext));simp only[bne_self_eq_false,R5,if_false];refine S7 ?_;have e:((c.toArray.zip c.toArray).map (·.2))=c.toArray:=by apply Array.toList_inj.mp;rw[Array.toList_map,Array.toList_zip];exact List.map_snd_zip (Xm _)
  have one:d.Pairwise (λq r=>_T.aL q.2 r.2=true):=by
   rw[af,Z]at I;cases d with
   |nil=>exact .nil
   |cons q r=>cases r with
    |nil=>exact List.pairwise_singleton _ _
    |cons a b=>exact absurd I eq
  have:=h d (List.Perm.refl _) one;rw[F,<-e]at this;exact this
 .rw [Xe I,Xe I];let{fs,k,l,e}:=pM λq W=>{S q W,by rw[tl q W];exact hL}
  rw[F]at k;have a5:2<=c.length:=by ext
  refine S4 (kat_kind k Xu (T:=.type "int") (λf hf=>?_) Xs ?_);.let{i,t,rfl}:=e f hf;exact Xd
  have O:∀i,i<c.length->∃q,d[i]? =!q/\c.getD i S5.none=.ref q.1/\(d.map (·.2)).getD i []=q.2/\q∈d:=λi J=>by
   have u:i<d.length:=(by ext);refine{d[i],QV u,?_,?_,List.getElem_mem u};.simp [<-F,u]
   .simp [u]
  let lt:Nat->Nat->Bool:=λi j=>_T.aL ((d.map (·.2)).getD i []) ((d.map (·.2)).getD j []);refine S4 (Tp (kat_run (Q:=λv s'=>∃p:Array Nat,(XB c.length p/\Up lt p c.length)/\arrOf v=p.map (kas_item (c.toArray.zip c.toArray))/\failedOf v=none/\s'={s with heap:=((s.heap.update a (Obj.mapSeq λ_=> #[])).push (T3 "tuple" c.toArray 0)).push (T3 "list" #[] 0)})
   (G:=λp s'=>(XB c.length p/\Up lt p c.length)/\s'={s with heap:=((s.heap.update a (Obj.mapSeq λ_=> #[])).push (T3 "tuple" c.toArray 0)).push (T3 "list" #[] 0)}) rfl a5 Xu (λp v s' a1 a2 a3 a4=>{(p),a4.1,a2,a3,a4.2}) ?_) ?_ λ_ _ e=>e)
  .refine Go.wp (N:=c.length) (lt:=lt) (λi j J hj C hC=>?_) (λp hp=>{(hp),rfl}) (Fy Xu (λi j k=>gP) (λi j J hj U=>ji ?_) a5)
   .let{q,B,e1,e2,m1}:=O i J;let{r,x,e3,e4,m2}:=O j hj;show Tc (model prog w) A (keyLt' (tuples' true) (c.getD i S5.none) (c.getD j S5.none)) C _ _;rw[e1,e3];refine Jd (S q m1) (S r m2) (by rw[tl q m1,tl r m2]) (by rw[(hM q m1).1,(hM r m2).1]) (hM q m1).2 (λz=>?_) ?_
    .let{u1,B}:=Xj B;let{u2,x}:=Xj x;rcases Nat.lt_trichotomy i j with y|y|y
     .have:=List.pairwise_iff_getElem.mp nd i j u1 u2 y;rw[B,x]at this;exact absurd z this
     .subst y;rw[B]at x;rw[x]
     .have:=List.pairwise_iff_getElem.mp nd j i u2 u1 y;rw[B,x]at this;exact absurd z.symm this
    have:lt i j=_T.aL q.2 r.2:=(by show _T.aL _ _=_;rw[e2,e4]);rw[<-this];exact hC
   .let{q,B,_,e2,_}:=O i J;let{r,x,_,e4,_}:=O j hj;rw[e2,e4];have B:=Xj B;have x:=Xj x;let{u1,B}:=B;let{u2,x}:=x;rcases Nat.lt_or_gt_of_ne U with z|z
    .have:=List.pairwise_iff_getElem.mp nd i j u1 u2 z;rw[B,x]at this;exact this
    .have:=List.pairwise_iff_getElem.mp nd j i u2 u1 z;rw[B,x]at this;exact this.symm
  .rintro⟨⟨⟩,v⟩ s' ⟨p,⟨hp,up⟩,ag,hf,rfl⟩;dsimp only;have a9:(arrOf v).map (·.2)=List.toArray (p.toList.map λi=>c.getD i S5.none):=kat_snds rfl ag;have an:=hp.size;have H:∀i∈p.toList,i<d.length:=λi J=>by have:=(Array.perm_iff_toList_perm.mp hp).mem_iff.mp J;have:=List.mem_range.mp (~~~this);ext
   let g:Nat->Tu×List Int:=λi=>d.getD i (0,[]);have W:(p.toList.map λi=>c.getD i S5.none)=(p.toList.map g).map λq=>S5.ref q.1:=(by rw[Rb];refine RJ λi J=>?_;have:=H i J;simp[g,<-F,this]);have ab:(p.toList.map g).Perm d:=(by have X:=(Array.perm_iff_toList_perm.mp hp).map g;have h3:((List.range c.length).map g)=d:=(by refine List.ext_getElem (by simp[Z]) λi X I=>?_;simp[g,I]);simp only[List.toList_toArray]at X;rw[h3]at X;exact X);have ad:(p.toList.map g).Pairwise (λq r=>_T.aL q.2 r.2=true):=by
    rw[List.pairwise_iff_getElem];intro i j J hj U;have u:i<p.size:= ~~~J;have ak:j<p.size:= ~~~hj;have:=up i j U Xu;have gi:∀k (hk:k<p.size),p.getD k 0=p[k]:=λk hk=>by simp[Array.getD,hk]
    rw[gi i u,gi j ak]at this;have ki:=H p[i] eq;have kj:=H p[j] eq;simpa[lt,g,ki,kj]using this
   refine S4 (Vb K rfl ?_);rw[a9,W];refine S4 (UK K rfl ?_ (hsz2:=by rw[Q2,QL,ab.length_eq,Va];ext));rw[show failedOf v=none from hf];simp only[bne_self_eq_false,R5,if_false];exact S7 (h _ ab ad)
def yM{R:Tu->List V}(v:A.handled=none)(hl:s.heap.IsList l (ps.map λq=>S5.ref q.1).toArray)(x:∀q∈ps,_i s.heap (.ref q.1) q.2 (R q.1))(y:∀q∈ps,(R q.1).length=M/\_y (R q.1))(z:0<L)(B:∀q∈ps,q.2.length=L)(nd:ps.Pairwise (λq r=>q.2≠r.2))(j:ps.length<64) (h:∀f:List (Tu×List Int),f.Perm ps->f.Pairwise (λq r=>_T.aL q.2 r.2=true)->Q (.ref (s.heap.objs.size+1)) {s with heap:=sortedAll s.heap (ps.map λq=>S5.ref q.1) (f.map λq=>S5.ref q.1).toArray}):
 Tc (model prog w) A (call (.builtin "sorted") [.ref l]) Q E s:=by
 apply Calls.call_function_entry Wf V0 V1 (V2 _);refine S4 (S7 ?_);refine S4 (collect_list hl ?_);refine S4 (UJ ?_);generalize p:(ps.map λq=>S5.ref q.1)=d at hl h⊢;have a:((s.heap.push (T3 "list" #[] 0)).update s.heap.objs.size (Obj.mapSeq (· ++d.toArray))).objs.size=s.heap.objs.size+1:=by rw[RR,WD]
 have i:(((s.heap.push (T3 "list" #[] 0)).update s.heap.objs.size (Obj.mapSeq (· ++d.toArray))).push (T3 "list" d.toArray 0)).get? (s.heap.objs.size+1)=!(T3 "list" d.toArray 0):=by rw[<-a];exact QR _ rfl
 have keep:∀b o,s.heap.get? b=!o->(((s.heap.push (T3 "list" #[] 0)).update s.heap.objs.size (Obj.mapSeq (· ++d.toArray))).push (T3 "list" d.toArray 0)).get? b=!o:=λb o q=>by have c:=Q5 q;rw[Rt _ _ _ (by rw[a];exact Q8 (RD c)),Heap.get?_update_ne _ _ _ _ (Q8 c),Rt _ _ _ (Q8 c)];exact q
 rw[a];subst p;refine S4 (Tf (Tw VF {_,i,rfl} Vu (sZ v i (λq C=>?_) y z B nd j λf F G=>{_,rfl,?_}) (VG _)));.let{b,o,H,I,n,J,u,K,N,O}:=x q C;cases J;refine{{q.1,o,H,I,n,rfl,keep _ _ u,K,N,O},λe=>?_};rw[e]at u;exact absurd (Q5 u) eq
 .exact S7 {_,rfl,h f F G}
end
def SN:Nat:=64
def Je:List V->Hp->VK->Prop:=λd H Q=>∃(p:Tu) (a:List (Tu×List Int)) (R:Tu->List V) (L M:Nat),d= [.ref p]/\H p=!(.lst (a.map λq=>.ref q.1))/\(∀q∈a,H q.1=!(.tup (q.2.map V.int++R q.1))/\(R q.1).length=M/\_y (R q.1))/\0<L/\(∀q∈a,q.2.length=L)/\a.Pairwise (λq r=>q.2≠r.2)/\a.length<SN/\
 ∀(D:Tu) (b:Hp) (c:List (Tu×List Int)),H D=none->dA H b->b D=!(.lst (c.map λq=>.ref q.1))->c.Perm a->c.Pairwise (λq r=>_T.aL q.2 r.2=true)->Q (.ref D) b
def AT:List V->Hp->VK->Prop:=λd H Q=>∃(p:Tu) (a:List (Tu×List Int)) (L:Nat),d= [.ref p]/\H p=!(.lst (a.map λq=>.ref q.1))/\(∀q∈a,H q.1=!(.tup (q.2.map V.int)))/\0<L/\(∀q∈a,q.2.length=L)/\a.Pairwise (λq r=>q.2≠r.2)/\a.length<SN/\
 ∀(D:Tu) (b:Hp) (c:List (Tu×List Int)),H D=none->dA H b->b D=!(.lst (c.map λq=>.ref q.1))->c.Perm a->c.Pairwise (λq r=>_T.aL q.2 r.2=true)->Q (.ref D) b
theorem xm:∀{a:List (Tu×List Int)} {us:List S5},eC (a.map λq=>V.ref q.1) us->us=a.map λq=>S5.ref q.1
 |[],_,.nil=>rfl
 |q::a,_,.cons h r=>by cases h;rw[xm r];rfl
theorem uI:∀{xs c:List V} {us:List S5},eC (xs++c) us->∃a b,us=a++b/\eC xs a/\eC c b
 |[],_,us,h=>{[],us,rfl,.nil,h}
 |x::xs,_,_,.cons h r=>by let{a,b,rfl,d,e}:=uI r;exact{_,_,rfl,.cons h d,e}
theorem sA:∀(a:List (Tu×List Int)),eC (a.map λq=>V.ref q.1) (a.map λq=>S5.ref q.1)
 |[]=>.nil
 |q::a=>.cons rfl (sA a)
def uJ(hc:X.calm=true):bH X (.builtin "sorted") Je:=by
 intro W s σ H Y v Q I r h;let{p,i,R,L,M,rfl,x,ty,y,z,nd,c,q}:=h;let{u,rfl,A}:=d6 r;cases A;let{B,C,pl,j}:=I.list (ip.of x);have E:=xm C;subst E;have F:∀q∈i,_i s.heap (.ref q.1) q.2 (R q.1):=λq d=>by
  let{_,v,G,o,e1,e2,n,e3,_}:=(I.hok q.1 _ (ty q d).1)
  let{J,K,rfl,N,O}:=uI G;exact{q.1,o,J,K,n,rfl,e1,e2,e3,j0 N,O}
 refine yM (I.ok.hd hc) pl.isList F (λq d=>(ty q d).2) y z nd c λf a P=>?_;let{e,S}:=sortedAll_at s.heap (i.map λq=>S5.ref q.1) (f.map λq=>S5.ref q.1).toArray;have fr:=I.hok.fresh (R0 _);have T:=a.length_eq;have U:=I.laid (o:=.lst (f.map λq=>.ref q.1)) (t':=s.toks) (λb u e=>sortedAll_old e) (R0 _) ({by rw[QL,T];rw[QL]at j;exact j,_,e,sA f,S});exact{.ref (s.heap.objs.size+1),_,U,rfl,q _ _ _ fr (aU fr _) aA a P}
def lJ(hc:X.calm=true):bH X (.builtin "sorted") AT:=by intro a s σ H f b Q I r h;let{p,c,L,rfl,d,ty,h}:=h;exact uJ hc a s σ H _ b Q I r {p,c,λ_=>[],L,0,rfl,d,λq e=>{by rw[Rf];exact ty q e,rfl,λ_ z=>absurd z Q7},h}
end _L
theorem _L.Z7{b:Bool}{p:Bool->Prop}:(∃c,_L.V.bl b=_L.V.bl c/\p c)=p b:=propext {λ⟨_,e,h⟩=>(_L.V.bl.inj e)▸h,λh=>{_,rfl,h}}
theorem _L.Z5{b:Int}{p:Int->Prop}:(∃c,_L.V.int b=_L.V.int c/\p c)=p b:=propext {λ⟨_,e,h⟩=>(_L.V.int.inj e)▸h,λh=>{_,rfl,h}}
theorem _L.Zn{b:Int}{α:Sort _}{p:Int->α->Prop}:(∃c x,_L.V.int b=_L.V.int c/\p c x)=∃x,p b x:=propext {λ⟨_,x,e,h⟩=>{x,(_L.V.int.inj e)▸h},λ⟨x,h⟩=>{_,x,rfl,h}}
theorem _L._k{b:Tu}{p:Tu->Prop}:(∃c,_L.V.ref b=_L.V.ref c/\p c)=p b:=propext {λ⟨_,e,h⟩=>(_L.V.ref.inj e)▸h,λh=>{_,rfl,h}}
theorem _L.Zd{b:Tu}{α:Sort _}{p:Tu->α->Prop}:(∃c x,_L.V.ref b=_L.V.ref c/\p c x)=∃x,p b x:=propext {λ⟨_,x,e,h⟩=>{x,(_L.V.ref.inj e)▸h},λ⟨x,h⟩=>{_,x,rfl,h}}
theorem _L.Zh{b:Tu}{α β:Sort _}{p:Tu->α->β->Prop}:(∃c x y,_L.V.ref b=_L.V.ref c/\p c x y)=∃x y,p b x y:=propext {λ⟨_,x,y,e,h⟩=>{x,y,(_L.V.ref.inj e)▸h},λ⟨x,y,h⟩=>{_,x,y,rfl,h}}
theorem _L.Zm{b:Tu}{α β γ:Sort _}{p:Tu->α->β->γ->Prop}:(∃c x y z,_L.V.ref b=_L.V.ref c/\p c x y z)=∃x y z,p b x y z:=propext {λ⟨_,x,y,z,e,h⟩=>{x,y,z,(_L.V.ref.inj e)▸h},λ⟨x,y,z,h⟩=>{_,x,y,z,rfl,h}}
theorem _L._f{b:VA}{p:VA->Prop}:(∃c,_L.V.str b=_L.V.str c/\p c)=p b:=propext {λ⟨_,e,h⟩=>(_L.V.str.inj e)▸h,λh=>{_,rfl,h}}
theorem _L.Z6{α:Type}{b:α}{p:α->Prop}:(∃c,some b=!c/\p c)=p b:=propext {λ⟨_,e,h⟩=>(Xr e)▸h,λh=>{_,rfl,h}}
def _L._3{a b:Prop}(h:a=True):(a/\b)=b:=by rw[h,true_and]
def _L._V{a b:Prop}(h:a=False):(a/\b)=False:=by rw[h,false_and]
def _L._4{a b c d:Prop}(h:a=(c/\d)):(a/\b)=(c/\(d/\b)):=by rw[h,and_assoc]
def _L._R{a b c:Prop}(h:a=c):(a/\b)=(c/\b):=by rw[h]
open Lean Meta Simp in
simproc_decl lazyAnd (_ ∧ _) := fun e => do
  let_expr And a b := e | return .continue
  let r ← simp a
  let a' := r.expr
  if a'.isTrue then return .visit { expr := b, proof? := some (mkApp3 (mkConst ``_L._3) a b (← r.getProof)) }
  if a'.isFalse then return .done { expr := mkConst ``False, proof? := some (mkApp3 (mkConst ``_L._V) a b (← r.getProof)) }
  match_expr a' with
  | And a1 a2 => return .visit { expr := mkAnd a1 (mkAnd a2 b), proof? := some (mkApp5 (mkConst ``_L._4) a b a1 a2 (← r.getProof)) }
  | _ =>
    match r.proof? with
    | none => return .done { expr := mkAnd a' b }
    | some h => return .done { expr := mkAnd a' b, proof? := some (mkApp4 (mkConst ``_L._R) a b a' h) }
def _L._0{α:Sort _}{c a:Prop}[d:Decidable c][d':Decidable a](h:c=a)(x y:α):ite c x y=ite a x y:=by subst h;congr
open Lean Meta Simp in
simproc_decl lazyIte (ite _ _ _) := fun e => do
  let_expr ite α c d x y := e | return .continue
  let r ← simp c
  if r.expr.isTrue || r.expr.isFalse then return .continue
  if r.expr == c then return .done { expr := e }
  let d' ← synthInstance (mkApp (mkConst ``Decidable) r.expr)
  return .done { expr := mkApp5 e.consumeMData.getAppFn α r.expr d' x y, proof? := some (mkAppN (mkConst ``_L._0 e.consumeMData.getAppFn.constLevels!) #[α, c, r.expr, d, d', ← r.getProof, x, y]) }
open Lean Meta Simp in
simproc_decl lazyAll (_) := fun e => do
  if e.isForall then return .done { expr := e } else return .continue
def _L._j : String := "_L.AT _L.Iq _L.Et _L.AQ _L.pK _L.ko _L.gN _L.uC _L.Cv _L.Cw _L.IY _L.IZ _L.HO.ins.injEq _L.xg _L.I0 _L.AM _L.xc _L.Ir _L.Ep _L.AG _L.Er _L.AH _L.iL _L.tS Option.join_some _L.yF _L.tBM _L.tyV _L.yH _L.Iy _L.En _L.Eo _L.tMs _L.El _L.HZ _L.ui _L.Ea _L.yi _L.mG _L.tB _L.XJ _L.tUn _L.rU _L.eT _L.tC _L.YG _L.rI _L.uj _L.tP _L.o7 _L.kY _L.gA _L.HX _L.Eb _L.HW _L.eU _L.bI _L.j7 _L.mM _L.AB _L.pG _L.w8 _L.X7 _L.Au Option.bind_some _L.j8 _L._l _L.HQ _L.tOr _L.HR _L.HS _L.tIf _L.lE _L.Iu _L._O _L._1 _L.Fg _L.Fh _L.Fi _L.Fj _L.Fk _L.Fl _L.Fm _L.Fn _L.II _L.IJ _L.IK _L.IL _L.Fq _L.Cn _L.IM _L.MU _L.IN _L.Ei _L.IP _L.tSl _L.Ee _L.wU _L.Ej _L.iw _L.aA List.all_cons List.all_nil Bool.and_self Bool.or_false Bool.or_true Bool.false_or Bool.true_or _L.dO _T.sIx _L.yD _L.Lr _L.Ls _L.Lu _L.Lv _L.Ek _L.Lw _L.Lx _L.Lz _L.V.ty.injEq _L.IQ _L.IR _L.IS _L.IT _L.IU _L.IV _L.IW _L.mn1 List.drop_succ_cons List.drop_zero List.take_succ_cons List.take_zero Nat.reduceEqDiff not_false_eq_true _L.Eh _L.AA _L.Fo _L.Fp List.cons.injEq _L.As _L.start List.map_cons List.map_nil List.length_cons List.length_nil List.replicate List.cons_append List.nil_append List.getElem?_cons_zero List.getElem?_cons_succ List.set_cons_zero List.set_cons_succ Option.some.injEq _L.V.int.injEq _L.V.str.injEq _L.V.ref.injEq _L.V.bl.injEq _L.HO.tup.injEq _L.HO.lst.injEq _L.HO.dK.injEq reduceCtorEq exists_eq_left' exists_and_left exists_eq_left exists_eq_right _L.Ih _L.ZJ _L.Ig decide_eq_true_eq _L.fK String.reduceEq decide_true decide_false Bool.false_eq_true if_true if_false Xf and_true true_and or_false false_or or_true true_or and_false false_and exists_const exists_false Bool.not_true Bool.not_false _L.sz0 _L.sz1 _L.sz2 _L.sz3 _L.sz4 _L.sz5 _L.sz6 _L.yC _L.Eg _L.Ln _L.Lo _L.Lq Nat.reduceAdd Nat.reduceSub Nat.zero_add Nat.reduceLeDiff Int.reducePow Int.reduceToNat Int.reduceLT Int.reduceLE Int.reduceNeg _L.na2 _L.MS Nat.reducePow Nat.reduceLT"
def _L.YV : String := "exE lazyAnd reduceIte lazyIte exists_eq_left exists_eq_left' reduceIte _L.Z7 _L.Z5 _L._k _L._f _L.Z6 _L.Zn _L.Zd _L.Zh _L.Zm"
def _L._F : String := "exE exists_eq_left exists_eq_left' reduceIte _L.Z7 _L.Z5 _L._k _L._f _L.Z6 _L.Zn _L.Zd _L.Zh _L.Zm"
open Lean in
def _L.rdA : List String → Bool → Array (TSyntax ``Lean.Parser.Tactic.simpLemma) → MacroM (Array (TSyntax ``Lean.Parser.Tactic.simpLemma))
  | [], _, a => return a
  | n :: l, b, a => do
    let i := mkIdent n.toName
    _L.rdA l b (a.push (← if b then `(Lean.Parser.Tactic.simpLemma| ↓ $i:ident) else `(Lean.Parser.Tactic.simpLemma| $i:ident)))
open Lean in
def _L.YY (pre post : String) : MacroM (TSyntaxArray ``Lean.Parser.Tactic.simpLemma) := do
  _L.rdA ((_L._j ++ post).splitOn " ") false (← _L.rdA (pre.splitOn " ") true #[])
namespace _L
open PySem PySem.Spec PyProof.Rows PySem.W
section
variable{X:Cx}{k k2 n:Nat}{ps ps2:List VA}{sp sp2:Sp}{m:VA}{pos apos:Pos}{o e:Expr}{es:List Expr}{t:TA}{ta:TE}{C C2:Tu}
def lK{pl:Sem Bool}(G:Zz X.prog X.w X.K X.mg X.base k C m ps sp)(T:Zz X.prog X.w X.K X.mg X.base k2 C2 m ps2 sp2)(M:mm n X.A)(U:PE X o ta)(N:PA X (e::es) t)(hk:autoParam (k<=n) _ae)(p:autoParam (k2<=n) _ae)(hs:‹(e::es).all bz=true›)
 (W:‹eval (.Call (.Attribute o m apos) (e::es) [] pos) X.env=(do
  let O <-eval o X.env
  U9 apos.atName
  let (f,first) <-holding [O] (Ur O m pl)
  VC pos f first (Um pos (Te (e::es) X.env)) (Us pos (TW [] X.env)))›):
 PE X (.Call (.Attribute o m apos) (e::es) [] pos) (λσ H Q=>ta σ H λx b=>(∃a c fs,x=.ref a/\b a=!(.ins C c fs)/\fs.lookup m=none/\t σ b λvs H2=>sp (x::vs) H2 Q E0)\/(∃a c fs,x=.ref a/\b a=!(.ins C2 c fs)/\fs.lookup m=none/\t σ b λvs H2=>sp2 (x::vs) H2 Q E0)):=by
 let{{f,fd,P,Y,F},Z}:=G;let{{f2,a0,d,v,F2},A}:=T;intro B s σ H Q I h;refine RG (thn (U B s σ H _ I h) λu R z=>?_) W;let{x,b,j,S,q}:=z;have ap:∀(sp:Sp) y,(λvs b=>sp (y::(vs++[])) b Q E0)=λvs b=>sp (y::vs) b Q E0:=λsp y=>by funext vs b;rw[Rf]
 rcases q with ⟨a,c,fs,E,J,l,q⟩|⟨a,c,fs,E,J,l,q⟩
 .subst E;obtain rfl:u=S5.ref a:=S;rw[<-ap]at q;apply d7 j J Z P l;refine RO (first:=[.ref a]) I.ok.mod.kin P.kp (thn (N pos B R σ b _ j q) λus s2 ⟨vs,H2,i,r,K⟩=>{i.J,?_}) (dI (Xo hs).1) (dB (Xo hs).2);exact gL (dvs:=[]) (vs:=.ref a::vs) F (M.mono hk) Y .nil gF i (.cons rfl r) K
 .subst E;obtain rfl:u=S5.ref a:=S;rw[<-ap]at q;apply d7 j J A d l;refine RO (first:=[.ref a]) I.ok.mod.kin d.kp (thn (N pos B R σ b _ j q) λus s2 ⟨vs,H2,i,r,K⟩=>{i.J,?_}) (dI (Xo hs).1) (dB (Xo hs).2);exact gL (dvs:=[]) (vs:=.ref a::vs) F2 (M.mono p) v .nil gF i (.cons rfl r) K
def iA{pl:Sem Bool}(G:Zz X.prog X.w X.K X.mg X.base k C m ps sp)(K:Zz X.prog X.w X.K X.mg X.base k2 C2 m ps2 sp2)(A:mm n X.A)(M:PE X o ta)(hk:autoParam (k<=n) _ae)(j:autoParam (k2<=n) _ae)
 (N:‹eval (.Call (.Attribute o m apos) [] [] pos) X.env=(do
  let B <-eval o X.env
  U9 apos.atName
  let (f,first) <-holding [B] (Ur B m pl)
  VC pos f first (Um pos (Te [] X.env)) (Us pos (TW [] X.env)))›):
 PE X (.Call (.Attribute o m apos) [] [] pos) (λσ H Q=>ta σ H λx c=>(∃a d fs,x=.ref a/\c a=!(.ins C d fs)/\fs.lookup m=none/\sp [x] c Q E0)\/(∃a d fs,x=.ref a/\c a=!(.ins C2 d fs)/\fs.lookup m=none/\sp2 [x] c Q E0)):=by
 let{{f,T,E,O,F},P}:=G;let{{U,R,i,p,F2},r}:=K;intro S s σ H Q I h;refine RG (thn (M S s σ H _ I h) λu W z=>?_) N;let{x,c,b,J,q}:=z;rcases q with ⟨a,d,fs,v,y,l,q⟩|⟨a,d,fs,v,y,l,q⟩
 .subst v;obtain rfl:u=S5.ref a:=J;apply d7 b y P E l;exact R6 (first:=[.ref a]) b.J E.kp (gL (dvs:=[]) (us:=[.ref a]) (vs:=[.ref a]) F (A.mono hk) O .nil gF b (.cons rfl .nil) q)
 .subst v;obtain rfl:u=S5.ref a:=J;apply d7 b y r i l;exact R6 (first:=[.ref a]) b.J i.kp (gL (dvs:=[]) (us:=[.ref a]) (vs:=[.ref a]) F2 (A.mono j) p .nil gF b (.cons rfl .nil) q)
end
end _L
#print y
def wA{n:Nat}{g:TG}{u:TT}{z:TE}{A:St}{q:Hp}{Q:VK}(h:Tu->Nat->List V->St->Hp->Prop) (F:∀D a,q D=none->dA q a->a D=!(.lst [])->h D 0 [] A a) (hs:∀D i c f a,i<n->a D=!(.lst c)->c.length<=i->h D i c f a->g (.int (i:Nat)) f a λj H2=>u j H2 λb B=>if b=true then z j B λv I=>Ja ((List.range n).map λ(k:Nat)=>V.int (0+k)) D (h D) i j v I else LC ((List.range n).map λ(k:Nat)=>V.int (0+k)) D (h D) i j B) (G:∀D c f a,a D=!(.lst c)->h D n c f a->Q (.ref D) a):gG (Zk 0 n) g u z A q Q:=by
 have o:((List.range n).map λ(k:Nat)=>V.int (0+k)).length=n:=by rw[QL,RX]
 intro D C;refine{WM ((List.range n).map λ(k:Nat)=>V.int (0+k)) D (h D),{_,rfl,Ra _,[],aA,Xm _,F D _ C (aU C _) aA},?_};rintro i m f H ⟨rfl,J,c,E,K,p⟩;have O:=yG 0 n;by_cases d:i<n
 .refine .inr {O.go i _ trivial (by rw[o];exact d),λx a y=>?_};let{rfl,r}:=O.yld i _ x a trivial (by rw[o];exact d) y;have M:x=.int (i:Nat):=by rw[QY,List.getElem?_range d]at r;simp at r;exact r.symm
  rw[M];exact hs D i c f a d E K p
 .have e:i=n:=by rw[o]at J;ext
  subst e;exact .inl {O.stop _ _ trivial (by rw[o];exact Xm _),G D c f _ E p}
structure Nx(prog:S9)(w:Td)(i:Tu)(fp:List Tu)(T:Nat->Heap->Prop)(item:Nat->Option S5):Prop where
 keep:∀k h h',T k h->(∀b,b=i\/b∈fp->∀o,h.get? b=!o->h'.get? b=!o)->T k h'
 obj:∀k h,T k h->∃o,h.get? i=!o/\(∀v,o.data≠.cell v)/\o.cls≠.type "StopIteration"
 next:∀(A:Tj) k x s (Q:S5->S8->Prop) (E:S5->S8->Prop),T k s.heap->item k=!x->(∀h',T (k+1) h'->Heap.SameBut i s.heap h'->Q x {s with heap:=h'})->Tc (model prog w) A (Th.SmallTypes.nextOf (.ref i)) Q E s
 done:∀(A:Tj) k s (Q:S5->S8->Prop) (E:S5->S8->Prop),A.handled=none->T k s.heap->item k=none->(∀h' e,Heap.ExtBut i s.heap h'->(∃o,h'.get? e=!o/\o.cls=.type "StopIteration")->E (.ref e) {s with heap:=h'})->Tc (model prog w) A (Th.SmallTypes.nextOf (.ref i)) Q E s
#print d
def FA(i l:Tu)(xs:Array S5)(ne:l≠i):Nx prog w i [l] (λk h=>h.IsListIter i l k/\h.IsList l xs) (λk=>xs[k]?) where
 keep:=λk h p ⟨j,f⟩ r=>{j.at λo e=>r i (.inl rfl) o e,f.at λo e=>r l (.inr eq) o e}
 obj:=λk h y=>by let{{o,e,c,d},_}:=y;exact{o,e,λv z=>(by rw[d]at z;cases z),λz=>(by rw[c]at z;simp at z)}
 next:=λA k x s Q E ⟨j,f⟩ n q=>wpAny_nextOf_list_item j f n λp a b=>q p {a,f.extBut b.extBut ne} b
 done:=λA k s Q E u ⟨j,f⟩ n q=>wpAny_nextOf_list_end u j f n q
def oE(i l:Tu)(xs:Array S5)(ne:l≠i):Nx prog w i [l] (λk h=>h.IsTupleIter i l k/\h.IsTuple l xs) (λk=>xs[k]?) where
 keep:=λk h N u H=>by let{{o,e,r},{p,e2,K}}:=u;exact{{o,H i (.inl rfl) o e,r},{p,H l (.inr eq) p e2,K}}
 obj:=λk h y=>by let{{o,e,c,d},_}:=y;exact{o,e,λv z=>(by rw[d]at z;cases z),λz=>(by rw[c]at z;simp at z)}
 next:=λA k x s Q E ⟨f,B⟩ C q=>by let{o,b,hc,a}:=id f;let{p,j,G,M,n}:=id B;refine S4 (TH f.typeIs F.slot_tuple_iterator_next (Tw F.slot_tuple_iterator_next f.typeIs F.entry_tuple_iterator_next ?_ (F.args_tuple_iterator_next_1 _)));show Tc _ _ (field (.ref i) 0 >>= _) _ _ _;refine S4 (To b a rfl ?_);refine S4 (To b a rfl ?_);refine S4 (Tv j n ?_);simp only[Int.toNat_natCast,C];have I:=Heap.SameBut.update s.heap i (Obj.mapFields (·.setIfInBounds 1 (VO ((k:Int)+1))));refine S4 (wpAny_setField b a eq (S7 {x,rfl,S7 (q _ {?_,B.extBut I.extBut ne} I)}));exact{_,Heap.get?_update_self _ b (Obj.isFreed_of_fields (Obj.data_mapFields a _)),(Obj.cls_mapFields ..).trans hc,by rw[Obj.data_mapFields a];simp[VO]}
 done := fun A k s Q E J ⟨f, B⟩ C q => by
   let{o,b,hc,a}:=id f;let{p,j,G,M,n}:=id B;refine S4 (TH f.typeIs F.slot_tuple_iterator_next (Tw F.slot_tuple_iterator_next f.typeIs F.entry_tuple_iterator_next ?_ (F.args_tuple_iterator_next_1 _)));show Tc _ _ (field (.ref i) 0 >>= _) _ _ _;refine S4 (To b a rfl ?_);refine S4 (To b a rfl ?_);refine S4 (Tv j n ?_);simp only[Int.toNat_natCast,C];refine S4 (UL (S4 (wpAny_setField b a eq ?_)));apply S4;refine S4 (TL ?_ (by size_fits));refine S4 (UP (by first|rfl|(simp only[firstArgMember];rfl)) ?_);refine TL ?_ (by size_fits);refine S4 (wpAny_handled ?_)
   first|rw[show A.in1.handled=none from J]|rw[J]
   refine S4 (S7 (wpAny_throw ?_));exact q _ _ (((Heap.SameBut.update ..).extBut.push _).push _) {_,QR _ rfl,rfl}
structure ZA(z TI TO i j:Tu)(f1 f2:List Tu):Prop where
 tz:TI≠z
 oz:TO≠z
 iz:i≠z
 jz:j≠z
 to:TI≠TO
 ti:TI≠i
 tj:TI≠j
 oi:TO≠i
 oj:TO≠j
 ij:i≠j
 a1:∀b∈f1,b≠z/\b≠TO/\b≠i/\b≠j
 a2:∀b∈f2,b≠z/\b≠TO/\b≠i/\b≠j
#print n
def FB(D:ZA z TI TO i j f1 f2)(G:Nx prog w i f1 T1 e1)(H:Nx prog w j f2 T2 e2)(h:Xb s.heap z TI TO .none)(K:U4 s.heap TI (.ref i) (.ref j))(M:U4 s.heap TO a b) (t1:T1 k s.heap) (t2:T2 k s.heap) (hx:e1 k=!x) (hy:e2 k=!y) (hQ:∀h',Xb h' z TI TO (VO s.heap.objs.size)->U4 h' TO x y->T1 (k+1) h'->T2 (k+1) h'->U4 h' s.heap.objs.size x y->h'.objs.size=s.heap.objs.size+1->(∀c o,c≠z->c≠TO->c≠i->c≠j->s.heap.get? c=!o->h'.get? c=!o)->Q (!(.ref s.heap.objs.size)) {s with heap:=h'}):
 Tc (model prog w) A (Vq (.ref z)) Q E s:=by
 have hT:s.TypeIs (.ref z) "zip":={_,h,rfl}
 unfold Vq;refine S4 (Vc (TH hT F.slot_zip_next (Tw F.slot_zip_next hT F.entry_zip_next ?_ (F.args_zip_next_1 _))));show Tc _ _ (field (.ref z) 2 >>= _) _ _ _;refine S4 (To h rfl (x:=.bool false) rfl ?_);show Tc _ _ (field (.ref z) 3 >>= _) _ _ _;refine S4 (To h rfl rfl ?_);refine S4 (Tv K rfl ?_);show Tc _ _ (Th.SmallTypes.ownedTupleIsFree (.ref z) >>= _) _ _ _;apply S4;refine S4 (To h rfl rfl (S7 ?_));refine S4 (UL ?_);refine S4 (To h rfl rfl ?_);refine S4 (TN h eq λg1 z1 r=>?_);apply S4;simp only[List.zipIdx_cons,List.zipIdx_nil,Sa,Sk];refine S4 (S4 (Vd ?_));have N:T1 k g1:=G.keep k _ _ t1 λb d o e=>r.extBut _ _ (d.elim (λq=>q▸D.iz) λq=>(D.a1 b q).1) e;refine S4 (G.next _ k x _ _ _ N hx λg2 O u=>S7 ?_);have o2:U4 g2 TO a b:=u.extBut _ _ D.oi (r.extBut _ _ D.oz M);refine S4 (Tv o2 rfl ?_);refine S4 (UH o2 λg3 o3 v=>?_);refine S4 (Wj (S7 ?_));refine S4 (S4 (Vd ?_));have P:T2 k g3:=H.keep k _ _ t2 λb d o e=>by
  have n:b≠z/\b≠TO/\b≠i:=d.elim (λq=>q▸{(D.jz),D.oj.symm,D.ij.symm}) λq=>{(D.a2 b q).1,(D.a2 b q).2.1,(D.a2 b q).2.2.1}
  exact v.extBut _ _ n.2.1 (u.extBut _ _ n.2.2 (r.extBut _ _ n.1 e))
 refine S4 (H.next _ k y _ _ _ P hy λg4 R B=>S7 ?_);have o4:=B.extBut _ _ D.oj o3;refine S4 (Tv o4 rfl ?_);refine S4 (UH o4 λp I C=>?_);replace I:U4 p TO x y:=I;refine S4 (Wj (S7 (S7 ?_)));refine S4 (Tv I rfl ?_);refine S4 (VJ ?_);have sz:p.objs.size=s.heap.objs.size:=by rw[C.1,B.1,v.1,u.1,r.1]
 have z5:=C.extBut _ _ D.oz.symm (B.extBut _ _ D.jz.symm (v.extBut _ _ D.oz.symm (u.extBut _ _ D.iz.symm z1)));have k5:∀c o,c≠z->c≠TO->c≠i->c≠j->s.heap.get? c=!o->p.get? c=!o:=λc o f J S T e=>C.extBut _ _ J (B.extBut _ _ T (v.extBut _ _ J (u.extBut _ _ S (r.extBut _ _ f e))));have U:=G.keep _ _ _ O λb d o e=>by
  have n:b≠TO/\b≠j:=d.elim (λq=>q▸{(D.oi.symm),D.ij}) λq=>{(D.a1 b q).2.1,(D.a1 b q).2.2.2}
  exact C.extBut _ _ n.1 (B.extBut _ _ n.2 (v.extBut _ _ n.1 e))
 have W:=H.keep _ _ _ R λb d o e=>C.extBut _ _ (d.elim (λq=>q▸D.oj.symm) λq=>(D.a2 b q).2.1) e;have zl:=Q5 z5;apply S4;have z6:Xb (p.push {cls:=.type "tuple",data:=.seq #[x,y]}) z TI TO .ellipsis:=QK _ z5;refine S4 (TN z6 eq λg7 z7 X=>?_);refine TN z7 eq λY z8 Z=>?_;have up:∀c o,c≠z->p.get? c=!o->Y.get? c=!o:=λc o f e=>Z.extBut _ _ f (X.extBut _ _ f (QK _ e));have p8:=Z.extBut _ _ (Ri zl) (X.extBut _ _ (Ri zl) (QR _ rfl));have q8:Y.objs.size=p.objs.size+1:=by rw[Z.1,X.1,RC]
 rw[sz]at z8 p8 q8;refine S7 {_,rfl,S7 ?_};rw[sz];exact hQ Y z8 (up _ _ D.oz I) (G.keep _ _ _ U λb d o e=>up b o (d.elim (λq=>q▸D.iz) λq=>(D.a1 b q).1) e) (H.keep _ _ _ W λb d o e=>up b o (d.elim (λq=>q▸D.jz) λq=>(D.a2 b q).1) e) p8 q8 λc o f J S T e=>up c o f (k5 c o f J S T e)
def Jf(S:A.handled=none)(D:ZA z TI TO i j f1 f2)(H:Nx prog w i f1 T1 e1)(T:Nx prog w j f2 T2 e2)(r:Xb s.heap z TI TO .none)(I:U4 s.heap TI (.ref i) (.ref j))(J:U4 s.heap TO a b) (t1:T1 k s.heap) (t2:T2 k s.heap) (v:e1 k=none\/e2 k=none) (hQ:∀h',(∀c o,c≠z->c≠TO->c≠i->c≠j->s.heap.get? c=!o->h'.get? c=!o)->Q none {s with heap:=h'}):Tc (model prog w) A (Vq (.ref z)) Q E s:=by
 have U:s.TypeIs (.ref z) "zip":={_,r,rfl}
 have fin:∀h' e,(∀c o,c≠z->c≠TO->c≠i->c≠j->s.heap.get? c=!o->h'.get? c=!o)->(∃o,h'.get? e=!o/\o.cls=.type "StopIteration")->Tc (model prog w) A (do if <-WE (.ref e) (.type "StopIteration")then pure none else throw (.ref e)) Q E {s with heap:=h'}:=λh' e hk y=>by let{o,ho,hc}:=y;exact S4 (wpAny_isInstance {(o),ho,hc} isSubtype_stop (S7 (hQ _ hk)))
 refine S4 (Vc (TH U F.slot_zip_next (Tw F.slot_zip_next U F.entry_zip_next ?_ (F.args_zip_next_1 _))));show Tc _ _ (field (.ref z) 2 >>= _) _ _ _;refine S4 (To r rfl (x:=.bool false) rfl ?_);refine S4 (To r rfl rfl ?_);refine S4 (Tv I rfl ?_);apply S4;refine S4 (To r rfl rfl (S7 ?_));refine S4 (UL ?_);refine S4 (To r rfl rfl ?_);refine S4 (TN r eq λg1 W B=>?_);apply S4;simp only[List.zipIdx_cons,List.zipIdx_nil,Sa,Sk];refine S4 (S4 (Vd ?_));have C:=H.keep k _ _ t1 λb K o e=>B.extBut _ _ (K.elim (λq=>q▸D.iz) λq=>(D.a1 b q).1) e;cases M:e1 k with
 |none=>
  refine S4 (H.done _ k _ _ _ S C M λg2 e p y=>?_);let{N,d,f}:=y;have X:=p _ _ D.iz.symm W;have O:e≠z:=λq=>by subst q;rw[X]at d;cases d;simp at f
  exact TN X eq λY _ u=>fin Y e (λc o G _ P _ q=>u.extBut _ _ G (p _ _ P (B.extBut _ _ G q))) {N,u.extBut _ _ O d,f}
 |some x=>
  have hy:e2 k=none:=by rcases v with h|h;(rw[M]at h;cases h);exact h
  refine S4 (H.next _ k x _ _ _ C M λg2 a0 p=>S7 ?_);have Z:=p.extBut _ _ D.oi (B.extBut _ _ D.oz J);refine S4 (Tv Z rfl ?_);refine S4 (UH Z λY o3 u=>?_);refine S4 (Wj (S7 ?_));refine S4 (S4 (Vd ?_));have R:=T.keep k _ _ t2 λb K o e=>by
   have n:b≠z/\b≠TO/\b≠i:=K.elim (λq=>q▸{(D.jz),D.oj.symm,D.ij.symm}) λq=>{(D.a2 b q).1,(D.a2 b q).2.1,(D.a2 b q).2.2.1}
   exact u.extBut _ _ n.2.1 (p.extBut _ _ n.2.2 (B.extBut _ _ n.1 e))
  refine S4 (T.done _ k _ _ _ S R hy λg4 e s4 y=>?_);let{N,d,f}:=y;have z4:=s4 _ _ D.jz.symm (u.extBut _ _ D.oz.symm (p.extBut _ _ D.iz.symm W));have O:e≠z:=λq=>by subst q;rw[z4]at d;cases d;simp at f
  exact TN z4 eq λg5 _ s5=>fin g5 e (λc o G c2 P c4 q=>s5.extBut _ _ G (s4 _ _ c4 (u.extBut _ _ c2 (p.extBut _ _ P (B.extBut _ _ G q))))) {N,s5.extBut _ _ O d,f}
abbrev zG(h:Heap)(a b:Obj):Heap:=((((h.push a).push b).push {cls:=.type "tuple",data:=.seq #[.ref h.objs.size,.ref (h.push a).objs.size]}).push {cls:=.type "tuple",data:=.seq #[.none,.none]}).push {cls:=.type "zip",data:=.fields #[.none,.bool false,.bool false,.ref ((h.push a).push b).objs.size,.ref (((h.push a).push b).push {cls:=.type "tuple",data:=.seq #[.ref h.objs.size,.ref (h.push a).objs.size]}).objs.size]}
abbrev zA(h:Heap)(a b:Obj):Tu:=((((h.push a).push b).push {cls:=.type "tuple",data:=.seq #[.ref h.objs.size,.ref (h.push a).objs.size]}).push {cls:=.type "tuple",data:=.seq #[.none,.none]}).objs.size
abbrev zO (n : String) (l : Tu) : Obj := { cls := .type n, data := .fields #[.ref l, .int 0 0] }
def pN(h:Heap)(a b:Obj)(f1:a.isFreed=false)(f2:b.isFreed=false):Xb (zG h a b) (h.objs.size+4) (h.objs.size+2) (h.objs.size+3) .none/\U4 (zG h a b) (h.objs.size+2) (.ref h.objs.size) (.ref (h.objs.size+1))/\U4 (zG h a b) (h.objs.size+3) .none .none/\(zG h a b).get? h.objs.size=!a/\(zG h a b).get? (h.objs.size+1)=!b/\(zG h a b).objs.size=h.objs.size+5/\∀c o,h.get? c=!o->(zG h a b).get? c=!o:=by
 have d:(h.push a).objs.size=h.objs.size+1:=RC ..;have f:((h.push a).push b).objs.size=h.objs.size+2:=by rw[RC,d]
 have n:(((h.push a).push b).push {cls:=.type "tuple",data:=.seq #[.ref h.objs.size,.ref (h.push a).objs.size]}).objs.size=h.objs.size+3:=by rw[RC,f]
 have p:((((h.push a).push b).push {cls:=.type "tuple",data:=.seq #[.ref h.objs.size,.ref (h.push a).objs.size]}).push {cls:=.type "tuple",data:=.seq #[.none,.none]}).objs.size=h.objs.size+4:=by rw[RC,n]
 refine{?_,?_,?_,?_,?_,by rw[RC,p],λc o e=>QK _ (QK _ (QK _ (QK _ (QK _ e))))};.have g:(zG h a b).get? _=!_:=QR _ rfl;rw[p,f,n]at g;exact g
 .have g:(zG h a b).get? _=!_:=QK _ (QK _ (QR ((h.push a).push b) (o:={cls:=.type "tuple",data:=.seq #[.ref h.objs.size,.ref (h.push a).objs.size]}) rfl));rw[f,d]at g;exact g
 .have g:(zG h a b).get? _=!_:=QK _ (QR (((h.push a).push b).push {cls:=.type "tuple",data:=.seq #[.ref h.objs.size,.ref (h.push a).objs.size]}) (o:={cls:=.type "tuple",data:=.seq #[.none,.none]}) rfl);rw[n]at g;exact g
 .exact QK _ (QK _ (QK _ (QK _ (QR _ f1))))
 .have g:(zG h a b).get? _=!_:=QK _ (QK _ (QK _ (QR (h.push a) f2)));rw[d]at g;exact g
def uK(a b:Tu)(xs o:Array S5):Meets (Th.«zip.__new__» {[.type "zip",.ref a,.ref b],[]}) (λ_ R s=>s.heap.IsTuple a xs/\s.heap.IsList b o/\R (.ok (.ret (.ref (zA s.heap (zO "tuple_iterator" a) (zO "list_iterator" b))))) {s with heap:=zG s.heap (zO "tuple_iterator" a) (zO "list_iterator" b)}):=
 .of_wp λprog w A R s h=>by
  let{q,g,d,r,u}:=s;let{c,e,h}:=h;have p:=sub_zip;have f:=c;have n:Heap.IsList (S8.heap ⟨q.push (zO "tuple_iterator" a),g,d,r,u⟩) b o:=Heap.IsList.push e _
  wp_walk using T0 f,Uj n
  exact{_,rfl,h}
theorem Eu(h:Heap)(a b:Obj):zA h a b=h.objs.size+4:=by simp_all
def wB(a:s.heap.IsTuple l1 xs)(b:s.heap.IsList l2 ys)(h:Q (.ref (s.heap.objs.size+4)) {s with heap:=zG s.heap (zO "tuple_iterator" l1) (zO "list_iterator" l2)}):
 Tc (model prog w) A (call (.type "zip") [.ref l1,.ref l2]) Q E s:=by
 refine callType_new F.called_zip Xs (F.typeCall_zip_2 _ _) (F.newCall_zip_2 _ _) (λc=>F.args_object_init_3 c _ _) F.entry_zip_new (uK l1 l2 xs ys) {a,b,?_};have g:=(pN s.heap (zO "tuple_iterator" l1) (zO "list_iterator" l2) rfl rfl).1;rw[Eu];exact{{_,g,rfl},h}
end
def cY{a b:Nat}(h:a<b\/b<a):a≠b:=by ext
def Jg(n a b:Nat)(d:a<n)(e:b<n):ZA (n+4) (n+2) (n+3) n (n+1) [a] [b]:=by
 have o:∀l:Nat,l<n->l≠n+4/\l≠n+3/\l≠n/\l≠n+1:=λl h=>{cY Xu,cY Xu,cY Xu,cY Xu}
 exact{cY (.inl Xu),cY (.inl Xu),cY (.inl Xu),cY (.inl Xu),cY (.inl Xu),cY (.inr Xu),cY (.inr Xu),cY (.inr Xu),cY (.inr Xu),cY (.inl Xu),λc hc=>by rw[Xh hc];exact o a d,λc hc=>by rw[Xh hc];exact o b e}
section
variable{prog:S9}{w:Td}{A:Tj}{E:S5->S8->Prop}{s:S8}{x y:VA}{t u:Tok}{Q:S5->S8->Prop}
end
def Ew:List V->Hp->VK->Prop:=λc H Q=>∃l b,c= [.ref l]/\H l=!(.lst b)/\∀p a,H p=none->dA H a->a p=!(.tup b)->Q (.ref p) a
def fu{X:Cx}:bH X (.type "tuple") Ew:=by
 intro v s σ H x y Q I r h;let{l,i,rfl,hl,q}:=h;let{u,rfl,j}:=d6 r;cases j;let{c,d,pl,n}:=I.list (ip.of hl);have le:c.length<=S6:=by have:=d.length;ext
 refine call_tuple_list pl.isList (λh' hk=>?_) (~~~le);have f:=I.kept (t':=s.toks) hk;have fr:H h'.objs.size=none:=f.hok.fresh (Xm _);have p:=f.laid (a:=h'.objs.size) (o:=.tup i) (t':=s.toks) (h':=h'.push {cls:=.type "tuple",data:=.seq c.toArray}) (λb u e=>QK _ e) (Xm _) {n,c,d,{_,QR _ rfl,rfl,_,{(rfl),rfl}}};exact{.ref h'.objs.size,_,p,rfl,q _ _ fr (aU fr _) aA}
def KD(P:S9)(w:Td)(K:RP)(a:Tu)(kvs:List (hH×V)):Prop:=∃(o:Obj) (b:List (hH×S5)),K.lookup a=!o/\(a==TK)=false/\KV kvs b/\∀h:Heap,h.get? a=!o->h.DictOf (aF P w) a b
section
variable{X:Cx}{i o:Expr}{ty:TE}{pos:Pos}{a:Tu}{kvs:List (hH×V)}
def CB(n:KD X.prog X.w X.K a kvs)(p:PE X o (tC (.ref a)))(q:PE X i ty)(hs:Ca i):PE X (.Subscript o i pos) (λσ H Q=>ty σ H λy H2=>∃k v,dL y=!k/\bc kvs k=!v/\Q v H2):=by let{r,O,A,P,B,C}:=n;intro d s σ H Q I h;refine wZ PySem.F.slot_dict_getitem.lookup hs (thn (p d s σ H (λx b=>x=.ref a/\ty σ b λy H2=>∃k v,dL y=!k/\bc kvs k=!v/\Q v H2) I {(rfl),h}) λu E ⟨x,b,F,G,J,K⟩=>thn (q d E σ b _ F K) λR S z=>?_);let{y,H2,e,f,k,v,M,ev,N}:=z;subst J;obtain rfl:u=S5.ref a:=G;have j:=C _ (e.J a r A);let{T,hw,c}:=si.some_of (by rw[<-ev];exact B.val k);rw[j6 M]at f;exact{j.typeIs,wpAny_getItem_of (gC f) j.mapOf hw {v,H2,e.tok _,c,N}}
def FC(e:KD X.prog X.w X.K a kvs)(f:PE X i ty)(j:PE X o (tC (.ref a))):PC X .In i o (λσ H Q=>ty σ H λy H2=>∃k,dL y=!k/\Q (.bl (bc kvs k).isSome) H2):=by let{n,N,p,q,r,v}:=e;intro b s σ H Q I h;refine thn (f b s σ H _ I h) λO A ⟨y,B,C,c,k,E,F⟩=>thn (j b A σ B (λx H2=>x=.ref a/\Q (.bl (bc kvs k).isSome) H2) C {(rfl),F}) λu P z=>?_;let{x,H2,d,G,J,K}:=z;subst J;obtain rfl:u=S5.ref a:=G;have M:=v _ (d.J a n p);rw[j6 E]at c;apply wpAny_in_of (gC c) q M.mapOf;rw[<-(r.val k).ai];exact{.bl _,H2,d.tok _,rfl,K}
end
#print l
end
section
variable{X:Cx}{scope:UQ}{cl:List (VA×Tu)}{N:List VA}{C:Tu}{fp:List Tu}{s₀:S8}{H₀:Hp}{Xg:List (Tu×Obj)}{σ:St}{H:Hp}{s:S8}
end
#print f
end
#print h
end
section
variable{prog:S9}{w:Td}{A:Tj}{E:S5->S8->Prop}{s:S8}{z TI TO i j:Tu}{f2:List Tu}{T2:Nat->Heap->Prop}{e2:Nat->Option S5}
end
#print e
end
def DV(p d:Tu):HO:=.ext λh=>h.IsValuesView p d
def AU(e:TE):TE:=λσ H Q=>e σ H λx a=>∃d b,x=.ref d/\a d=!(.dK b)/\∀p c,a p=none->dA a c->c p=!(DV p d)->Q (.ref p) c
def CC{X:Cx}{l:Expr}{u:TE}{a c:Pos}(hl:PE X l u)(f:‹TF l "values" X.env (eval l X.env)=eval l X.env›)(i:‹(a.endLine==c.line)=true›):
 PE X (.Call (.Attribute l "values" a) [] [] c) (AU u):=by
 intro C s σ H Q I h;refine TU f i (thn (hl C s σ H _ I h) λv j y=>?_);let{x,E,n,F,d,G,e,A,q}:=y;subst e;cases F;let{O,J,K,M,p}:=gD n.hok A;let{B,N}:=iI (T:="dict") n (show hB (.ref d) (.ref d)from rfl) (.inr (.inr (.inl {rfl,.inl {_,A}})));refine{"dict","dict.values",TJ,T6,U7,B,N,Calls.callWith_builtin rfl (T7 ?_)};refine Uq T6 B UY (US _) (meets_dict_values (aF X.prog X.w) d J) {{(K),p},?_};have fr:=n.hok.fresh (Xm j.heap.objs.size);refine{.ref j.heap.objs.size,jl E j.heap.objs.size (DV j.heap.objs.size d),n.laid (t':=j.toks) (λb o q=>QK _ q) (Xm _) {{_,QR _ rfl,rfl,rfl},{_,QR _ rfl},λg P z k=>by let{o,e,r}:=z;exact{o,k o e,r}},rfl,q _ _ fr (aU fr _) aA}
#print e
end
def Ex:V->List V->Hp->VK->Prop:=λx b H Q=>∃l c,x=.ref l/\b= []/\H l=!(.lst c)/\∀a,Mu H l (.lst []) a->Q .non a
def jj{X:Cx}:Zw X "list.clear" Ex:=by intro i s σ H x j v o Q I d f h;let{l,p,rfl,rfl,c,q}:=h;cases d;have a:=f.zero;subst a;let{z,b,n,r,hl,e}:=I.av c;refine Uk F.slot_list_clear {_,e,rfl} F.entry_list_clear (F.args_list_clear_1 _) (AutoSeq1.list_clear_list_0 l b.toArray n (by rw[Q2];ext)) {e,?_};exact{.non,_,I.bc (its':=[]) c e rfl .nil (Ra _),rfl,q _ .mk'}
end _L
theorem _L._G{a b:_L.TS}{D σ H}(h:let T:=b;_L.ui a T D σ H):_L.ui a b D σ H:=h
theorem _L.hRet{a D σ H}(h:_L.uj a D σ H):_L.uj a D σ H:=h
theorem _L.hIf{a b c D σ H}(h:_L.yi a b c D σ H):_L.yi a b c D σ H:=h
theorem _L.hFor{a b c D σ H}(h:_L.yn a b c D σ H):_L.yn a b c D σ H:=h
theorem _L.hDrop{a D σ H}(h:_L.o7 a D σ H):_L.o7 a D σ H:=h
theorem _L.hAsg{a b D σ H}(h:_L.kY a b D σ H):_L.kY a b D σ H:=h
def _L.xL0{H:_L.Hp}{a:Tu}{b:List _L.V}{R:List _L.V->Prop}(h:H a=!(.lst b)):(∃v,H a=!(.lst v)/\R v)=R b:=propext {λe=>by let{v,e,r}:=e;rw[h]at e;cases e;exact r,λr=>{(b),h,r}}
def _L.xT0{H:_L.Hp}{a:Tu}{b:List _L.V}{R:List _L.V->Prop}(h:H a=!(.tup b)):(∃v,H a=!(.tup v)/\R v)=R b:=propext {λe=>by let{v,e,r}:=e;rw[h]at e;cases e;exact r,λr=>{(b),h,r}}
def _L.xD0{H:_L.Hp}{a:Tu}{b:List (_L.hH×_L.V)}{R:List (_L.hH×_L.V)->Prop}(h:H a=!(.dK b)):(∃v,H a=!(.dK v)/\R v)=R b:=propext {λe=>by let{v,e,r}:=e;rw[h]at e;cases e;exact r,λr=>{(b),h,r}}
def _L.xI0{H:_L.Hp}{a:Tu}{C b:Tu}{c:List (VA×_L.V)}{R:Tu->List (VA×_L.V)->Prop}(h:H a=!(.ins C b c)):(∃d f,H a=!(.ins C d f)/\R d f)=R b c:=propext {λe=>by let{d,f,e,r}:=e;rw[h]at e;cases e;exact r,λr=>{(b),c,h,r}}
def _L.xI1{H:_L.Hp}{a:Tu}{j:Sort _}{C c:Tu}{i:List (VA×_L.V)}{R:Tu->List (VA×_L.V)->j->Prop}(h:H a=!(.ins C c i)):(∃d f b,H a=!(.ins C d f)/\R d f b)=∃b,R c i b:=propext {λe=>by let{d,f,b,e,r}:=e;rw[h]at e;cases e;exact{(b),r},λe=>by let{b,r}:=e;exact{(c),i,b,h,r}}
def _L.xE1{H:_L.Hp}{a:Tu}{d:Sort _}{c:List _L.V}{R:List _L.V->d->Prop}(h:H a=!(.tup c)):(∃v b,(H a=!(.tup v)\/H a=!(.lst v))/\R v b)=∃b,R c b:=propext {λe=>by let{v,b,e,r}:=e;rw[h]at e;rcases e with e|e<;>cases e;exact{(b),r},λe=>by let{b,r}:=e;exact{c,b,.inl h,r}}
def _L.xF1{H:_L.Hp}{a:Tu}{d:Sort _}{c:List _L.V}{R:List _L.V->d->Prop}(h:H a=!(.lst c)):(∃v b,(H a=!(.tup v)\/H a=!(.lst v))/\R v b)=∃b,R c b:=propext {λe=>by let{v,b,e,r}:=e;rw[h]at e;rcases e with e|e<;>cases e;exact{(b),r},λe=>by let{b,r}:=e;exact{c,b,.inr h,r}}
def _L.Ze : String := "exE lazyAnd reduceIte lazyIte exHq exists_eq_left exists_eq_left' reduceIte _L.Z7 _L.Z5 _L._k _L._f _L.Z6 _L.Zn _L.Zd _L.Zh _L.Zm"
@[elab_as_elim] theorem _L.len1 {α:Type} {p:List α->Prop} (us:List α) (hl:us.length=1) (h:∀a,p [a]):p us:=
 match us,hl with
 |[a],_=>h a
@[elab_as_elim] theorem _L._S {α:Type} {p:List α->Prop} (us:List α) (hl:us.length=2) (h:∀a b,p [a,b]):p us:=
 match us,hl with
 |[a,b],_=>h a b
@[elab_as_elim] theorem _L._8 {α:Type} {p:List α->Prop} (us:List α) (hl:us.length=3) (h:∀a b c,p [a,b,c]):p us:=
 match us,hl with
 |[a,b,c],_=>h a b c
@[elab_as_elim] theorem _L.len4 {α:Type} {p:List α->Prop} (us:List α) (hl:us.length=4) (h:∀a b c d,p [a,b,c,d]):p us:=
 match us,hl with
 |[a,b,c,d],_=>h a b c d
@[elab_as_elim] theorem _L.len5 {α:Type} {p:List α->Prop} (us:List α) (hl:us.length=5) (h:∀a b c d e,p [a,b,c,d,e]):p us:=
 match us,hl with
 |[a,b,c,d,e],_=>h a b c d e
theorem _L.hFld{C f a b D σ H}(h:_L.ko C f a b D σ H):_L.ko C f a b D σ H:=h
theorem _L.hRetN{D σ H}(h:_L.tP D σ H):_L.tP D σ H:=h
namespace _L
open PySem
def Ev(t:TE)(σ:St)(H:Hp)(v:V):Prop:=∀Q:VK,t σ H Q=Q v H
def _b(t:TA)(σ:St)(H:Hp)(v:List V):Prop:=∀Q,t σ H Q=Q v H
section
variable{σ:St}{H:Hp}{t u:TE}{b d:Tu}{l:List (VA×V)}{v x y:V}{i j:Int}{xs:List V}{k:TA}{Q:VK}{D:hX}
def evV(σ:St)(H:Hp)(i:Nat)(v:V)(s:σ[i]? =!(!v)):Ev (eT i) σ H v:=λQ=>by refine propext {?_,λq=>{(v),s,q}};rintro⟨x,e,q⟩;rw[s]at e;cases e;exact q
def evC(σ:St)(H:Hp)(v:V):Ev (tC v) σ H v:=λ_=>rfl
def evF(C:Tu)(f:VA)(a:Ev t σ H (.ref b))(h:H b=!(.ins C d l))(e:l.lookup f=!v):Ev (pK C f t) σ H v:=λQ=>by unfold pK;rw[a];refine propext {?_,λr=>{_,_,_,_,rfl,h,e,r}};rintro⟨c,_,_,_,e1,e2,e3,r⟩;cases e1;rw[h]at e2;cases e2;rw[e]at e3;cases e3;exact r
def evE(a:Ev t σ H x)(c:Ev u σ H y)(s:hY x y=true):Ev (XJ _O t u) σ H (.bl (decide (x=y))):=λQ=>by unfold XJ _O;rw[a,c];exact propext {λq=>q.2,λq=>{(s),q}}
def evN(a:Ev t σ H x)(c:Ev u σ H y)(s:hY x y=true):Ev (XJ _1 t u) σ H (.bl ((not (decide (x=y))))):=λQ=>by unfold XJ _1;rw[a,c];exact propext {λq=>q.2,λq=>{(s),q}}
def evI(g:Int->Int->V)(a:Ev t σ H (.int i))(c:Ev u σ H (.int j)):Ev (XJ (YG g) t u) σ H (g i j):=λQ=>by unfold XJ YG;rw[a,c];refine propext {?_,λr=>{_,_,rfl,rfl,r}};rintro⟨_,_,e1,e2,r⟩;cases e1;cases e2;exact r
def evX(h:H b=!(.tup xs)\/H b=!(.lst xs))(a:Ev t σ H (.ref b))(c:Ev u σ H (.int i))(e:NB xs i=!v):Ev (XJ lE t u) σ H v:=λQ=>by
 unfold XJ lE;rw[a,c];refine propext {?_,λr=>{_,_,_,_,rfl,rfl,h,e,r}};rintro⟨_,_,n,_,e1,e2,e3,f,r⟩;cases e1;cases e2;have:xs=n:=by rcases h with h|h<;>(rw[h]at e3;rcases e3 with e3|e3<;>cases e3;rfl)
 subst this;rw[e]at f;cases f;exact r
def M6(h:H b=!(.tup xs))(a:Ev t σ H (.ref b))(c:Ev u σ H (.int i))(e:NB xs i=!v):Ev (XJ lE t u) σ H v:=evX (.inl h) a c e
def M7(h:H b=!(.lst xs))(a:Ev t σ H (.ref b))(c:Ev u σ H (.int i))(e:NB xs i=!v):Ev (XJ lE t u) σ H v:=evX (.inr h) a c e
def M8(σ:St)(H:Hp):_b eU σ H []:=λ_=>rfl
theorem M9(a:Ev t σ H x)(c:_b k σ H xs):_b (bI t k) σ H (x::xs):=λQ=>by unfold bI;rw[a,c]
def Na(C:Tu)(m:VA)(sp:Sp)(Q:VK)(a:Ev t σ H (.ref b))(h:H b=!(.ins C d l))(e:l.lookup m=none)(c:_b k σ H xs):gN C m sp t k σ H Q=sp (.ref b::xs) H Q E0:=by unfold gN;rw[a];refine propext {?_,λr=>{_,_,_,rfl,h,e,by rw[c];exact r}};rintro⟨_,_,_,e1,e2,e3,r⟩;cases e1;rw[c]at r;exact r
def Nb(C:Tu)(m:VA)(sp:Sp)(k:TA)(Q:VK)(a:Ev t σ H (.ref b))(h:H b=!(.ins C d l))(e:l.lookup m=none):gN C m sp t k σ H Q=k σ H λvs H2=>sp (.ref b::vs) H2 Q E0:=by unfold gN;rw[a];refine propext {?_,λr=>{_,_,_,rfl,h,e,r}};rintro⟨_,_,_,e1,e2,e3,r⟩;cases e1;exact r
def evD(sp:Sp)(Q:VK)(c:_b k σ H xs):j8 sp k σ H Q=sp xs H Q E0:=c _
def evT(c:Bool)(R:Bool->Hp->Prop)(a:Ev t σ H (.bl c)):mG t σ H R=R c H:=by unfold mG;rw[a];refine propext {?_,λq=>{_,rfl,q}};rintro⟨_,e,q⟩;cases e;exact q
def Nc(Q:VK)(c:_b k σ H xs)(n:xs.length<=S6):j7 k σ H Q=∀p a,H p=none->dA H a->a p=!(.tup xs)->Q (.ref p) a:=by unfold j7;rw[c];exact propext {λq=>q.2,λq=>{(n),q}}
def Nd(Q:VK)(c:_b k σ H xs)(n:xs.length<=S6):mM k σ H Q=∀p a,H p=none->dA H a->a p=!(.lst xs)->Q (.ref p) a:=by unfold mM;rw[c];exact propext {λq=>q.2,λq=>{(n),q}}
def evS(C:Tu)(f:VA)(D:hX)(a:Ev t σ H (.ref b))(c:Ev u σ H v)(h:H b=!(.ins C d l))(n:l.length<1000):ko C f t u D σ H=∀e,Mu H b (.ins C d (bX f v l)) e->D.nx σ e:=by unfold ko;rw[c,a];refine propext {?_,λr=>{_,_,_,rfl,h,n,r}};rintro⟨_,_,_,e1,e2,e3,r⟩;cases e1;rw[h]at e2;cases e2;exact r
def Nf(Q:VK)(a:Ev t σ H (.ref b))(c:Ev u σ H y)(h:H b=!(.lst xs)):pG t u σ H Q=(xs.length<S6/\∀e,Mu H b (.lst (xs++[y])) e->Q .non e):=by unfold pG;rw[a];refine propext {?_,λr=>{_,_,rfl,h,by rw[c];exact{_,h,r}}};rintro⟨_,_,e1,e2,r⟩;cases e1;rw[c]at r;let{_,e3,r}:=r;rw[h]at e3;cases e3;exact r
end
end _L
open Lean Meta Simp in
def _L.ZX (p : Expr) : MetaM Expr := return (← instantiateMVars (← inferType p)).appArg!.headBeta
open Lean Meta Simp in
def _L.zfi (x : Expr) : List (Option LocalDecl) → MetaM Expr
  | [] => failure
  | d :: r => do
    if let some d := d then
      let t ← instantiateMVars d.type
      if t.isAppOf ``Eq && t.appFn!.appArg! == x && t.appArg!.isApp then return d.toExpr
    _L.zfi x r
open Lean Meta Simp in
def _L._H (H p : Expr) : MetaM Expr := do
  _L.zfi (.app H (← _L.ZX p).appArg!) (← getLCtx).decls.toList
open Lean Meta Simp in
def _L.zsi (n : Name) (a : Array Expr) : SimpM Expr := do (← simp (← mkAppM n a)).getProof
open Lean Meta Simp in
def _L.zfd (f h : Expr) : SimpM Expr := do _L.zsi ``List.lookup #[f, (← _L.ZX h).appArg!.appArg!]
open Lean Meta Simp in
def _L.zls (n : Name) (p m : Expr) : SimpM Expr := do mkOfEqTrue (← _L.zsi n #[← mkAppM ``List.length #[p], m])
open Lean Meta Simp in
def _L.ev (s H t : Expr) : Nat → SimpM Expr
  | 0 => failure
  | n + 1 => do
    let .app g x := t | failure
    if t.isAppOf `_L.eT then
      let v ← whnfD (← whnfD (← mkAppM ``GetElem?.getElem? #[s, x])).appArg!
      return ← mkAppM `_L.evV #[s, H, x, v.appArg!, ← mkEqRefl (← mkAppM ``Option.some #[v])]
    if t.isAppOf `_L.tC then return ← mkAppM `_L.evC #[s, H, x]
    if t.isAppOf `_L.pK then
      let p ← _L.ev s H x n
      let h ← _L._H H p
      let f := g.appArg!
      return ← mkAppM `_L.evF #[g.appFn!.appArg!, f, p, h, ← _L.zfd f h]
    unless t.isAppOf `_L.XJ do failure
    let p ← _L.ev s H g.appArg! n
    let q ← _L.ev s H x n
    let o := g.appFn!.appArg!
    if o.isAppOf `_L.YG then return ← mkAppM `_L.evI #[o.appArg!, p, q]
    if o.isAppOf `_L.lE then
      let h ← _L._H H p
      let l := (← _L.ZX h).appArg!
      return ← mkAppM (if l.isAppOf `_L.HO.tup then `_L.M6 else `_L.M7) #[h, p, q, ← _L.zsi `_L.NB #[l.appArg!, (← _L.ZX q).appArg!]]
    mkAppM (if o.isConstOf `_L._O then `_L.evE else if o.isConstOf `_L._1 then `_L.evN else .anonymous) #[p, q, ← mkEqRefl (mkConst ``true)]
open Lean Meta Simp in
def _L._I (s H t : Expr) : Nat → SimpM Expr
  | 0 => failure
  | n + 1 => do
    if t.isConstOf `_L.eU then return ← mkAppM `_L.M8 #[s, H]
    unless t.isAppOf `_L.bI do failure
    mkAppM `_L.M9 #[← _L.ev s H t.appFn!.appArg! 9, ← _L._I s H t.appArg! n]
open Lean Meta Simp in
def _L.evR (e : Expr) (c : Name) : SimpM Expr := do
  let Q := e.appArg!
  let H := e.appFn!.appArg!
  let s := e.appFn!.appFn!.appArg!
  let t := e.appFn!.appFn!.appFn!
  let .app n x := t | failure
  if c == `_L.mG then
    let p ← _L.ev s H x 9
    return ← mkAppM `_L.evT #[(← _L.ZX p).appArg!, Q, p]
  if c == `_L.j8 then return ← mkAppM `_L.evD #[n.appArg!, Q, ← _L._I s H x 30]
  if c == `_L.bI then return .app (← _L._I s H t 30) Q
  if c == `_L.j7 || c == `_L.mM then
    let p ← _L._I s H x 30
    return ← mkAppM (if c == `_L.j7 then `_L.Nc else `_L.Nd) #[Q, p, ← _L.zls ``LE.le (← _L.ZX p) (mkConst `PySem.sizeLine)]
  if c == `_L.gN then
    let m := n.appFn!
    let f := m.appFn!.appArg!
    let C := m.appFn!.appFn!.appArg!
    let p ← _L.ev s H n.appArg! 9
    let h ← _L._H H p
    let r ← _L.zfd f h
    try mkAppM `_L.Na #[C, f, m.appArg!, Q, p, h, r, ← _L._I s H x 30]
    catch _ => mkAppM `_L.Nb #[C, f, m.appArg!, x, Q, p, h, r]
  else if c == `_L.pG then
    let q ← _L.ev s H x 9
    let p ← _L.ev s H n.appArg! 9
    mkAppM `_L.Nf #[Q, p, q, ← _L._H H p]
  else return .app (← _L.ev s H t 9) Q
open Lean Meta Simp in
def _L.evP (e : Expr) : SimpM Expr := do
  let H := e.appArg!
  let s := e.appFn!.appArg!
  let t := e.appFn!.appFn!.appFn!
  let m := t.appFn!.appFn!
  let q ← _L.ev s H t.appArg! 9
  let p ← _L.ev s H t.appFn!.appArg! 9
  let h ← _L._H H p
  mkAppM `_L.evS #[m.appFn!.appArg!, m.appArg!, e.appFn!.appFn!.appArg!, p, q, h, ← _L.zls ``LT.lt (← _L.ZX h).appArg!.appArg! (mkNatLit 1000)]
open Lean Meta Simp in
simproc_decl exE (_) := fun e => do
  let some c := e.getAppFn.constName? | return .continue
  unless c.getPrefix == `_L && e.getAppNumArgs > 3 do return .continue
  try
    let p ← if c == `_L.ko then _L.evP e else _L.evR e c
    return .visit { expr := (← _L.ZX p), proof? := some p }
  catch _ => return .continue
open Lean Meta Simp in
def _L.exB:Nat->Expr->Expr
 |n+1,e=>if e.isAppOf ``Exists&&e.appArg!.isLambda then _L.exB n e.appArg!.bindingBody! else e
 |_,e=>e
open Lean Meta Simp in
def _L.exA (e h : Expr) (n : Name) : MetaM Step := do
  let c ← mkConstWithFreshMVarLevels n
  let (m, _, t) ← forallMetaTelescope (← inferType c)
  let_expr Eq _ a b := t | failure
  unless ← withReducible (isDefEq a e) do failure
  unless ← isDefEq m.back! h do failure
  return .visit { expr := (← instantiateMVars b).headBeta, proof? := some (← instantiateMVars (mkAppN c m)) }
open Lean Meta Simp in
simproc_decl exHq (Exists _) := fun e => do
  let_expr And A _ := _L.exB 99 e | return .continue
  let X := if A.isAppOf ``Or then A.appFn!.appArg! else A
  let_expr Eq _ l _ := X | return .continue
  try
    if l.hasLooseBVars then failure
    let h ← _L.zfi l (← getLCtx).decls.toList
    [`_L.xL0, `_L.xL1, `_L.xT0, `_L.xT1, `_L.xD0, `_L.xI0, `_L.xI1, `_L.xE1, `_L.xF1].firstM fun n => _L.exA e h n
  catch _ => return .continue
#print y
end _L
namespace _L
open PySem PySem.Calls PySem.Spec PyProof.Rows
#print d
end
#print b
end
#print d
end
#print b
end
end _L
#print y
def Ey:List V->Hp->VK->Prop:=λb H Q=>∃p a,b= [.ref p]/\(H p=!(.tup a)\/H p=!(.lst a))/\Q (.int a.length) H
def sB{X:Cx}:bH X (.builtin "len") Ey:=by
 intro b s σ H c d Q I r h;let{p,f,e,a,q}:=h;refine cF b s σ H c d Q I r {p,f,e,?_,q};rcases a with a|a
 .exact .inr (qu.of a)
 .exact .inl (ip.of a)
end _L
namespace _L
open PySem
end _L
#print y
section
variable{X:Cx}{o e f:Expr}{ty tx:TE}{apos cpos:Pos}{a:Tu}{kvs:List (hH×V)}
end
#print b
end
section
variable{prog:S9}{w:Td}{A:Tj}{E:S5->S8->Prop}
end
open AutoSeq1 renaming wpAny_loadPart'→RQ
#print d
end
end _L
#print y
#print d
end
section
variable{M:Model}{A:Tj}{E:S5->S8->Prop}{s:S8}{env:Env}
end
#print d
end
def met{K:Type}[DecidableEq K](val:Nat->K):Nat->K->Bool
 |0,_=>false
 |i+1,k=>met val i k || decide (k=val i)
section
variable{prog:S9}{w:Td}{A:Tj}{R:W7->S8->Prop}{I:Tu}{fp wr:List Tu}{G:Array Wb->Array Wb->Prop}{n:Nat}{P:Nat->S5->Prop}{St:Nat->S8->Prop}{K:Type}[DecidableEq K]{knd:VQ prog w K}
end
section
variable{prog:S9}{w:Td}{A:Tj}{E:S5->S8->Prop}{s:S8}{K:Type}[DecidableEq K]{knd:VQ prog w K}
end
#print b
end
section
variable{X:Cx}{a:Expr}{ta:TE}{pos:Pos}
end
section
variable{prog:S9}{w:Td}{K:Type}[DecidableEq K]{knd:HeapKind prog w K}{A:Tj}{E:S5->S8->Prop}{s:S8}
end
section
variable{X:Cx}{Xg:List (Tu×Obj)}{σ:St}{H:Hp}{s:S8}{a b:Tu}{v:V}{r:S5}{A:Tj}{E:S5->S8->Prop}{kvs:List (List hH×V)}{k:List hH}
end
#print i
end
end _L
namespace _L
open PySem PySem.W
theorem ov:Slot "type" "__getattribute__" "type.__getattribute__":=
 Slot.of (owner:="type") (n:="__getattribute__") (by rw[typeLookup_type];rfl) Xs Xs Xs (Or.inl Xs) (by rw[isSubtype_type];rfl) Xs
def tm:entryFor table "type.__getattribute__" =some PySem.Builtin.«type.__getattribute__»:=entryFor_of_tree rfl
def uL:Ux (.type "type") "__init__" =pure (!(.builtin "type.__init__")):=by rfl
def Jh(X:K.In s.heap)(ty:UR K (.ref C)=!(.type "type"))(op:nsIn K Ve "thirdparty.any" =!none)(a:Tt K (.ref C) "__init__" =!(!(.ref f)))(b:isFn K (.ref f)=true)(q:Q (.done (.ret (.ref f))) s):Tc (model prog w) A (PySem.Builtin.«type.__getattribute__» {pos:=[.ref C,.str "__init__" tk]}) Q E s:=by
 refine S4 (UP rfl ?_);refine S4 (looks_opaque X op A _ E s (λ_ _ h=>h) ?_);refine S4 (Vv X ty A _ E s (λ_ _ h=>h) ?_);refine S4 (UP uL ?_);refine S4 (Vw X (r:=!(.builtin "wrapper_descriptor.__get__")) rfl A _ E s (λ_ _ h=>h) ?_);refine S4 (Vw X rfl A _ E s (λ_ _ h=>h) ?_);refine S4 (Vw X rfl A _ E s (λ_ _ h=>h) ?_);refine S4 (S7 ?_);refine S4 (looks_findIn X a A _ E s (λ_ _ h=>h) ?_);have c:UR K (.ref f)=!(.type "function"):=by exact eq_of_beq b
 refine S4 (Vv X c A _ E s (λ_ _ h=>h) ?_);apply VL rfl;exact S7 q
def wC(X:K.In s.heap)(ty:UR K (.ref C)=!(.type "type"))(op:nsIn K Ve "thirdparty.any" =!none)(a:Tt K (.ref C) "__init__" =!(!(.ref f)))(b:isFn K (.ref f)=true)(q:∀tk,Q (.ref f) {s with toks:=tk}):
 Tc (model prog w) A (W4 (.ref C) "__init__") Q E s:=by
 refine S4 (S4 (wpAny_fresh' (S7 ?_)));apply Tf;refine S4 (Vv X ty A _ E _ (λ_ _ h=>h) ?_);refine S4 (UP ov.lookup ?_);apply Ug rfl;refine S4 (Ug rfl (S7 ?_));refine S4 (Vc (Tf ?_));apply Ug rfl;refine S4 (UP (ov.bind _) ?_);refine WA (codeAny_call_builtin ov.plain tm ?_);refine ov.check (model prog w) A.in1 _ _ (.ref C) [.str "__init__" s.toks] [] _ ?_ ?_ ?_
 .have ty:(List.lookup C K).map (·.cls)=!(.type "type"):=ty;cases e:List.lookup C K with
  |none=>simp_all
  |some o=>rw[e]at ty;exact{o,X _ _ e,Xr ty}
 .exact(rfl)
 .refine Jh X ty op a b ?_;exact S7 (q _)
def tq(X:K.In s.heap)(ty:UR K (.ref C)=!(.type "type"))(op:nsIn K Ve "thirdparty.any" =!none)(a:Tt K (.ref C) "__init__" =!(!(.ref f)))(b:isFn K (.ref f)=true)(q:∀tk,Q (.ref f,[]) {s with toks:=tk}):
 Tc (model prog w) A (Ur (.ref C) "__init__" pl) Q E s:=by
 refine S4 (S4 (Vv X ty A _ E _ (λ_ _ h=>h) (UP ov.lookup ?_)));apply VL rfl;exact S4 (wC X ty op a b λtk=>S7 (q tk))
structure OkI(P:S9)(w:Td)(K:Frag)(mg:VA->Option S5)(base:Heap)(n:Nat)(x:VA)(ps:List VA)(sp:Sp):Prop where
 ex:∃C f fd,mg x=!(.ref C)/\UR K (.ref C)=!(.type "type")/\nsIn K Ve "thirdparty.any" =!none/\oq K C "__init__" f/\ri K fd ps []/\fh P w K mg base Yb n f fd ps sp
def FD{p a pos:Pos}{pl:Sem Bool}(G:OkI X.prog X.w X.K X.mg X.base k x ps sp)(o:mm n X.A)(q:Gl X x)(u:PA X (e::es) t)(hk:autoParam (k<=n) _ae)(b:((x==("__debug__":VA))=false)⁻¹)(hs:‹(e::es).all bz=true›)
 (v:‹eval (.Call (.Attribute (.Name x p) "__init__" a) (e::es) [] pos) X.env=(do
  let c <-eval (.Name x p) X.env
  U9 a.atName
  let (f,first) <-holding [c] (Ur c "__init__" pl)
  VC pos f first (Um pos (Te (e::es) X.env)) (Us pos (TW [] X.env)))›):PE X (.Call (.Attribute (.Name x p) "__init__" a) (e::es) [] pos) (j8 sp t):=by
 let{C,f,J,y,ty,op,M,z,F}:=G.ex;intro d s σ H Q I h;refine RG (jD I q y ?_ b) v;refine tq I.J ty op M.at_ M.fn λi=>?_;have A:dN X d σ H {s with toks:=i}:=I.tok i;refine RO (first:=[]) I.ok.mod.kin M.kp (thn (u pos d _ σ H _ A h) λK N ⟨B,O,j,r,E⟩=>{j.J,?_}) (dI (Xo hs).1) (dB (Xo hs).2);have e:=Rf B;exact gL F (o.mono hk) z .nil gF j r (e.symm▸E)
end _L
#print y
#print d
abbrev CD(h:Heap)(z TI TO p:Tu)(b:Bool):Prop:=h.get? z=some {cls:=.type "zip",data:=.fields #[VO p,.bool b,.bool false,.ref TI,.ref TO]}
def CF(h:s.heap.get? a=!o)(q:Q (!o) s):Tc M A (loadIfAlive a) Q E s:=λΓ p b=>by unfold loadIfAlive;rw[Sem.wp_loadIfAlive,h];exact S7 q Γ p b
#print n
def FE(a:CD s.heap z TI TO p bb)(b:s.heap.get? p=!o)(q:∀h',CD h' z TI TO p true->Heap.SameBut z s.heap h'->Q false {s with heap:=h'}):Tc (model prog w) A (Th.SmallTypes.ownedTupleIsFree (.ref z)) Q E s:=by
 refine S4 (To a rfl rfl ?_);refine S4 (CF b ?_);apply Ug rfl;refine S4 (To a rfl rfl ?_);cases bb with
 |true=>refine Ug rfl (S7 ?_);exact q s.heap a {rfl,λ_ _=>rfl}
 |false=>apply VL rfl;refine S4 (TN a eq λc d e=>S7 ?_);exact q c d e
def Ji{k:Nat}{p:Tu}{v:Bool}{op:Obj}{Q:Option S5->S8->Prop}(y:A.handled=none)(D:ZA z TI TO i j f1 f2)(n:Nx prog w i f1 T1 e1)(a:CD s.heap z TI TO p v)(B:s.heap.get? p=!op)(d:U4 s.heap TI (.ref i) (.ref j)) (C:T1 k s.heap) (G:e1 k=none) (H:∀h',(∀c o,c≠z->c≠i->c≠j->s.heap.get? c=!o->h'.get? c=!o)->Q none {s with heap:=h'}):Tc (model prog w) A (Vq (.ref z)) Q E s:=by
 have r:s.TypeIs (.ref z) "zip":={_,a,rfl}
 have fin:∀h' e,(∀c o,c≠z->c≠i->c≠j->s.heap.get? c=!o->h'.get? c=!o)->(∃o,h'.get? e=!o/\o.cls=.type "StopIteration")->Tc (model prog w) A (do if <-WE (.ref e) (.type "StopIteration")then pure none else throw (.ref e)) Q E {s with heap:=h'}:=λh' e hk f=>by let{o,I,hc}:=f;exact S4 (wpAny_isInstance (T:="StopIteration") (b:=true) {(o),I,hc} isSubtype_stop (S7 (H _ hk)))
 unfold Vq;refine S4 (Vc (TH (name:=VA.ofString "__next__") r F.slot_zip_next (Tw F.slot_zip_next r F.entry_zip_next ?_ (F.args_zip_next_1 _))));show Tc _ _ (field (.ref z) 2 >>= _) _ _ _;refine S4 (To a rfl (x:=.bool false) rfl ?_);show Tc _ _ (field (.ref z) 3 >>= _) _ _ _;refine S4 (To a rfl (x:=.ref TI) rfl ?_);refine S4 (Tv d rfl ?_);show Tc _ _ (Th.SmallTypes.ownedTupleIsFree (.ref z) >>= _) _ _ _;refine S4 (FE a B λJ R u=>?_);refine Ug rfl ?_;refine S4 ?_;simp only[List.forIn_toArray,Sa,Sk];refine S4 (S4 (Tf ?_));show Tc _ _ (Th.SmallTypes.nextOf (.ref i) >>= _) _ _ _;have h:T1 k J:=n.keep k _ _ C λb K o e=>u.extBut _ _ (K.elim (λq=>q▸D.iz) λq=>(D.a1 b q).1) e;refine S4 (n.done _ k _ _ _ y h G λM e N f=>?_);exact fin M e (λc o O P S q=>N _ _ P (u.extBut _ _ O q)) f
inductive ZI (prog:S9) (w:Td) (e1 e2:Nat->Option S5):List (hH×S5)->Prop
 |nil:e1 0=none\/e2 0=none->ZI prog w e1 e2 []
 |one {key v:S5} {kk:hH}:e1 0=!key->e2 0=!v->(aF prog w).is kk key=true->e1 1=none->ZI prog w e1 e2 [(kk,v)]
def FF(hk:(aF prog w).is kk key=true)(u:s.heap.DictOf (aF prog w) d cur)(o:U4 s.heap pr key v)(x:cur.length<1000) (q:∀a,a.DictOf (aF prog w) d (stored cur kk v)->Heap.SameBut d s.heap a->UF (model prog w) A (.builtin "dict.update.loop" {[.ref d,.ref it,VO ((k+1:Nat):Int),.none],[]}) R {s with heap:=a,toks:=s.toks+1}):
 Tc (model prog w) A.in1 (do
  holding [.ref pr] do
   let c <-(Th.Dict.pairItems (.ref pr)).tryCatch λe=>do
    let b <-WE e (.type "TypeError");have p:=λ__r=>do
     rule "dict.update.element-no-sequence"
     raiseErrorMade "TypeError" (toString "cannot convert dictionary update sequence element #"++toString (k:Int)++toString " to a sequence")
    if(not b) = true then do
        let __r <-throw e
        p __r
     else p ()
   match c with
    |[k,v]=>holding [k,v] (dictSet d k v)
    |l=>do
     rule "dict.update.element-length"
     raiseErrorMade "ValueError" (toString "dictionary update sequence element #"++toString (k:Int)++toString " has length "++toString l.length++toString "; 2 is required")
  PySem.again (.builtin "dict.update.loop" {[.ref d,.ref it,VO ((k:Int)+1),.none],[]}))
  (λfin s'=>match fin with
   |.done f=>R (.ok f) s'
   | .again r=>r.quiet=true/\UF (model prog w) A r R s') (λe s'=>R (.error e) s') s:=by
 have y:s.TypeIs (.ref pr) "tuple":={_,o,rfl}
 refine S4 (Tf (S4 (VH ?_)));refine S4 (Uo y ?_);refine S4 (Tv o rfl (S7 ?_));refine Tf (UO hk u (λa h n=>?_) (by unfold S6;ext));refine S7 {Code.quiet_builtin _ Xs,?_};exact q a h n
structure ZD(d z TI TO i j:Tu)(f1 f2:List Tu):Prop where
 z:d≠z
 ti:d≠TI
 to:d≠TO
 i:d≠i
 j:d≠j
 f1:d∉f1
 f2:d∉f2
def FG{R:W7->S8->Prop}(Q:A.handled=none){d:Tu}(D:ZA z TI TO i j f1 f2)(f:ZD d z TI TO i j f1 f2)(I:Nx prog w i f1 T1 e1)(S:Nx prog w j f2 T2 e2){rest:List (hH×S5)}{s:S8}{a b:S5}(T:Xb s.heap z TI TO .none)(h:U4 s.heap TI (.ref i) (.ref j))(x:U4 s.heap TO a b)(U:T1 0 s.heap)(W:T2 0 s.heap)(Z:ZI prog w e1 e2 rest)(dl:∀b,s.heap.objs.size<=b->b≠d) (X:s.heap.DictOf (aF prog w) d []) (Y:∀h' tk,h'.DictOf (aF prog w) d (rest.foldl (λc p=>stored c p.1 p.2) [])->(∀b o,b≠d->b≠z->b≠TO->b≠i->b≠j->s.heap.get? b=!o->h'.get? b=!o)->R (.ok (.ret .none)) {s with heap:=h',toks:=tk}):
 UF (model prog w) A (.builtin "dict.update.loop" {[.ref d,.ref z,VO ((0:Nat):Int),.none],[]}) R s:=by
 refine Uf cM ?_;unfold Th.«dict.update.loop»;cases Z with
 |nil N=>show Tc _ _ (Vq (.ref z) >>= _) _ _ s;refine S4 (Jf Q D I S T h x U W N λh' y=>?_);show Tc _ _ (Th.Dict.addKeywords d [] >>= _) _ _ _;refine S4 (S7 (S7 ?_));let{o,es,B,C,r}:=X;exact Y h' s.toks {o,es,B,y _ _ f.z f.to f.i f.j C,r} λb o _ J nt K M e=>y b o J nt K M e
 | @one a0 v kk hx hy hk N=>show Tc _ _ (Vq (.ref z) >>= _) _ _ s;refine S4 (FB D I S T h x U W hx hy λh' z' o' O a1 F a2 P=>?_);let{o,es,B,C,r}:=X;refine FF (s:={s with heap:=h'}) hk {o,es,B,P _ _ f.z f.to f.i f.j C,r} F Xs λG H sb=>?_;have u:∀b o,b≠d->h'.get? b=!o->G.get? b=!o:=λb o n e=>(sb.2 b n).trans e;refine Uf cM ?_;unfold Th.«dict.update.loop»;show Tc _ _ (Vq (.ref z) >>= _) _ _ _;refine S4 (Ji (s:={s with heap:=G,toks:=s.toks+1}) Q D I (u _ _ f.z.symm z') (u _ _ (dl _ (Xm _)) F) (u _ _ f.ti.symm (P _ _ D.tz D.to D.ti D.tj h)) (I.keep _ _ _ O λb hb o e=>u b o (hb.elim (λq=>q▸f.i.symm) λq z=>f.f1 (z▸q)) e) N λh3 y=>?_);show Tc _ _ (Th.Dict.addKeywords d [] >>= _) _ _ _;refine S4 (S7 (S7 ?_));let{o,es,B,C,r}:=H;exact Y h3 (s.toks+1) {o,es,B,y _ _ f.z f.i f.j C,r} λb o nd J nt K M e=>y b o J K M (u b o nd (P b o J nt K M e))
def qQ(a:Tu)(fs:Array S5)(name:VA)(u:Tok)(hmiss:Ux (.type "zip") name=pure none)(hname:[VA.ofString "__module__",VA.ofString "__name__",VA.ofString "__qualname__",VA.ofString "__doc__",VA.ofString "__annotations__"].contains name=false)(hsz:(VA.ofString (toString "'"++toString ((Manifest.find? "zip").elim "zip" λx=>x.tpName)++toString "' object has no attribute '")++name++VA.ofString "'").length<=S6):Meets (PySem.Builtin.«object.__getattribute__» {pos:=[.ref a,.str name u]}) λA R s=>s.heap.get? a=some {cls:=.type "zip",data:=.fields fs}/\raisesAttr (.ref a) name A R s:=by
 refine Meets.of_wp λprog w A R s hs=>?_;let{hx,hA,hs}:=hs
 repeat (any_goals (first|assumption|exact hT _|wp_step))
 rw[hname]
 repeat (any_goals (first|assumption|exact hT _|wp_step))
 exact wpAny_raiseAttrError hA (λh' tk e n=>hs h' tk e n) hsz
def tt:Ux (.type "zip") "keys" =pure none:=by rfl
def oF:Ux (.type "zip") "__getattr__" =pure none:=by rfl
def uM:entryFor table "zip.__getattribute__" =some Th.«object.__getattribute__»:=entryFor_alias (by kernel_rfl) rfl (show _= "object.__getattribute__" by decide) (by kernel_rfl)
theorem tu
 (hx:s.heap.get? a=some {cls:=.type "zip",data:=.fields fs}) (hA:A.handled=none)
 (h:∀h' tk,(∀b o,s.heap.get? b=!o->h'.get? b=!o)->Q none {s with heap:=h',toks:=tk}):Tc (model prog w) A (getAttr? (.ref a) "keys") Q E s:=by
 let{hp,g,d,tk,os}:=s;have hT:∀tk',(⟨hp,g,d,tk',os⟩:S8).TypeIs (.ref a) "zip":=λ_=>{_,hx,rfl}
 have f1:=UU;have f3:=F.slot_zip_getattribute.lookup;have f4:=F.slot_zip_getattribute.bind (.ref a);have f5:=oF
 repeat (any_goals (first|assumption|exact hT _|((with_reducible show Tc _ _ (call (S5.builtin "zip.__getattribute__") _ _) _ _ _);refine Uk F.slot_zip_getattribute (hT _) uM (F.args_zip_getattribute_2 _ _) (qQ a fs "keys" _ tt Xs Xs) {hx,hA,λh' tk' e hx'=>?_})|wp_step))
 let{t',u',he}:=hx'.there;show Tc _ _ (UV _ _ _ _ _ _ _) _ _ _
 repeat (any_goals (first|assumption|exact hE _|exact h _ _ hx'.keeps|wp_step))
def uN(a b:Tu)(xs q:Array S5):Meets (Th.«zip.__new__» {[.type "zip",.ref a,.ref b],[]}) (λ_ R s=>s.heap.IsTuple a xs/\s.heap.IsTuple b q/\R (.ok (.ret (.ref (zA s.heap (zO "tuple_iterator" a) (zO "tuple_iterator" b))))) {s with heap:=zG s.heap (zO "tuple_iterator" a) (zO "tuple_iterator" b)}):=
 .of_wp λprog w A R s h=>by
  let{v,g,d,x,y}:=s;let{c,f,h}:=h;have u:=sub_zip;have n:=c;have p:Heap.IsTuple (S8.heap ⟨v.push (zO "tuple_iterator" a),g,d,x,y⟩) b q:=by let{o,e,r}:=f;exact{o,QK _ e,r}
  wp_walk using T0 n,T0 p
  exact{_,rfl,h}
def wD(a:s.heap.IsTuple l1 xs)(b:s.heap.IsTuple l2 ys)(h:Q (.ref (s.heap.objs.size+4)) {s with heap:=zG s.heap (zO "tuple_iterator" l1) (zO "tuple_iterator" l2)}):
 Tc (model prog w) A (call (.type "zip") [.ref l1,.ref l2]) Q E s:=by
 refine callType_new F.called_zip Xs (F.typeCall_zip_2 _ _) (F.newCall_zip_2 _ _) (λc=>F.args_object_init_3 c _ _) F.entry_zip_new (uN l1 l2 xs ys) {a,b,?_};have g:=(pN s.heap (zO "tuple_iterator" l1) (zO "tuple_iterator" l2) rfl rfl).1;rw[Eu];exact{{_,g,rfl},h}
end
#print b
def uO{U:List (Tu×Obj)}{σ:St}{H:Hp}{s:S8}{j u:Obj}{v x:Tu}{W Y:Nat->Heap->Prop}{e1 e2:Nat->Option S5}{us:List (hH×S5)}{h:List (hH×V)}{Q:S5->S8->Prop}{E:S5->S8->Prop}(I:dN X U σ H s)(Z:X.A.handled=none)(f1:j.isFreed=false)(f2:u.isFreed=false)(b1:v<s.heap.objs.size)(b2:x<s.heap.objs.size) (N1:Nx X.prog X.w s.heap.objs.size [v] W e1) (N2:Nx X.prog X.w (s.heap.objs.size+1) [x] Y e2) (t1:W 0 (zG s.heap j u)) (t2:Y 0 (zG s.heap j u)) (zi:ZI X.prog X.w e1 e2 us) (hK:KV h us) (a0:h.length<=900) (q:∀h' tk l,H l=none->dN X U σ (jl H l (.dK (bU h))) {s with heap:=h',toks:=tk}->Q (.ref l) {s with heap:=h',toks:=tk}):
 Tc (model X.prog X.w) X.A (call (.type "dict") [.ref (s.heap.objs.size+4)]) Q E {s with heap:=zG s.heap j u}:=by
 let{K,z2,z3,z4,z5,z6,z7}:=pN s.heap j u f1 f2;have D:ZA (s.heap.objs.size+4) (s.heap.objs.size+2) (s.heap.objs.size+3) s.heap.objs.size (s.heap.objs.size+1) [v] [x]:=Jg _ _ _ b1 b2;generalize zG s.heap j u=d at *;refine VI (Q₁:=λy s₁=>y=.ref d.objs.size/\s₁={s with heap:=d.push {cls:=.type "dict",data:=.dict #[]}}) F.kt_called_dict (F.kt_typeCall_dict_1 _) F.entry_dict_init (Vj _ {(rfl),rfl}) ?_;rintro y s₁ ⟨rfl,rfl⟩;have f:(d.push {cls:=.type "dict",data:=.dict #[]}).DictOf (aF X.prog X.w) d.objs.size []:=Heap.DictOf.new d;have e1:Xb (d.push {cls:=.type "dict",data:=.dict #[]}) (s.heap.objs.size+4) (s.heap.objs.size+2) (s.heap.objs.size+3) .none:=QK _ K;have hT:({s with heap:=d.push {cls:=.type "dict",data:=.dict #[]}}:S8).TypeIs (.ref (s.heap.objs.size+4)) "zip":={_,e1,rfl}
 exists f.typeIs,F.args_dict_init_2 _ _;unfold Th.«dict.__init__»;refine S4 ?_;unfold Th.Dict.selfAndRest;refine S4 (UD f.typeIs ?_);show Tc _ _ (pure (d.objs.size,[S5.ref (s.heap.objs.size+4)])) _ _ _;refine S7 ?_;show Tc _ _ (Th.Dict.updateFrom "dict.__init__" d.objs.size (.ref (s.heap.objs.size+4)) [] .none) _ _ _;unfold Th.Dict.updateFrom;refine S4 (Uo hT ?_);rw[Xf Xs];refine S4 (tu e1 Z λB M k1=>?_);have N:∀b o,d.get? b=!o->B.get? b=!o:=λb o e=>k1 _ _ (QK _ e);have C:B.DictOf (aF X.prog X.w) d.objs.size []:=by let{o,es,ep,O,r}:=f;exact{o,es,ep,k1 _ _ O,r}
 have P:d.objs.size<B.objs.size:=by let{o,es,ep,O,r}:=C;exact Q5 O
 simp only[Sy,if_true];refine S4 (UL ?_);refine S4 (wpAny_pyIter_zip (s:={s with heap:=B,toks:=M}) (N _ _ K) ?_);refine S7 {Code.quiet_builtin _ Xs,?_};have a1:us.length=h.length:=(KV.length hK).symm;have nd:∀b,b<s.heap.objs.size+5->d.objs.size≠b:=λb J e=>by rw[z6]at e;exact Ro _ (e▸J)
 have DD:ZD d.objs.size (s.heap.objs.size+4) (s.heap.objs.size+2) (s.heap.objs.size+3) s.heap.objs.size (s.heap.objs.size+1) [v] [x]:={nd _ (RW _),nd _ Xu,nd _ Xu,nd _ Xu,nd _ Xu,λz=>nd v (Q4 b1 Xu) (Xh z),λz=>nd x (Q4 b2 Xu) (Xh z)}
 have up:∀b o,d.get? b=!o->B.get? b=!o:=N;refine FG (prog:=X.prog) (w:=X.w) (A:=X.A.in1) Z D DD N1 N2 (up _ _ K) (up _ _ z2) (up _ _ z3) (N1.keep _ _ _ t1 λb _ o e=>up b o e) (N2.keep _ _ _ t2 λb _ o e=>up b o e) zi (λb J e=>by rw[e]at J;exact Ro _ (Q4 P J)) C λR G S k2=>?_;refine{rfl,?_};have kp:∀b o,s.heap.get? b=!o->R.get? b=!o:=λb o e=>by
  have T:=Q5 e;have n:∀m,b≠s.heap.objs.size+m:=λm z=>by rw[z]at T;exact Ro _ (Rq (RN _ _) T)
  exact k2 b o (λz=>nd b (Q4 T Xu) z.symm) (n 4) (n 3) (n 0) (n 1) (N b o (z7 b o e))
 have i:s.heap.objs.size<=d.objs.size:=by rw[z6];ext
 have fr:H d.objs.size=none:=I.hok.fresh i;have hs:(d.objs.size==TK)=false:=beq_eq_false_iff_ne.mpr (Ri (Q4 I.big i));have kv:KV (bU h) (us.foldl (λc p=>stored c p.1 p.2) []):=uG hK .nil;have le:=lI h;have I2:=I.laid (a:=d.objs.size) (o:=.dK (bU h)) (t':=G) kp i (show ni X.prog X.w _ R _ (.dK (bU h))from{by unfold S6;ext,hs,_,kv,S});exact q R G _ fr I2
def Ez{prog:S9}{w:Td}{e1 e2:Nat->Option S5}{c:List hH}{f:List V}{a b:List S5}(hl:c.length<=1)(e:∀i,e1 i=a[i]?)(h:∀i,e2 i=b[i]?)(d:eC (c.map kV) a)(j:eC f b):∃us,ZI prog w e1 e2 us/\KV (c.zip f) us:=by
 cases c with
 |nil=>cases d;exact{[],.nil (.inl (e 0)),.nil}
 |cons k c=>
  cases c with
  |cons p c=>exact absurd hl eq
  |nil=>
   cases j with
   |nil=>exact{[],.nil (.inr (h 0)),.nil}
   |cons n j=>
    cases d with
    |cons o d=>cases d;exact{[(k,_)],.one (e 0) (h 0) (gC o) (e 1),.cons {(rfl),n} .nil}
def uP(K:RP)(h:TA):TE:=λσ H Q=>h σ H λi c=>∃(a b:Tu) (d:List hH) (e:List V),i= [.ref a,.ref b]/\qu K c a (d.map kV)/\(ip K c b e\/qu K c b e)/\d.length<=1/\∀l f,c l=none->dA c f->f l=!(.dK (bU (d.zip e)))->Q (.ref l) f
def yN{a b:Expr}{ta:TA}{M p A f:Pos}(hg:Gl X "dict")(hm:X.mg "dict" =none)(N:Gl X "zip")(O:X.mg "zip" =none)(ha:PA X [a,b] ta)(hc:‹X.calm=true›)(hs:‹Te [a,b] X.env=(false,eval a X.env)::Te [b] X.env›)(P:‹Te [b] X.env= [(false,eval b X.env)]›)(B:‹Te [.Call (.Name "zip" p) [a,b] [] f] X.env= [(false,eval (.Call (.Name "zip" p) [a,b] [] f) X.env)]›):PE X (.Call (.Name "dict" M) [.Call (.Name "zip" p) [a,b] [] f] [] A) (uP X.K ta):=by
 intro R s σ H Q I h;refine Call_ (gJ I hg hm (show Tx "dict" =some (.type "dict") by decide) (Tq ?_ B rfl));rw[B];refine Calls.spliced_cons ?_;refine Call_ (gJ I N O (show Tx "zip" =some (.type "zip") by decide) (Tq (thn (ha f R s σ H _ I h) λus j ⟨vs,H1,x,r1,q1⟩=>?_) hs (by rw[P];rfl)));let{v,u,ks,ys,e,S,n,hl,q}:=q1;subst e;cases r1 with
 |cons r T=>
  cases T with
  |cons r' T=>
   cases T;cases r;cases r';let{d,C,M,a0}:=x.tuple S;have E:j.heap.IsTuple v d.toArray:=M;have K:v<j.heap.objs.size:=by let{_,e,_}:=E;exact Q5 e
   have F:(ks.zip ys).length<=900:=(by rw[List.length_zip];ext);have fin:∀U W l,H1 l=none->dN X R σ (jl H1 l (.dK (bU (ks.zip ys)))) {j with heap:=U,toks:=W}->EP X R σ Q (.ref l) {j with heap:=U,toks:=W}:=λU W l hl I2=>{.ref l,_,I2,rfl,q l _ hl (aU hl _) aA}
   have o:∀(l:Tu) (m:Nat),l<j.heap.objs.size->l≠j.heap.objs.size+m:=λl m h z=>by rw[z]at h;exact Ro _ (Rq (RN _ _) h)
   rcases n with n|n;.let{c,y,p,Y}:=x.list n;have G:u<j.heap.objs.size:=(by let{_,e,_}:=p.isList;exact Q5 e);refine wB E p.isList ?_;refine Calls.spliced_nil ?_;let{z1,z2,z3,Z,z5,z6,J}:=pN j.heap (zO "tuple_iterator" v) (zO "list_iterator" u) rfl rfl;let{us,zi,kv}:=Ez (prog:=X.prog) (w:=X.w) (e1:=λk=>d.toArray[k]?) (e2:=λk=>c.toArray[k]?) hl (λi=>by simp) (λi=>by simp) C y;let{o1,e1,w1}:=E;let{o2,e2,w2}:=p.isList;exact uO x (x.ok.hd hc) rfl rfl K G (oE _ v d.toArray (o v 0 K)) (FA _ u c.toArray (o u 1 G)) {{_,Z,rfl,rfl},o1,J _ _ e1,w1} {{_,z5,rfl,rfl},o2,J _ _ e2,w2} zi kv F fin
   .let{c,y,p,Y}:=x.tuple n;have t2:j.heap.IsTuple u c.toArray:=p;have G:u<j.heap.objs.size:=(by let{_,e,_}:=t2;exact Q5 e);refine wD E t2 ?_;refine Calls.spliced_nil ?_;let{z1,z2,z3,Z,z5,z6,J}:=pN j.heap (zO "tuple_iterator" v) (zO "tuple_iterator" u) rfl rfl;let{us,zi,kv}:=Ez (prog:=X.prog) (w:=X.w) (e1:=λk=>d.toArray[k]?) (e2:=λk=>c.toArray[k]?) hl (λi=>by simp) (λi=>by simp) C y;let{o1,e1,w1}:=E;let{o2,e2,w2}:=t2;exact uO x (x.ok.hd hc) rfl rfl K G (oE _ v d.toArray (o v 0 K)) (oE _ u c.toArray (o u 1 G)) {{_,Z,rfl,rfl},o1,J _ _ e1,w1} {{_,z5,rfl,rfl},o2,J _ _ e2,w2} zi kv F fin
def AV:List V->Hp->VK->Prop:=λc H Q=>∃(p d:Tu) (a:List (hH×V)),c= [.ref p]/\H p=!(DV p d)/\H d=!(.dK a)/\a.length<1000/\∀l b,H l=none->dA H b->b l=!(.lst (a.map (·.2)))->Q (.ref l) b
def yO(hc:‹X.calm=true›):bH X (.type "list") AV:=by
 intro P s σ H R S Q I r h;let{p,d,kvs,rfl,y,z,T,q}:=h;let{u,rfl,i}:=d6 r;cases i;let{U,W,n,c,o,es,ep,A,B}:=gD I.hok z;have C:s.heap.IsValuesView p d:=(show ni X.prog X.w H s.heap p (DV p d)from I.hok p _ y).1;have hl:kvs.length=n.length:=c.length;have big:1000<=S6:=by unfold S6;decide
 refine SY (PySem.W.kdl_values (knd:=aF X.prog X.w) (r:=p) (kvs:=n) (ep:=ep)) (I.ok.hd hc) {(C),o,es,A,B} Xu λE F f G hk J b=>?_;have fr:H s.heap.objs.size=none:=I.hok.fresh (Xm _);have K:eC (kvs.map (·.2)) f.toList:=by
  refine qP _ _ (by rw[Array.length_toList,b.1,QL,hl]) λj v M=>?_;let{k,e}:=b.2 j v (by rw[<-Array.getElem?_toList];exact M);have lt:j<kvs.length:=by rw[hl];exact(Xj e).1
  let{u,N,i}:=pL c (k:=kvs[j].1) (x:=kvs[j].2) (QV lt);rw[N]at e;cases e;exact{kvs[j].2,by rw[QY,QV lt];rfl,i}
 have O:=I.laid (a:=s.heap.objs.size) (o:=.lst (kvs.map (·.2))) (t':=F) hk (Xm _) (show ni X.prog X.w _ E _ (.lst _)from{by rw[QL];ext,f.toList,G,K,by simpa using J});exact{.ref s.heap.objs.size,_,O,rfl,q _ _ fr (aU fr _) aA}
end
section
variable{prog:S9}{w:Td}{A:Tj}{E:S5->S8->Prop}
end
def CI(K:RP)(d:TE):TI:=λσ H R=>d σ H λx b=>∃a,x=.ref a/\(((∃c,ip K b a c)/\R (Zy K a) b)\/((∃c,qu K b a c)/\R (Z1 K a) b))
def Jj(hl:PE X l tl):PI X tg l (CI X.K tl):=by
 intro u s σ H R I h;refine thn (hl u s σ H _ I h) λv d z=>?_;let{x,n,c,r,y}:=z;obtain⟨a,e,⟨⟨A,f⟩,q⟩|⟨⟨A,f⟩,q⟩⟩:=y;.subst e;cases r;let{i,B,p,C}:=c.list f;apply Uj p.isList;refine{d.heap.objs.size,[d.heap.objs.size],_,_,n,rfl,c.kept λb o e=>QK _ e,rR a _,{_,QR _ rfl,rfl,rfl},λb j=>?_,q};have e:b=d.heap.objs.size:= ~~~j;subst e;exact c.ar (Xm _) (c.hok.fresh (Xm _))
 .subst e;cases r;let{i,B,p,C}:=c.tuple f;apply T0 (p);refine{d.heap.objs.size,[d.heap.objs.size],_,_,n,rfl,c.kept λb o e=>QK _ e,pc a _,{_,QR _ rfl,rfl,rfl},λb j=>?_,q};have e:b=d.heap.objs.size:= ~~~j;subst e;exact c.ar (Xm _) (c.hok.fresh (Xm _))
theorem pO{K:RP}(n:H1 a=!(.tup xs))(sz:xs.length<S6)(d:Tu->Nat->List V->St->Hp->Prop) (o:∀D c,H1 D=none->dA H1 c->c D=!(.lst [])->d D 0 [] cs c) (hs:∀D i x e f c,xs[i]? =!x->At xs H1 D i e c->d D i e f c->g x f c λh H2=>tc h H2 λb j=>if b=true then te h j λv q=>ZZ xs H1 D (d D) i h v q else oB xs H1 D (d D) i h j) (p:∀D e f c,H1 D=none->dA H1 c->c D=!(.lst e)->e.length<=xs.length->d D xs.length e f c->Q (.ref D) c):gG (Z1 K a) g tc te cs H1 Q:=
 pJ Cp (λH g=>g _ _ n) sz d o hs p
def LD(K:RP):List V->Hp->VK->Prop:=λd H Q=>∃x tp a c t b,d= [x,.ref tp]/\H tp=!(.tup [.ty a,.ty c])/\YR H x=!t/\Wy K (.type t) [.type a,.type c]=!b/\Q (.bl b) H
def yP{σ:St}(I:dN X Xg σ H s)(d:hB x u)(ty:fg X.K H x (.type t))(B:s.heap.IsTuple tp its.toArray)(e:Wy X.K (.type t) its=!b)(h:∀tk,Q (.bool b) {s with toks:=tk}):
 Tc (model X.prog X.w) A (call (.builtin "isinstance") [u,.ref tp]) Q E s:=by
 let{{c,M,N,O},f,G,n,J}:=B;subst G J;cases ty with
 |non=>cases(d);exact RY SM I.J True.intro f e (λz=>nomatch z) h
 |bl y=>cases(d);exact RY SO I.J True.intro f e (λz=>nomatch z) h
 |int i=>let{t,q}:=(d);cases q;exact RY SW I.J True.intro f e (λz=>nomatch z) h
 |str y=>let{t,q}:=(d);cases q;exact RY SV I.J True.intro f e (λz=>nomatch z) h
 |flt y=>let{t,q}:=(d);cases q;exact RY SE I.J True.intro f e (λz=>nomatch z) h
 | @lst a C j=>
  cases(d);let{_,_,n,_,r}:=(I.hok a _ j)
  exact RY Si I.J {_,r,rfl} f e (λz=>nomatch z) h
 | @frz a P C j=>
  cases(d);let{_,_,_,n,_,r}:=(I.hok a _ j)
  exact RY Si I.J {_,r,rfl} f e (λz=>nomatch z) h
 | @tup a C j=>
  cases(d);let{_,_,_,p}:=(I.hok a _ j)
  let{o,r,v,_}:=p;exact RY SC I.J {(o),r,v} f e (λz=>nomatch z) h
 | @dK a F j=>
  cases(d);let{_,_,R,_,p}:=(I.hok a _ j)
  let{o,es,K,r,v,_}:=p;exact RY Sj I.J {(o),r,v.1} f e (λz=>nomatch z) h
 | @dT a F j=>
  cases(d);let{_,_,C,_,o,es,K,r,v,_}:=(I.hok a _ j)
  exact RY Sj I.J {(o),r,v.1} f e (λz=>nomatch z) h
def uQ:bH X (.builtin "isinstance") (LD X.K):=by intro v s σ H y z Q I r h;let{x,tp,A,B,t,b,rfl,c,ty,e,q}:=h;let{u,w,rfl,f,d}:=pj r;cases d;let{i,j,p,C}:=I.tuple (qu.of c);let{a,E,rfl,n,o}:=pj j;cases(n);cases(o);exact yP I f (w9 ty) p e λF=>{.bl b,H,I.tok _,rfl,q}
end _L
namespace _L
open PySem
end _L
#print y
def EA:V->List V->Hp->VK->Prop:=λx c H Q=>∃l b,x=.ref l/\c= []/\H l=!(.lst b)/\∀p a,H p=none->dA H a->a p=!(.lst b)->Q (.ref p) a
def CJ:Zw X "list.copy" EA:=by intro o s σ H x p v u Q I d f h;let{l,i,rfl,rfl,j,q}:=h;cases d;have c:=f.zero;subst c;let{z,a,n,r,hl,e}:=I.av j;have fr:=I.hok.fresh (Xm _);refine Uk F.slot_list_copy {_,e,rfl} F.entry_list_copy (F.args_list_copy_1 _) (AutoSeq1.list_copy_list_0 l a.toArray n (by rw[Q2];ext)) {e,?_};refine{.ref s.heap.objs.size,_,I.laid (λb y h=>QK _ h) (Xm _) (show ni X.prog X.w _ _ _ (.lst i)from{z,a,0,r,QR _ rfl}),rfl,q _ _ fr (aU fr _) aA}
def EB:V->List V->Hp->VK->Prop:=λx c H Q=>∃l a,x=.ref l/\c= []/\H l=!(.lst a)/\∀b,Mu H l (.lst a.reverse) b->Q .non b
def xn:Zw X "list.reverse" EB:=by intro i s σ H x j v o Q I d f h;let{l,p,rfl,rfl,c,q}:=h;cases d;have a:=f.zero;subst a;let{z,b,n,r,hl,e}:=I.av c;refine Uk F.slot_list_reverse {_,e,rfl} F.entry_list_reverse (F.args_list_reverse_1 _) (AutoSeq1.list_reverse_list_0 l b.toArray n (by rw[Q2];ext)) {e,?_};exact{.non,_,I.bc c e eq (eC.reverse r) (by simp;ext),rfl,q _ .mk'}
def Jk:List V->Hp->VK->Prop:=λd H Q=>∃(p:Tu) (c:List V) (a:List (hH×V)),d= [.ref p]/\H p=!(.tup c)/\XG H c a/\a.length<1000/\∀l b,H l=none->dA H b->b l=!(.dK (bU a))->Q (.ref l) b
def yQ:Ux (.type "tuple") "keys" =pure none:=by rfl
def yR
 (hx:s.heap.get? a=some {cls:=.type "tuple",dict:=none,data:=.seq xs k,slots:=sl}) (hA:A.handled=none)
 (h:∀h' tk,(∀b o,s.heap.get? b=!o->h'.get? b=!o)->Q none {s with heap:=h',toks:=tk}):Tc (model prog w) A (getAttr? (.ref a) "keys") Q E s:=by
 let{hp,g,d,tk,os}:=s;have hT:∀tk',(⟨hp,g,d,tk',os⟩:S8).TypeIs (.ref a) "tuple":=λ_=>{_,hx,rfl}
 have f1:=UU;have f3:=F.slot_tuple_getattribute.lookup;have f4:=F.slot_tuple_getattribute.bind (.ref a);have f5:=am_tuple_getattr_none
 repeat (any_goals (first|assumption|exact hT _|((with_reducible show Tc _ _ (call (S5.builtin "tuple.__getattribute__") _ _) _ _ _);refine Uk F.slot_tuple_getattribute (hT _) am_entry_tuple_getattribute (F.args_tuple_getattribute_2 _ _) (meets_getattribute_miss_tuple a xs k sl "keys" _ yQ Xs) {hx,hA,λh' tk' e hx'=>?_})|wp_step))
 let{t',u',he}:=hx'.there;show Tc _ _ (UV _ _ _ _ _ _ _) _ _ _
 repeat (any_goals (first|assumption|exact hE _|exact h _ _ hx'.keeps|wp_step))
#print e
theorem sC{R:W7->S8->Prop}(T:A.handled=none){d u l:Tu}{items:Array S5}(y:d≠u)(F:d≠l)(nil:u≠l):∀(rest:List (hH×S5)) (i:Nat) (s:S8) (f:List (hH×S5)),s.heap.IsTupleIter u l i->s.heap.IsTuple l items->YW prog w s.heap d u (items.toList.drop i) rest->s.heap.DictOf (aF prog w) d f->f.length+rest.length<=1000->(∀h' tk,h'.DictOf (aF prog w) d (rest.foldl (λc p=>stored c p.1 p.2) f)->(∀b o,b≠d->b≠u->s.heap.get? b=!o->h'.get? b=!o)->R (.ok (.ret .none)) {s with heap:=h',toks:=tk})->
 UF (model prog w) A (.builtin "dict.update.loop" {[.ref d,.ref u,VO i,.none],[]}) R s
 |[],i,s,f,z,hl,B,J,G,K=>by
  apply Uf cM;unfold Th.«dict.update.loop»;have M:items[i]? =none:=by
   cases h:items.toList.drop i with
   |nil=>rw[Array.getElem?_eq_none];have:=List.drop_eq_nil_iff.mp h;simpa using this
   |cons x E=>rw[h]at B;cases B
  show Tc _ _ (Vq (.ref u) >>= _) _ _ s;refine S4 (wpAny_pyNext_tuple_end T z hl M λh' U=>?_);show Tc _ _ (Th.Dict.addKeywords d [] >>= _) _ _ _;refine S4 (S7 (S7 ?_));exact K h' s.toks (J.extBut U y) λb o C j e=>U b o j e
 |(k,v)::rest,i,s,f,z,hl,B,J,G,K=>by
  apply Uf cM;unfold Th.«dict.update.loop»;obtain⟨x,E,N⟩:∃x E,items.toList.drop i=x::E:=by
   cases h:items.toList.drop i with
   |nil=>rw[h]at B;cases B
   |cons x E=>exact{(x),E,rfl}
  have M:items[i]? =!x:=by have:=congrArg (λl=>l[0]?) N;simp only[Rw,Nat.add_zero,List.getElem?_cons_zero,Array.getElem?_toList]at this;exact this
  have e1:items.toList.drop (i+1)=E:=by rw[<-So,N];rfl
  rw[N]at B;cases B with
  | @cons a o Z _ _ n _ _ h1 h2 O h4 h5 h6 r=>
  refine S4 (wpAny_pyNext_tuple_item z hl M λh' H W=>?_);have P:∀b o,b≠u->s.heap.get? b=!o->h'.get? b=!o:=λb o C e=>(W.2 b C).trans e;have X:=P a o h6 h1;have hT:({s with heap:=h'}:S8).TypeIs (.ref a) "tuple":={(o),X,h2}
  refine S4 (Tf (S4 (VH ?_)));refine S4 (Uo hT ?_);refine S4 (Tv (s:={s with heap:=h'}) X O (S7 ?_));refine Tf (UO h4 (J.sameBut W y) (λQ I q=>?_) (by unfold S6;ext));have Y:=λb o C j e=>(q.2 b C).trans (P b o j e);refine S7 {Code.quiet_builtin _ Xs,?_};have NO:=stored_length_le f k v;have ih:=sC T y F nil rest (i+1) {s with heap:=Q,toks:=s.toks+1} (stored f k v) (H.at λo e=>(q.2 u (Ne.symm y)).trans e) (hl.at λo e=>(q.2 l (Ne.symm F)).trans (P l o (Ne.symm nil) e)) (by rw[e1];exact r.keep Y) I (by simp only[QP]at G;ext) λO tk S k3=>K O tk S λb o C j e=>k3 b o C j (Y b o C j e);exact ih
end
def yS(hc:‹X.calm=true›):bH X (.type "dict") Jk:=by
 intro Xg s σ H xs x Q I r h;let{p,ys,J,rfl,Z,pk,a0,q}:=h;let{u,rfl,ru}:=d6 r;cases ru;let{hz,d,rv,{c0,d0,a1,y},K,M,N,O,P}:=(I.hok p _ Z)
 simp only at M O P;subst M O P;have R:=I.ok.hd hc;apply VI (Q₁:=λf S=>f=.ref s.heap.objs.size/\S={s with heap:=s.heap.push {cls:=.type "dict",data:=.dict #[]}}) F.kt_called_dict (F.kt_typeCall_dict_1 _) F.entry_dict_init (Vj _ {(rfl),rfl});rintro f S ⟨rfl,rfl⟩;have a:(s.heap.push {cls:=.type "dict",data:=.dict #[]}).DictOf (aF X.prog X.w) s.heap.objs.size []:=Heap.DictOf.new s.heap;have e1:(s.heap.push {cls:=.type "dict",data:=.dict #[]}).get? p=some {cls:=.type "tuple",dict:=none,data:=.seq d.toArray N,slots:=y}:=QK _ K;have hT:({s with heap:=s.heap.push {cls:=.type "dict",data:=.dict #[]}}:S8).TypeIs (.ref p) "tuple":={_,e1,rfl}
 exists a.typeIs,F.args_dict_init_2 _ _;unfold Th.«dict.__init__»;apply S4;unfold Th.Dict.selfAndRest;refine S4 (UD a.typeIs ?_);show Tc _ _ (pure (s.heap.objs.size,[S5.ref p])) _ _ _;apply S7;show Tc _ _ (Th.Dict.updateFrom "dict.__init__" s.heap.objs.size (.ref p) [] .none) _ _ _;unfold Th.Dict.updateFrom;refine S4 (Uo hT ?_);rw[Xf Xs];refine S4 (yR e1 R λi z B=>?_);have T:∀b o,s.heap.get? b=!o->i.get? b=!o:=λb o e=>B _ _ (QK _ e);have j:i.DictOf (aF X.prog X.w) s.heap.objs.size []:=by let{o,es,U,C,r}:=a;exact{o,es,U,B _ _ C,r}
 have n:i.IsTuple p d.toArray:={_,B _ _ e1,rfl,N,rfl}
 have c:s.heap.objs.size<i.objs.size:=by let{o,es,U,C,r}:=j;exact Q5 C
 have v:=Q5 K;simp only[Sy,if_true];refine S4 (UL ?_);refine S4 (T0 (s:={s with heap:=i,toks:=z}) n ?_);refine S7 {Code.quiet_builtin _ Xs,?_};let{x,hI,W}:=AN I (Xm _) (Nat.le_of_lt c) pk rv;have a2:=(KV.length W).symm;refine sC (A:=X.A.in1) R (Q8 c) (Ri v) (Ri (Sg v c)) x 0 _ [] {_,QR _ rfl,rfl,rfl} (n.at λo e=>QK _ e) ?_ (j.push _) (by simp only[Rl];ext) λh2 E G k2=>?_;.show YW X.prog X.w _ _ _ (d.toArray.toList.drop 0) x;exact hI.keep λb o _ _ e=>QK _ (T b o e)
 .refine{rfl,?_};have kp:∀b o,s.heap.get? b=!o->h2.get? b=!o:=λb o e=>by have Y:=Q5 e;exact k2 b o (Q8 Y) (Q8 (Sg Y c)) (QK _ (T b o e))
  have fr:=I.hok.fresh (Xm _);have hs:=beq_eq_false_iff_ne.mpr (Ri I.big);have kv:=uG W .nil;have le:=lI J;have I2:=I.laid (o:=.dK (bU J)) (t':=E) kp (Xm _) ({by unfold S6;ext,hs,_,kv,G});exact{.ref s.heap.objs.size,_,I2,rfl,q _ _ fr (aU fr _) aA}
def DI(p d:Tu):HO:=.ext λh=>h.IsItemsView p d
def xo(e:TE):TE:=λσ H Q=>e σ H λx a=>∃d b,x=.ref d/\a d=!(.dK b)/\∀p c,a p=none->dA a c->c p=!(DI p d)->Q (.ref p) c
def AW{a c:Pos}(hl:PE X l tl)(f:‹TF l "items" X.env (eval l X.env)=eval l X.env›)(i:‹(a.endLine==c.line)=true›):
 PE X (.Call (.Attribute l "items" a) [] [] c) (xo tl):=by
 intro A s σ H Q I h;refine TU f i (thn (hl A s σ H _ I h) λv j z=>?_);let{x,B,n,C,d,E,e,u,q}:=z;subst e;cases C;let{M,F,G,J,p}:=gD n.hok u;let{y,K}:=iI n (show hB (.ref d) (.ref d)from rfl) (.inr (.inr (.inl {rfl,.inl {_,u}})));refine{"dict","dict.items",TJ,T8,Vh,y,K,Calls.callWith_builtin rfl (T7 ?_)};refine Uq T8 y U8 (UZ _) (meets_dict_items (aF X.prog X.w) d F) {{(G),p},?_};have fr:=n.hok.fresh (Xm j.heap.objs.size);refine{.ref j.heap.objs.size,jl B j.heap.objs.size (DI j.heap.objs.size d),n.laid (λb o q=>QK _ q) (Xm _) {{_,QR _ rfl,rfl,rfl},{_,QR _ rfl},λg N z k=>by let{o,e,r}:=z;exact{o,k o e,r}},rfl,q _ _ fr (aU fr _) aA}
#print d
def tw(f:s.heap.get? a=!(T3 "list" vs.toArray n))(j:vs.length<2) (h:P (.done (.ret .none)) {s with heap:=VW s.heap a vs vs.toArray}):
 Tc (model prog w) A (Th.«list.sort» {[.ref a],[]}) P E s:=by
 rw[list_sort_plain];have i:=Q5 f;refine S4 (listItems_at f rfl ?_);refine S4 (UK f rfl ?_);obtain⟨e1,b⟩:∃e1,(s.heap.update a (Obj.mapSeq λ_=> #[])).get? a=!(T3 "list" #[] e1):={_,get?_update_seq f (λ_=> #[])}
 refine S4 (Vb b rfl ?_);refine S4 (VJ ?_);refine S4 (UJ ?_);apply Tf;have c:(((s.heap.update a (Obj.mapSeq λ_=> #[])).push (T3 "tuple" vs.toArray 0)).push (T3 "list" #[] 0)).get? a=!(T3 "list" #[] e1):=by rw[Rt _ _ _ (by rw[WD,RR];exact Q8 (RD i)),Rt _ _ _ (by rw[RR];exact Q8 i)];exact b
 have d:vs.toArray.size<2:= ~~~j;rw[Xf d,Xf d];refine S4 (S7 ?_);refine S4 (S7 ?_);refine S4 (Vb c rfl ?_);refine S4 (UK c rfl ?_ (hsz2:=by rw[Array.size_map];show(VE vs).size<=_;rw[U0,Va];ext));simp only[bne_self_eq_false,R5];apply S7;have e:((vs.toArray.zip vs.toArray).map (·.2))=vs.toArray:=by apply Array.toList_inj.mp;rw[Array.toList_map,Array.toList_zip];exact List.map_snd_zip (Xm _)
 rw[<-e]at h;exact h
end
def FH:List V->Hp->VK->Prop:=λe H Q=>∃(p d:Tu) (a:List (hH×V)),e= [.ref p]/\H p=!(DI p d)/\H d=!(.dK a)/\a.length<2/\∀D b c,H D=none->dA H b->b D=!(.lst c)->XG b c a->Q (.ref D) b
def tE(hc:X.calm=true):bH X (.builtin "sorted") FH:=by
 intro O s σ H xs us Q I r h;let{p,d,y,rfl,P,R,k2,q}:=h;let{u,rfl,S}:=d6 r;cases S;let{z1,z2,C,i,o,es,T,U,W}:=gD I.hok R;have Y:=(I.hok p _ P).1;have Z:s.heap.DictAt (aF X.prog X.w) d C T:={(o),es,U,W}
 have lv:=i.length.symm;have sz:2<=S6:=by unfold S6;decide
 apply UA Wf V0 V1 (V2 _);refine S4 (S7 ?_);refine S4 (PySem.W.kdx_collect (I.ok.hd hc) Y Z Xu λa A c j hl E=>?_);refine S4 (UJ ?_ (by rw[QL];ext));have f:(a.push (T3 "list" (c.map S5.ref).toArray 0)).get? a.objs.size=!(T3 "list" (c.map S5.ref).toArray 0):=QR _ rfl;refine S4 (Tf (Tw VF {_,f,rfl} Vu (tw f (by rw[QL];ext) {_,rfl,?_}) (VG _)));refine S7 {_,rfl,?_};let{e,F}:=sortedHeap_at (out:=(c.map S5.ref).toArray) f;have G:∀b o,a.get? b=!o->(VW (a.push (T3 "list" (c.map S5.ref).toArray 0)) a.objs.size (c.map S5.ref) (c.map S5.ref).toArray).get? b=!o:=λb o e1=>by have J:=Q5 e1;rw[sortedHeap_old (Q8 J) (by rw[RC];exact RD J)];exact QK _ e1
 cases y with
 |nil=>
  cases C with
  |cons _ _=>cases lv
  |nil=>
  cases c with
  |cons _ _=>cases hl
  |nil=>
  have n:dN X O σ H {s with heap:=a,toks:=A}:=I.kept j;have fr:=n.hok.fresh (Xm _);exact{.ref a.objs.size,_,n.laid (o:=.lst []) G (Xm _) ({Ra _,[],e,.nil,F}),rfl,q _ _ _ fr (aU fr _) aA .nil}
 |cons kv r=>
  cases r with
  |cons _ _=>grind
  |nil=>
  let{k,v}:=kv;cases i with
  | @cons _ ku _ vr K h2=>
  cases h2;let{k',u}:=ku;cases c with
  |nil=>cases hl
  |cons t c=>
  cases c with
  |cons _ _=>cases hl
  |nil=>
  let{B,k0,x,e1,e2,e3}:=E.pairs 0 t rfl;have ek:=K.1;subst ek;let{rfl,rfl}:=e1;have lt:=Nat.le_of_lt (E.above t (QO ..));have ft:=I.hok.fresh lt;have n:=I.laid (o:=.tup [kV k,v]) (t':=A) j lt ({sz,[B,u],.cons (ox e2) (.cons K.2 .nil),{_,e3,rfl,_,{(rfl),rfl}}});have fr:=n.hok.fresh (Xm _);have I2:=n.laid (o:=.lst [.ref t]) (t':=A) G (Xm _) ({Nat.le_of_lt sz,[.ref t],e,.cons rfl .nil,F});have M:=aU ft (.tup [kV k,v]);have N:=aU fr (.lst [.ref t]);have fD:H a.objs.size=none:=by
   cases z:H a.objs.size with
   |none=>rfl
   |some o=>rw[M _ _ z]at fr;cases fr
  exact{.ref a.objs.size,_,I2,rfl,q _ _ _ fD (M.trans N) aA (.cons (N _ _ aA) .nil)}
#print g
def jk.eqA(I:dN X Xg σ H s){vs:List V}{ds:List Ta}(q0:jk X.K H vs ds):∀{p:List V} {us c:List S5} {A:Tj},jk X.K H p ds->eC vs us->eC p c->A.units+Ta.depthAll ds<Vk->us.length=c.length/\∀(j:Nat) (Q:j<us.length) (R:j<c.length),SeqAt.EqAt A s us[j] c[j] true:=by
 refine jk.rec (motive_1:=λv d _=>∀{B:V} {u C:S5} {A:Tj},Rp X.K H B d->hB v u->hB B C->A.units+d.depth<Vk->SeqAt.EqAt A s u C true) (motive_2:=λvs ds _=>∀{p:List V} {us c:List S5} {A:Tj},jk X.K H p ds->eC vs us->eC p c->A.units+Ta.depthAll ds<Vk->us.length=c.length/\∀(j:Nat) (Q:j<us.length) (R:j<c.length),SeqAt.EqAt A s us[j] c[j] true) ?_ ?_ ?_ ?_ ?_ ?_ ?_ ?_ q0;.intro B u C A h a b _;cases h;cases a;cases b;exact SeqAt.EqAt.same _
 .intro x B u C A h a b _;cases h;cases a;cases b;exact SeqAt.EqAt.same _
 .intro i B u C A h a b _;cases h;let{t,rfl}:=a;let{S,rfl}:=b;simpa using SeqAt.EqAt.int_int i t i S
 .intro x B u C A h a b _;cases h;let{t,rfl}:=a;let{S,rfl}:=b;simpa using SeqAt.EqAt.str_str x t x S
 .intro l xs ds h q T B u C A z a b M;cases z with
  | @lst U ys _ N O=>
   cases a;cases b;by_cases e:l=U;.subst e;exact SeqAt.EqAt.same _
   .let{E,W,{o,n,e1,hc,hd,hs},_}:=I.list (ip.of h);let{y,F,{o',n',G,J,a2,K},_}:=I.list (ip.of N);let{P,f}:=T (A:=A.in1) O W F (by have e:A.in1.units=A.units+1:=rfl;simp only[Ta.depth]at M;ext);have:=SeqAt.EqAt.of_refs e (SeqAt.RcAt.lists (e:=λ_=>true) (items:=E.toArray) (items2:=y.toArray) {_,e1,hc,_,hs} {_,G,J,_,K} (~~~P) (A:=A) Xu λj Y Z=>by simpa using f j (~~~Y) (~~~Z));rwa[List.all_eq_true.mpr λ_ _=>rfl]at this
 .intro l xs ds h q T B u C A z a b M;cases z with
  | @tup U ys _ N O=>
   cases a;cases b;by_cases e:l=U;.subst e;exact SeqAt.EqAt.same _
   .let{E,W,{o,e1,hc,n,hs},_}:=I.tuple (qu.of h);let{y,F,{o',G,J,n',K},_}:=I.tuple (qu.of N);let{P,f}:=T (A:=A.in1) O W F (by have e:A.in1.units=A.units+1:=rfl;simp only[Ta.depth]at M;ext);have:=SeqAt.EqAt.of_refs e (SeqAt.RcAt.tuples (e:=λ_=>true) (items:=E.toArray) (items2:=y.toArray) {_,e1,hc,_,hs} {_,G,J,_,K} (A:=A) Xu λj Y Z=>by simpa using f j (~~~Y) (~~~Z));rw[List.all_eq_true.mpr λ_ _=>rfl]at this;simpa[P]using this
 .intro p us c A h a b _;cases h;cases a;cases b;exact{rfl,λ_ h=>absurd h (Nat.not_lt_zero _)}
 .intro x d xs ds h q a0 a1 p us c A z a b M;cases z with|cons N O=>
  cases a with|cons a r=>
  cases b with|cons a' r'=>
  let{P,f}:=a1 (A:=A) O r r' (by simp only[Ta.depthAll]at M;ext);have g:=a0 (A:=A) N a a' (by simp only[Ta.depthAll]at M;ext);refine{congrArg (· +1) P,λj=>?_};cases j with
  |zero=>exact λ_ _=>g
  |succ j=>exact λQ R=>f j (Nat.lt_of_succ_lt_succ Q) (Nat.lt_of_succ_lt_succ R)
end
def Jm(K:RP):R2:=λx y H Q=>∃d,Rp K H x d/\Rp K H y d/\d.depth<=64/\(∃a,x=.ref a)/\Q (.bl false) H
def uR{X:Cx}(hu:X.A.units+64<Vk):NF X (TD .NotEq) (Jm X.K):=by
 intro S s σ H x y v u Q I O P h;let{d,T,R,n,{a,rfl},q}:=h;have fin:∀b,b=false->SeqAt.RcNeAt X.A s v u b->Tc (model X.prog X.w) X.A (TD .NotEq v u) (EP X S σ Q) X.xe s:=λb e z=>by subst e;exact z _ _ _ _ {.bl _,H,I,rfl,q}
 cases T with
 |lst h E=>
  cases R with
  |lst F G=>cases O;cases P;let{i,J,{o,U,e1,hc,hd,hs},_}:=I.list (ip.of h);let{c,p,{W,Y,r,B,Z,C},_}:=I.list (ip.of F);let{K,f}:=jk.eqA (A:=X.A.in1) I E G J p (by have e:X.A.in1.units=X.A.units+1:=rfl;simp only[Ta.depth]at n;ext);exact fin _ (by rw[List.all_eq_true.mpr λ_ _=>rfl];rfl) (SeqAt.RcNeAt.lists (e:=λ_=>true) (items:=i.toArray) (items2:=c.toArray) {_,e1,hc,_,hs} {_,r,B,_,C} (~~~K) Xu λj M N=>by simpa using f j (~~~M) (~~~N))
 |tup h E=>
  cases R with
  |tup F G=>cases O;cases P;let{i,J,{o,e1,hc,U,hs},_}:=I.tuple (qu.of h);let{c,p,{W,r,B,Y,C},_}:=I.tuple (qu.of F);let{K,f}:=jk.eqA (A:=X.A.in1) I E G J p (by have e:X.A.in1.units=X.A.units+1:=rfl;simp only[Ta.depth]at n;ext);exact fin _ (by rw[List.all_eq_true.mpr λ_ _=>rfl];simp[K]) (SeqAt.RcNeAt.tuples (e:=λ_=>true) (items:=i.toArray) (items2:=c.toArray) {_,e1,hc,_,hs} {_,r,B,_,C} Xu λj M N=>by simpa using f j (~~~M) (~~~N))
end _L
namespace _D
open PySem PySem.W
def AX{α:Type}(v:Obj)(k:BT->α)(l r:BT):α:=k (.node v l r)
def AY{α:Type}(v:Obj)(k:BT->α)(fr:(BT->α)->α)(l:BT):α:=fr (AX v k l)
noncomputable def jJ{α:Type}(t:BT):(BT->α)->α:=
 @BT.rec (λ_=>(BT->α)->α) (λk=>k .nil) (λv _ _ a fr k=>a (AY v k fr)) t
theorem lL:∀(t:BT) (k:BT->α),jJ t k=k t
 |.nil,_=>rfl
 |.node v l r,k=>by show jJ l (AY v k (jJ r))=_;rw[lL l];show jJ r (AX v k l)=_;rw[lL r];rfl
noncomputable def lM{α:Type}(n:Nat)(k:Nat->α):α:= @Nat.rec (λ_=>α) (k 0) (λm _=>k (m+1)) n
theorem sD(n:Nat)(k:Nat->α):lM n k=k n:=by cases n<;>rfl
def xp{α:Type}(k:Ts->α)(b:Life)(c:Array Wb)(a:Drawn)(e:VX)(n d:Nat)(t:BT):α:=k {(t),n,b,c,a,d,e}
noncomputable def Jn{α:Type}(k:Ts->α)(t:BT)(b:Life)(c:Array Wb)(a:Drawn)(e:VX)(n d:Nat):α:=jJ t (xp k b c a e n d)
noncomputable def Jo{α:Type}(k:Ts->α)(t:BT)(b:Life)(c:Array Wb)(a:Drawn)(e:VX)(d n:Nat):α:=lM d (Jn k t b c a e n)
noncomputable def lN{α:Type}(s:Ts)(k:Ts->α):α:=match s with
 |⟨t,n,b,c,a,d,e⟩=>lM n (Jo k t b c a e d)
theorem sE(s:Ts)(k:Ts->α):lN s k=k s:=by let{t,n,b,c,a,d,e}:=s;show lM n (Jo k t b c a e d)=_;rw[sD];show lM d (Jn k t b c a e n)=_;rw[sD];show jJ t (xp k b c a e n d)=_;rw[lL];rfl
section
variable(thr ok:Uu->Bool)(st:Ts->Uu->Option (Ts×Uu))
def pP(a:Ts->Uu->Option (Bool×Ts×Uu))(s:Ts)(t:Uu):Option (Bool×Ts×Uu):=match thr t with
 |true=> !(true,s,t)
 |false=>match ok t with
  |false=>none
  |true=>match st s t with
   |some (b,c)=>a b c
   |none=>none
noncomputable def uS(n:Nat):Ts->Uu->Option (Bool×Ts×Uu):=
 @Nat.rec (λ_=>Ts->Uu->Option (Bool×Ts×Uu)) (λs t=> !(false,s,t)) (λ_ a=>pP thr ok st a) n
def Jp{α:Type}(k:Ts->α)(s:Ts):Option α:=!(k s)
def goOn{α:Type}(a:Ts->Uu->Option α)(t:Uu)(s:Ts):Option α:=a s t
noncomputable def yT{α:Type}(m:Nat)(k:Ts->α)(b:Ts->Uu->Option α)(s:Ts)(t:Uu):Option α:=
 match uS thr ok st m s t with
  |some (true,a,_)=>lN a (Jp k)
  |some (false,a,c)=>lN a (goOn b c)
  |none=>none
noncomputable def CK{α:Type}(m:Nat)(k:Ts->α)(n:Nat):Ts->Uu->Option α:=
 @Nat.rec (λ_=>Ts->Uu->Option α) (λ_ _=>none) (λ_ a=>yT thr ok st m k a) n
end
section
variable {tb : String → Option Th} {p : S9} {w : Td} {n₀ : Nat} {ann : Option S5}
noncomputable abbrev pQ (tb : String → Option Th) (p : S9) (w : Td) (n₀ : Nat) (ann : Option S5) := uS through (V3 n₀ ann) (W1 (denote tb) p w)
noncomputable abbrev yU {α : Type} (tb : String → Option Th) (p : S9) (w : Td) (n₀ : Nat) (ann : Option S5) := @CK through (V3 n₀ ann) (W1 (denote tb) p w) α
theorem uT:∀{n:Nat} {s s':Ts} {t t':Uu},pQ tb p w n₀ ann n s t=!(false,s',t')->∀N r,Wk tb p w n₀ ann N s'.abs t'=!r->Wk tb p w n₀ ann (n+N) s.abs t=!r
 |0,s,s',t,t',h,N,r,k=>by cases h;rw[SK];exact k
 |n+1,s,s',t,t',h,N,r,k=>by
  rw[show n+1+N=n+N+1 by ext];have h:pP through (V3 n₀ ann) (W1 (denote tb) p w) (pQ tb p w n₀ ann n) s t=!(false,s',t'):=h;unfold pP at h;unfold Wk;cases a:through t with
  |true=>simp_all
  |false=>
   rw[a]at h;cases hk:V3 n₀ ann t with
   |false=>simp_all
   |true=>
    rw[hk]at h;cases hs:W1 (denote tb) p w s t with
    |none=>simp_all
    |some x=>let{b,c}:=x;rw[hs]at h;rw[stepT_spec hs];exact uT h N r k
theorem sF:∀{n:Nat} {s s':Ts} {t t':Uu},pQ tb p w n₀ ann n s t=!(true,s',t')->Wk tb p w n₀ ann n s.abs t=!s'.abs
 |0,s,s',t,t',h=>by cases h
 |n+1,s,s',t,t',h=>by
  have h:pP through (V3 n₀ ann) (W1 (denote tb) p w) (pQ tb p w n₀ ann n) s t=!(true,s',t'):=h;unfold pP at h;unfold Wk;cases a:through t with
  |true=>simp_all
  |false=>
   rw[a]at h;cases hk:V3 n₀ ann t with
   |false=>simp_all
   |true=>
    rw[hk]at h;cases hs:W1 (denote tb) p w s t with
    |none=>simp_all
    |some x=>let{b,c}:=x;rw[hs]at h;rw[stepT_spec hs];exact sF h
theorem uU{k:Ts->α}{r:α}:∀{n:Nat} {s:Ts} {t:Uu},yU tb p w n₀ ann m k n s t=!r->∃s',Wk tb p w n₀ ann (m*n) s.abs t=!s'.abs/\k s'=r
 |0,s,t,h=>by cases h
 |n+1,s,t,h=>by
  have h:yT through (V3 n₀ ann) (W1 (denote tb) p w) m k (yU tb p w n₀ ann m k n) s t=!r:=h;unfold yT at h;cases hs:uS through (V3 n₀ ann) (W1 (denote tb) p w) m s t with
  |none=>simp_all
  |some x=>
   let{b,a,c}:=x;rw[hs]at h;cases b with
   |true=>have h:lN a (Jp k)=!r:=h;rw[sE]at h;refine{a,?_,Xr h};rw[show m*(n+1)=m+m*n by rw[Nat.mul_succ];ext];exact topRun_mono _ _ _ _ _ (sF hs)
   |false=>have h:lN a (goOn (yU tb p w n₀ ann m k n) c)=!r:=h;rw[sE]at h;let{s',e,d}:=uU h;refine{s',?_,d};rw[show m*(n+1)=m+m*n by rw[Nat.mul_succ];ext];exact uT hs _ _ e
end
noncomputable def LF(P:Params):BT:=
 .node (boot_o_0 P) (.node (boot_o_1 P) (.node (boot_o_3 P) (.node (boot_o_7 P) .nil .nil) .nil) (.node (boot_o_5 P) (.node (boot_o_9 P) .nil .nil) .nil))
  (.node (boot_o_2 P) (.node (boot_o_4 P) (.node (boot_o_8 P) .nil .nil) .nil) (.node (boot_o_6 P) (.node (boot_o_10 P) .nil .nil) .nil))
noncomputable def uV(w:Td)(a:VX):Ts:={LF w.params,11,(Ub w.params).life, #[],VD,VP,a}
noncomputable def uW(w:Td):Option S5:=(Ub w.params).nsMap Ti "__annotations__"
noncomputable def look{α:Type}(p q:S9)(a:List VA)(b:S8->Bool)(g0:Bool)(c:S8->α)(w:Td)(s:Ts):=
 ((W2 (Uv p.main.body) (Ub w.params) s.abs.heap&&WF p s.abs.heap&&gensDone s.abs&&laidKept (Ub w.params) s.abs.heap),openSeen q a (Uv p.main.body) b g0 s.abs,c s.abs)
theorem LG(w:Td):(Ub w.params).isNs Ti=true:=by kernel_rfl
noncomputable abbrev yV{α:Type}(p:S9)(w:Td):= @CK through (Fast.tw6613529449190102663 11 (uW w)) (Fast.tw10156331382660048174 (Fast.tw11892475500146522536 Fast.tw14364793385576792824) p w) α
theorem FI(p:S9)(w:Td): @yU α Vx p w 11 (uW w)=yV p w:=by show @CK through (V3 11 (uW w)) (W1 (denote Vx) p w) α=_;rw[Fast.te6613529449190102663,Fast.te10156331382660048174,Fast.te11892475500146522536,Fast.te14364793385576792824]
def yW{α:Type}(o:Option Obj)(a:Nat)(c:Frag->(Frag->α)->α)(b:Frag)(k:Frag->α):α:=match o with
 | some o=>(match alive o with
  |some d=>c ((a,d)::b) k
  | none=>c b k)
 |none=>c b k
noncomputable def tT{α:Type}(t:BT)(n:Nat):Frag->(Frag->α)->α:=
 @Nat.rec (λ_=>Frag->(Frag->α)->α) (λb k=>k b) (λa c b k=>yW (t.get a) a c b k) n
def jm(h:Heap)(n:Nat):Frag:=(List.range n).filterMap λa=>(h.get? a).map λo=>(a,o)
theorem d8:∀{K:Frag},K.lookup a=!o->(a,o)∈K
 |[],h=>nomatch h
 |(b,x)::K,h=>by
  simp only[List.lookup]at h;split at h;.grind
  .exact QM _ (d8 h)
def _C(h:Heap)(n:Nat):(jm h n).In h:=λa o e=>by let{b,_,q}:=List.mem_filterMap.mp (d8 e);let{x,c,d}:=Xq q;cases d;exact c
def CN(t:BT)(n:Nat):Bool:=(List.range n).all λa=>(t.get a).isSome
theorem oG{k:Frag->α}(f:CN t m=true):∀(n:Nat) (a:Frag),n<=m->tT t n a k=k (jm (WW t m life) n++a)
 |0,a,_=>rfl
 |n+1,a,le=>by
  have e:tT t (n+1) a k=yW (t.get n) n (tT t n) a k:=rfl;have hs:=List.all_eq_true.mp f n (List.mem_range.mpr le);let{o,b}:=Option.isSome_iff_exists.mp hs;have h:jm (WW t m life) (n+1)++a=jm (WW t m life) n++((match alive o with|some c=>[(n,c)] | none=>[])++a):=by unfold jm;rw[List.range_succ,List.filterMap_append,QQ];congr 2;rw[Rs,abs_get le b];cases alive o<;>rfl
  rw[e,h];unfold yW;rw[b];cases d:alive o with
  |none=>simp only[d];exact oG f n a (Nat.le_of_succ_le le)
  |some c=>simp only[d];exact oG f n _ (Nat.le_of_succ_le le)
noncomputable def yX{α:Type}(see:Frag->α)(s:Ts):α:=tT s.tree s.n [] see
def CO(f:CN s.tree s.n=true):yX see s=see (jm s.abs.heap s.abs.heap.objs.size):=by unfold yX;rw[oG f s.n [] (Xm _),Rf];show _=see (jm (WW s.tree s.n s.life) (WW s.tree s.n s.life).objs.size);rw[absHeap_size]
noncomputable def yY{α:Type}(p q:S9)(a:List VA)(b:S8->Bool)(see:Frag->α)(w:Td)(s:Ts):=
 (CN s.tree s.n&&(W2 (Uv p.main.body) (Ub w.params) s.abs.heap&&WF p s.abs.heap&&gensDone s.abs&&laidKept (Ub w.params) s.abs.heap),openSeen q a (Uv p.main.body) b true s.abs,yX see s)
def Ng{α:Type}(see:Frag->α)(s:S8):α:=see (jm s.heap s.heap.objs.size)
def wE{see:Frag->α}{saw:Td->α}{N:Nat}
 (e:opening p=plainProg p.main.scope.names) (j:Nat.ble 600 N=true) (f:∀s,fenceModules? p s=!s) (le:Nat.ble (m*n) N=true)
 (c:∀(w:Td) (a:VX),yV p w m (yY p q loose Xt see w) n (uV w a) (W5 p)=!(true,openGood q loose,saw w)):
 LeftO p q loose Xt (Ng see) saw N true:=by
 intro w;let{{h,o,d,k,a},e1,e2}:=Xq (boot_open e j f w);obtain⟨rfl,rfl,rfl,rfl⟩:h=Ub w.params/\o=Array.mk []/\d=VD/\k=VP:= ~~~e2;have i:=c w a;rw[<-FI]at i;let{b,r,l}:=uU i;have r:Wk Vx p w 11 (uW w) (m*n) ⟨Ub w.params,Array.mk [],VD,VP,a⟩ (W5 p)=!b.abs:=r;have r:=topRun_mono (N-m*n) _ _ _ _ r;rw[show m*n+(N-m*n)=N by have:=Q3 le;ext]at r;let{u,v}:=Xo (congrArg Prod.fst l);have y:=congrArg (λx=>x.2.1) l;have z:=(CO u).symm.trans (congrArg (λx=>x.2.2) l);have t:topFrom Vx p w N ⟨Ub w.params,Array.mk [],VD,VP,a⟩=!b.abs:=by unfold topFrom;rw[LG w];show(Wk Vx p w 11 (uW w) N {Ub w.params,Array.mk [],VD,VP,a} (W5 p)).bind _=_;rw[r];show(match W2 (Uv p.main.body) (Ub w.params) b.abs.heap&&WF p b.abs.heap&&gensDone b.abs&&laidKept (Ub w.params) b.abs.heap with|true=>_ | false=>_)=_;rw[v]
 unfold openEnds;rw[e1];show Option.map _ (topFrom Vx p w N _)=_;rw[t];exact congrArg some (Prod.ext y z)
def iM(p:S9)(x:VA):List VA:=p.boundNames.filter λy=>not (y==x)
theorem AZ{l:WU}{N:Nat}{see:Frag->α}{saw:Td->α}
 (c:l.row.wellSaid=true)
 (e:opening l.prog=plainProg l.prog.main.scope.names) (f:∀s,fenceModules? l.prog s=!s) (p:Nat.ble 600 N=true) (le:Nat.ble (m*n) N=true)
 (o:∀(w:Td) (q:VX),yV l.prog w m (yY l.prog (view l.prog [i]) (iM l.prog l.name) (λ_=>true) see w) n (uV w q) (W5 l.prog)=!(true,openGood (view l.prog [i]) (iM l.prog l.name),saw w))
 (j:defOf (view l.prog [i]) l.row.name=!(d,kwd)) (r:l.row.prog.theDef l.row.name=!(d.params,d.body,d.scope)) (hk:kwWritten? d.params.kwonlyargs d.params.kw_defaults=!kwd)
 (ok:(chainsOk (view l.prog [i])&&opensWell l.row.prog&&(frees l.row.toRowW&&l.row.within.isEmpty))=true) (u:l.row.prog.bare) (hw:l.row.toRowW.promised)
 (call:WalkO (view l.prog [i]) (iM l.prog l.name) (λ_ _=>True) (λw h=>∃K,K.In h/\see K=saw w) l.row.toRowW d kwd λf vs=>WT f vs):l.row.Holds:=
 holds_open (wE e p f le o) (λ_ s h=>{_,_C s.heap _,h}) (λ_ _ _ z k=>by let{K,a,b}:=z;exact{K,a.keeps k,b}) (λ_ _=>trivial) (λ_ _ _ _ _=>trivial) j r hk (λs _=>recFacts_of (R:=[]) rfl) (by show(_ || true)=true;exact Bool.or_true _) c ok u hw call
theorem CP{l:WU}{S:Td->Frag->Prop}{sp:Frag->_L.Sp}
 (hn:l.most=!n) (j:n<=S6) (p:d.params.defaults= []) (I:_L.mm k VV)
 (F:∀(w:Td) (K:Frag) (mg:VA->Option S5) (i:Tu) (h:Heap),S w K->K.In h->h.Ns Ti mg->mg d.name=!(.ref i)->
  ∃z,(∀(s:S8) (u:S5),VU s z {[u],[]} [(x,u)])/\
   ∀base:Heap,K.In base->base.Ns Ti mg->_L.fh l.prog w K mg base CX k i z [x] (sp K))
 (r:∀(K:Frag) (H:_L.Hp) (a:Tu) (ns:List Int),ns.length<=n->_L.Ck H->_L.ip K H a (ns.map _L.V.int)->sp K [.ref a] H (λv _=>v=.bl true) λ_ _ _=>False)
 (y:∀(H:_L.Hp) (s:S8) (e:S5) (s':S8),CX [] H s (λ_ _ _=>False) e s'->False):
 WalkO q loose XP (λw h=>∃K,K.In h/\S w K) l.row.toRowW d [] (λf vs=>WT f vs):=by
 refine Att.wm hn p λw T J mg U i o W X M a vs ns G Y Z hd N A c b C O=>?_;let{K,E,B}:=Y;let{z,P,Q}:=F w K mg i _ B E G.T.g A;exact _L.Cl E G.T.g G.T.b G.T.builtins G.T.nolimit O c b (Xn C j) I Q P (λH R B=>r K H a ns C R B) λH e s'=>y H J e s'
def cN(s:Stmt):VA:=match s with
 |.FunctionDef n _ _ _ _ _ _ _ _ _=>n
 |_=>""
abbrev iN:=Option (VA×VA×Arguments×FuncBody×UQ×Tu×List (VA×Tu)×S5×Tu×Bool)
def lO(K:Frag)(q:VA)(f:Tu):iN:=match K.lookup f with
 |some {_,_,.func a,_}=> !(a.name,a.qualname,a.params,a.body,a.scope,a.globals,a.closure,a.defaults,a.builtins,codeIn K a.code q)
 |_=>none
def fM(x q:VA)(st:Stmt):iN:=!(x,q,_L.gh st,.stmts (_L.cw st),_L.aj st,Ti,[],.none,VT,true)
def pB(e:lO K q f=fM x q st):∃a,_L.YQ K x q st f a:=by
 unfold lO at e;split at e;.rename_i h i a j hl;let{u,v,y,z,A,B,C,E,n,b,o,p,d,r,F}:=a;simp only[fM,Option.some.injEq,Prod.mk.injEq]at e;let{rfl,rfl,rfl,rfl,rfl,rfl,rfl,rfl,rfl,c}:=e;exact{_,{(h),i,n,b,o,p,d,r,j,rfl,hl,c},by unfold Ul;simp only[hl]}
 .cases e
def oH(F:_L.YQ K x q st f fd) (b:∀(kV a d:S5) (e:Option Tu) (c h:S5) (us:List S5),us.length=ps.length->Wa (fnOf x q (_L.gh st) (_L.cw st) (_L.aj st) .none kV a d e c h) {us,[]}=pure (ps.zip us)):_L.ri K fd ps []:=by
 let{{j,n,kV,a,d,e,c,h,i,rfl,_},_}:=F;exact .all (b kV a d e c h)
def jK(K:Frag)(st:Stmt):iN:=match nsIn K Ti (cN st)with
 |some (some (.ref f))=>lO K (cN st) f
 |_=>none
def A0(e:jK K st=fM (cN st) (cN st) st)(b:cN st=x):∃f a,nsIn K Ti x=!(!(.ref f))/\_L.YQ K x x st f a:=by
 subst b;unfold jK at e;split at e;.rename_i f c;let{a,F}:=pB e;exact{(f),a,c,F}
 .cases e
def aP(X:K.In h)(G:h.Ns Ti mg)(e:jK K st=fM (cN st) (cN st) st)(d:cN st=x) (b:∀(kV a i:S5) (j:Option Tu) (c n:S5) (us:List S5),us.length=ps.length->Wa (fnOf x x (_L.gh st) (_L.cw st) (_L.aj st) .none kV a i j c n) {us,[]}=pure (ps.zip us)):_L.hW K mg x st ps:=by
 let{f,o,p,F}:=A0 e d;exact{f,o,mg_of X G p,F,oH F b}
def FJ(X:K.In h)(G:h.Ns Ti mg)(e:jK K st=fM (cN st) (cN st) st)(p:cN st=x)(i:mg x=!(.ref fa)) (b:∀(kV a j:S5) (n:Option Tu) (c o:S5) (s:S8) (u:S5),VU s (fnOf x x (_L.gh st) (_L.cw st) (_L.aj st) .none kV a j n c o) {[u],[]} [(y,u)]):∃d,_L.YQ K x x st fa d/\∀(s:S8) (u:S5),VU s d {[u],[]} [(y,u)]:=by
 let{f,d,q,F}:=A0 e p;have e:=i.symm.trans (mg_of X G q);cases e;exists d,F;let{{v,z,kV,a,j,n,c,o,r,rfl,_},_}:=F;exact b kV a j n c o
def fk(K:Frag)(x:VA):Bool:=match nsIn K Ti x with
 |some none=>true
 |_=>false
def eK(X:K.In h)(G:h.Ns Ti mg)(e:fk K x=true):mg x=none:=by
 unfold fk at e;split at e;.rename_i a;exact mg_none_of X G a
 .cases e
def isInt(K:Frag)(x:VA)(n:Int):Bool:=match nsIn K Ti x with
 |some (some (.int m _))=>decide (m=n)
 |_=>false
def pR(X:K.In h)(G:h.Ns Ti mg)(e:isInt K x n=true):∃tk,mg x=!(.int n tk):=by
 unfold isInt at e;split at e;.rename_i m tk a;cases of_decide_eq_true e;exact{tk,mg_of X G a}
 .cases e
def fN(K:Frag)(x:VA):Bool:=match nsIn K Ti x with
 |some (some (.ref _))=>true
 |_=>false
def XH(K:Frag)(x:VA):Tu:=match nsIn K Ti x with
 |some (some (.ref f))=>f
 |_=>0
def fO(e:fN K x=true):nsIn K Ti x=!(!(.ref (XH K x))):=by
 unfold fN at e;unfold XH;split at e;.simp_all
 .cases e
def All(l:List Bool):Bool:=l.all id
theorem _ac(h:All (b::l)=true):b=true/\All l=true:=Xo h
end _D
namespace _D
open PySem PySem.W _L
def eL(K:Frag)(C:Tu)(b:List VA):Bool:=plainGet K C VA.empty&&(hasDictIn K C&&(plainOver K C&&((Tt K (.ref C) "__setattr__" == !(!(.builtin "object.__setattr__")))&&(makesIn K C&&(Ul K (.ref C)&&b.all λa=>Tt K (.ref C) a== !none)))))
def iO(e:eL K C attrs=true):jp K C/\makesIn K C=true/\Ul K (.ref C)=true/\∀a∈attrs,cD K C a:=by unfold eL at e;simp only[RE]at e;let{e1,e2,e3,b,c,d,f}:=e;exact{{e1,e2,e3,beq_iff_eq.mp b},c,d,λa h=>beq_iff_eq.mp (List.all_eq_true.mp f a h)}
def mN(K:Frag)(C:Tu)(m q:VA):iN:=match Tt K (.ref C) m with
 |some (some (.ref f))=>if isFn K (.ref f)=true then lO K q f else none
 |_=>none
def Jq(e:mN K C m q=fM m q st):∃f a,Tt K (.ref C) m=!(!(.ref f))/\isFn K (.ref f)=true/\_L.YQ K m q st f a:=by
 unfold mN at e;split at e
 .rename_i f b;split at e;.rename_i i;let{a,F}:=pB e;exact{(f),a,b,i,F}
  .cases e
 .cases e
def gk(X:K.In h)(G:h.Ns Ti mg)(g:nsIn K Ti x=!(!(.ref C)))(mk:makesIn K C=true)(d:Ul K (.ref C)=true)(e:mN K C "__init__" q=fM "__init__" q st) (b:∀(kV a j:S5) (n:Option Tu) (c o:S5) (us:List S5),us.length=ps.length->Wa (fnOf "__init__" q (_L.gh st) (_L.cw st) (_L.aj st) .none kV a j n c o) {us,[]}=pure (ps.zip us)):oD K mg x C q st ps:=by
 let{f,p,r,i,F}:=Jq e;exact{f,p,mg_of X G g,{(mk),r,i,d},F,oH F b}
def qR(K:Frag)(a:Tu):=match K.lookup a with
 |some ⟨c,d,.dict es _,b⟩=> !(c,d,b,es.toList.map λ(e:Vs)=>(e.hash,(match e.key with|S5.str x _=>some x | _=>none),(match e.val with|S5.str x _=>some x | _=>none)))
 |_=>none
inductive _p (w:Td):List Vs->List (VA×VA)->List (VA×S5)->Prop
 |nil:_p w [] [] []
 |cons {x y:VA} {u v:Tok} {es:List Vs} {l:List (VA×VA)} {vs:List (VA×S5)}:_p w es l vs->_p w ({uf w (.inr x),.str x u,.str y v}::es) ((x,y)::l) ((x,.str y v)::vs)
theorem _p.dict(P:S9)(t:_p w es l vs):(∀e∈es,∃k,(aF P w).is k e.key=true/\e.hash=(aF P w).hash k)/\Pairs (aF P w) es (vs.map λp=>((.inr p.1:hH),p.2))/\KV (l.map λp=>((.inr p.1:hH),V.str p.2)) (vs.map λp=>((.inr p.1:hH),p.2))/\(vs.map λp=>((.inr p.1:hH),p.2)).map (·.1)=(l.map (·.1)).map (Sum.inr:VA->hH):=by
 induction t with
 |nil=>exact{λe a=>absurd a Q7,.nil,.nil,rfl}
 | @cons x y u v es l vs r c=>
  let{d,f,h,i}:=c;have b:(aF P w).is (.inr x) (.str x u)=true:=by show S5.isStrOf x (.str x u)=true;simp[S5.isStrOf]
  refine{λe a=>?_,.cons b rfl f,.cons {rfl,{_,rfl}} h,by rw[QU,QU,i];rfl};rcases Xi a with rfl|a
  .exact{.inr x,b,rfl}
  .exact d e a
def Jr:∀{F:List (VA×VA)},(es.map λ(e:Vs)=>(e.hash,(match e.key with|S5.str x _=>some x | _=>none),(match e.val with|S5.str x _=>some x | _=>none)))=(F.map λp=>(uf w (.inr p.1),!p.1,!p.2))->∃vs,_p w es F vs:=by
 induction es with
 |nil=>
  intro F h;cases F with
  |nil=>exact{[],.nil}
  |cons _ _=>cases h
 |cons e es d=>
  intro F h;cases F with
  |nil=>cases h
  |cons p F=>let{b,f}:=List.cons.inj h;let{vs,a}:=d f;let{hs,i,j}:=e;simp only[Prod.mk.injEq]at b;let{rfl,hk,c}:=b;cases i<;>simp only[reduceCtorEq,Option.some.injEq]at hk;subst hk;cases j<;>simp only[reduceCtorEq,Option.some.injEq]at c;subst c;exact{_,.cons a}
def FK{F:List (VA×VA)}(e:qR K a=!(S5.type "dict",none, #[],F.map λp=>(uf w (.inr p.1),!p.1,!p.2)))(ns:(a==TK)=false)(nd:((F.map (·.1)).map (Sum.inr:VA->hH)).Nodup):KD P w K a (F.map λp=>((.inr p.1:hH),V.str p.2)):=by
 unfold qR at e;split at e;.rename_i c d es n u hk;simp only[Option.some.injEq,Prod.mk.injEq]at e;let{rfl,rfl,rfl,e}:=e;let{v,b}:=Jr e;let{f,i,j,o}:=b.dict P;exact{_,_,hk,ns,j,λh q=>{_,es,n,q,{(rfl),rfl,rfl},rfl,λe r=>f e (Array.mem_toList_iff.mpr r),i,by rw[o];exact nd}}
 .cases e
def qU(K:Frag)(C:Tu)(m q:VA):iN:=match Tt K (.ref C) m with
 |some (some (.ref f))=>if(isFn K (.ref f)&&Ul K (.ref f))=true then lO K q f else none
 |_=>none
def aR{K:Frag}{C:Tu}{m q:VA}{st:Stmt}{a:List VA}(e:qU K C m q=fM m q st) (b:∀(kV c h:S5) (j:Option Tu) (d n:S5) (us:List S5),us.length=a.length->Wa (fnOf m q (_L.gh st) (_L.cw st) (_L.aj st) .none kV c h j d n) {us,[]}=pure (a.zip us)):eH K C m q st a:=by
 unfold qU at e;split at e
 .rename_i f o;split at e;.rename_i i;rw[RE]at i;let{p,F}:=pB e;exact{f,p,{(o),i.1,i.2},F,oH F b}
  .cases e
 .cases e
end _D
seal _L.PE _L.PA _L.PS _L.XM _L.PT _L.PW _L.PG _L._e _L.NF _L.bH _L.PI _L.yj _L.PO _L._r _L._z _L.PC _L.UnR _L.Zw
def _L.wa (x s : String) : Lean.MacroM (Lean.TSyntax `tactic) := do
  let a ← _L.YY s x
  `(tactic| simp (config := { maxSteps := 3000000 }) only [$a,*, *])
def _L.wb (x s : String) : Lean.MacroM (Lean.TSyntax `tactic) := do
  let a ← _L.YY s x
  `(tactic| simp (config := { maxSteps := 3000000, zeta := false, zetaDelta := false }) only [$a,*, *])
def _L.wh : List String → Lean.MacroM (Lean.TSyntax `tactic)
  | [] => `(tactic| fail)
  | n :: l => do `(tactic| first | refine $(Lean.mkIdent (.str `_L n)):ident ?_ | $(← _L.wh l):tactic)
local macro_rules
  | `(tactic| walk_at "rl") => _L.wa "" (_L.YV)
  | `(tactic| walk_at "ro") => _L.wa " and_assoc" _L._F
  | `(tactic| walk_at "rz") => _L.wa "" (_L.YV ++ " lazyAll")
  | `(tactic| walk_at "rd") => `(tactic| first | (walk_at "rl"; try walk_at "ro") | walk_at "ro")
  | `(tactic| walk_at "ry") => _L.wb "" (_L.Ze ++ " lazyAll")
  | `(tactic| walk_at "rh") => do `(tactic| with_reducible first | (refine _L._G ?_; intro T) | $(← _L.wh ["hRet", "hIf", "hFor", "hDrop", "hAsg", "hWhile", "hFld", "hForU", "hForK", "hPut", "hRetN"]):tactic)
  | `(tactic| walk_at "r2") => `(tactic| ((try walk_at "rh"); (try walk_at "ry"); repeat (walk_at "rh"; walk_at "ry")))
#print y
def kA{N P:List VA}{a:UQ}(h:(a.kind=.function/\a.isCoroutine=false/\a.isGenerator=false/\N.Nodup/\N.take P.length=P)/\(∀x∈P,a.names.lookup x=!.local\/a.names.lookup x=!.cell)/\∀y∈a.names,y.2≠.free):au N P a:={(h.1.1),h.1.2.1,h.1.2.2.1,h.1.2.2.2.1,h.1.2.2.2.2,h.2.1,h.2.2}
section
variable{X:Cx}{pos:Pos}{x:VA}{e a b c d:Expr}{es:List Expr}{te ta tb tc td:TE}{t:TA}{P:List VA}{sc:UQ}{op:CmpOp}{r:R2}
def aT(i:Nat){f:Pos}(S:au X.N P sc)(h:PE X e te)(j:‹X.N[i]? =!x›)(n:ZW X.env.scope x:=by exact .inl rfl)(hs:‹U3 e (!(.Name x f)) pos.line X.env=pure false›)(o:autoParam (X.fn x=true\/X.env.scope.names.lookup x=!.local) _aw):PS X (.Assign [.Name x f] e pos) (kY te (gA i)):=uk S.nd j n h hs o
def aZ(i:Nat)(S:au X.N P sc)(f:‹X.N[i]? =!x›)(h:ZW X.env.scope x:=by exact .inl rfl)(j:autoParam (X.fn x=true\/X.env.scope.names.lookup x=!.local) _aw):PG X (.Name x pos) (gA i):=iE S.nd f h j
def dq(i:Nat)(n:X.N.Nodup)(f:‹X.N[i]? =!x›)(h:ZW X.env.scope x:=by exact .inl (Tk rfl))(j:X.fn x=true\/X.env.scope.names.lookup x=!.local:=by exact .inr (Tk rfl)):PG X (.Name x pos) (gA i):=iE n f h j
def ar(f:PE X a ta)(h:PE X b tb)(hs:wX b:=by exact λ_ _=>rfl):PE X (.Subscript a b pos) (XJ lE ta tb):=yA MR f h hs
def aK(f:NF X (TD op) r)(h:PE X a ta)(i:PE X b tb)(j:Uh op b=false:=by exact Ad _):PT X (.Compare a [op] [b] pos) (mG (XJ r ta tb)):=jH f h i j
def kC(f:NF X (TD op) r)(h:PE X a ta)(i:PE X b tb)(j:Uh op b=false:=by exact Ad _):PE X (.Compare a [op] [b] pos) (XJ r ta tb):=E7 f h i j
def aD(f:PE X a ta)(h:‹bz a=true›):PA X [a] (bI ta eU):=gj f bJ h
def ay(f:PE X a ta)(i:PE X b tb)(h:‹(bz a&&bz b)=true›):PA X [a,b] (bI ta (bI tb eU)):=gj f (aD i (Xo h).2) (Xo h).1
def aW(f:PE X a ta)(i:PE X b tb)(hc:PE X c tc)(h:‹(bz a&&(bz b&&bz c))=true›):PA X [a,b,c] (bI ta (bI tb (bI tc eU))):=gj f (ay i hc (Xo h).2) (Xo h).1
def bT(f:PE X a ta)(i:PE X b tb)(hc:PE X c tc)(j:PE X d td)(h:‹(bz a&&(bz b&&(bz c&&bz d)))=true›):PA X [a,b,c,d] (bI ta (bI tb (bI tc (bI td eU)))):=gj f (aW i hc j (Xo h).2) (Xo h).1
end
section
variable{X:Cx}{e:Expr}{es:List Expr}{t:TA}{x:VA}{p pos:Pos}{id T:String}{r:List V->Hp->VK->Prop}
def jx(hc:bH X (.builtin id) r)(b:X.mg x=none)(c:PA X (e::es) t)(d:‹Gl X x›)(f:(Tx x=!(.builtin id))⁻¹)(hn:(x≠"__name__")⁻¹)(a:((x==("__debug__":VA))=false)⁻¹)(hs:‹(e::es).all bz=true›):PE X (.Call (.Name x p) (e::es) [] pos) (_l r t):=fL hc d b f c hn a hs
def cn(hc:bH X (.type T) r)(b:X.mg x=none)(c:PA X (e::es) t)(d:‹Gl X x›)(f:(Tx x=!(.type T))⁻¹)(hn:(x≠"__name__")⁻¹)(a:((x==("__debug__":VA))=false)⁻¹)(hs:‹(e::es).all bz=true›):PE X (.Call (.Name x p) (e::es) [] pos) (_l r t):=IX hc d b f c hn a hs
end
#print h
def dv(k:Nat)(N:List VA)(cap:List Nat)(d:PI X tg iter wi)(e:N.Nodup->∀C a b c,PG (X.comp scope (qN X.env scope) N C a b c) tg g)(f:∀C a b c,_x (X.comp scope (qN X.env scope) N C a b c) ifs tc)(h:∀C a b c,PE (X.comp scope (qN X.env scope) N C a b c) elt te)(hs:autoParam (∀x,T5 iter X.env x=pure x) _ai)(S:eE X scope (qN X.env scope) N cap k:=by exact eZ _ rfl rfl rfl rfl Xs rfl rfl rfl)(hc:‹X.calm=true›):PE X (.ListComp elt [{(tg),iter,ifs,0}] scope pos) (lF k cap wi g tc te):=Cu S hc d (e S.nd) f h hs
end
end _L
#print z
def top(i:Nat):Stmt:=PySem.Challenge.pw_rerunyard_k47_code_stays.main.body.getD i (.Pass {0,0,0,0})
abbrev iP:Stmt:=top 2
def ii:au ["statement","word"] ["statement"] (aj iP):=kA Xs
abbrev pT:Stmt:=top 3
def nM:au ["statement","word"] ["statement"] (aj pT):=kA Xs
abbrev xq:Stmt:=top 4
def CQ:au ["sign","left","right"] ["sign","left","right"] (aj xq):=kA Xs
abbrev oI:Stmt:=top 5
def sH:au ["thing"] ["thing"] (aj oI):=kA Xs
abbrev sI:Stmt:=top 7
def yZ:au ["program"] ["program"] (aj sI):=kA Xs
abbrev jL:Stmt:=top 8
def fP:au ["name","body","steps","places"] ["name","body"] (aj jL):=kA Xs
abbrev pU:Stmt:=top 9
def nN:au ["body","steps","places","statement"] ["body","steps","places"] (aj pU):=kA Xs
abbrev jn:Stmt:=top 10
def iQ:au ["statement","steps","e"] ["statement","steps"] (aj jn):=kA Xs
abbrev iR:Stmt:=top 11
def io:au ["e","steps"] ["e","steps"] (aj iR):=kA Xs
abbrev nO:Stmt:=top 13
def iS:au ["statement","steps","places","first","unless"] ["statement","steps","places"] (aj nO):=kA Xs
abbrev nP:Stmt:=top 14
def uX:au ["steps"] ["steps"] (aj nP):=kA Xs
abbrev fw:Stmt:=aI (top 16) 0
def jy:au ["self"] ["self"] (aj fw):=kA Xs
abbrev iT:Stmt:=aI (top 16) 1
def eV:au ["self","moment","thing","at"] ["self","moment","thing"] (aj iT):=kA Xs
abbrev gQ:Stmt:=aI (top 16) 2
def kT:au ["self"] ["self"] (aj gQ):=kA Xs
abbrev iq:Stmt:=aI (top 16) 3
def lP:au ["self"] ["self"] (aj iq):=kA Xs
abbrev fB:Stmt:=aI (top 16) 4
def jA:au ["self"] ["self"] (aj fB):=kA Xs
abbrev fC:Stmt:=aI (top 17) 0
def jB:au ["self"] ["self"] (aj fC):=kA Xs
abbrev iU:Stmt:=aI (top 17) 1
def nC:au ["self","moment","thing"] ["self","moment","thing"] (aj iU):=kA Xs
abbrev gW:Stmt:=aI (top 17) 2
def kU:au ["self"] ["self"] (aj gW):=kA Xs
abbrev ir:Stmt:=aI (top 17) 3
def cG:au ["self","moment","turn","thing","last"] ["self"] (aj ir):=kA Xs
abbrev fE:Stmt:=aI (top 17) 4
def jC:au ["self"] ["self"] (aj fE):=kA Xs
abbrev A1:Stmt:=top 18
def qV:au ["heap","at"] ["heap"] (aj A1):=kA Xs
abbrev A2:Stmt:=top 19
def jM:au ["heap","at","least"] ["heap"] (aj A2):=kA Xs
abbrev iV:Stmt:=top 20
def du:au ["heap","at","least","below"] ["heap","at"] (aj iV):=kA Xs
abbrev A3:Stmt:=top 21
def xt:au ["heap","one","other","kept"] ["heap","one","other"] (aj A3):=kA Xs
abbrev jo:Stmt:=top 24
def oJ:au ["name","values"] ["name","values"] (aj jo):=kA Xs
abbrev pV:Stmt:=top 25
def wF:au ["sign","left","right"] ["sign","left","right"] (aj pV):=kA Xs
abbrev sJ:Stmt:=top 26
def y6:au ["n"] ["n"] (aj sJ):=kA Xs
abbrev jq:Stmt:=aI (top 28) 0
def oK:au ["self","count"] ["self","count"] (aj jq):=kA Xs
abbrev iW:Stmt:=aI (top 29) 0
def nE:au ["self","level","most"] ["self","level","most"] (aj iW):=kA Xs
abbrev iX:Stmt:=aI (top 30) 0
def nF:au ["self","program"] ["self","program"] (aj iX):=kA Xs
abbrev lQ:Stmt:=aI (top 30) 1
def kM:au ["self","hand","name","n","tool"] ["self","hand","name","n"] (aj lQ):=kA Xs
abbrev lS:Stmt:=aI (top 30) 2
def hZ:au ["self","hand","name","n","tool","given"] ["self","hand","name","n"] (aj lS):=kA Xs
abbrev nR:Stmt:=aI (top 30) 3
def lT:au ["self","hand","name","n","store"] ["self","hand","name","n"] (aj nR):=kA Xs
abbrev nS:Stmt:=aI (top 30) 4
def lU:au ["self","hand","name","n","store"] ["self","hand","name","n"] (aj nS):=kA Xs
abbrev kO:Stmt:=aI (top 30) 5
def gm:au ["self","name","n","store","brought"] ["self","name","n"] (aj kO):=kA Xs
abbrev kP:Stmt:=aI (top 30) 6
def cO:au ["self","hand","left","name","n","given","served"] ["self","hand"] (aj kP):=kA Xs
abbrev kQ:Stmt:=aI (top 30) 7
def qW:au ["self"] ["self"] (aj kQ):=kA Xs
abbrev jN:Stmt:=aI (top 30) 8
def pW:au ["self"] ["self"] (aj jN):=kA Xs
abbrev pX:Stmt:=top 31
def wG:au ["program"] ["program"] (aj pX):=kA Xs
abbrev nT:Stmt:=top 32
def uY:au ["program"] ["program"] (aj nT):=kA Xs
abbrev nU:Stmt:=top 33
def uZ:au ["tool"] ["tool"] (aj nU):=kA Xs
abbrev lV:Stmt:=top 34
def tF:au ["store"] ["store"] (aj lV):=kA Xs
abbrev pY:Stmt:=top 35
def wH:au ["tool","hand","n"] ["tool","hand","n"] (aj pY):=kA Xs
abbrev sK:Stmt:=top 36
def y8:au ["tool","hand","n"] ["tool","hand","n"] (aj sK):=kA Xs
abbrev jO:Stmt:=top 37
def dM:au ["tool","served","hand","n"] ["tool"] (aj jO):=kA Xs
abbrev iY:Stmt:=top 38
def cf:au ["store","served","hand","n"] ["store"] (aj iY):=kA Xs
abbrev jr:Stmt:=aI (top 44) 0
def oM:au ["self","number","name","row","known"] ["self","number","name","row","known"] (aj jr):=kA Xs
abbrev js:Stmt:=aI (top 45) 0
def oN:au ["self","program","outer","agenda"] ["self","program","outer","agenda"] (aj js):=kA Xs
abbrev gY:Stmt:=aI (top 45) 1
def kW:au ["self"] ["self"] (aj gY):=kA Xs
abbrev fQ:Stmt:=aI (top 45) 2
def fF:au ["self","moment"] ["self"] (aj fQ):=kA Xs
abbrev nV:Stmt:=aI (top 45) 3
def lW:au ["self","moment"] ["self"] (aj nV):=kA Xs
abbrev jt:Stmt:=aI (top 45) 4
def dC:au ["self","thing","brought","served"] ["self"] (aj jt):=kA Xs
abbrev pZ:Stmt:=aI (top 45) 7
def wI:au ["self"] ["self"] (aj pZ):=kA Xs
abbrev qb:Stmt:=aI (top 45) 9
def wJ:au ["self"] ["self"] (aj qb):=kA Xs
abbrev nW:Stmt:=aI (top 45) 10
def xj:au ["self","hands","told"] ["self"] (aj nW):=kA Xs
abbrev qc:Stmt:=aI (top 45) 13
def wK:au ["self","number","words"] ["self","number","words"] (aj qc):=kA Xs
abbrev nX:Stmt:=aI (top 45) 14
def fR:au ["self","name","served","number","word","n"] ["self","name","served"] (aj nX):=kA Xs
abbrev lX:Stmt:=aI (top 45) 15
def tG:au ["self","name","numbers"] ["self","name","numbers"] (aj lX):=kA Xs
abbrev ju:Stmt:=aI (top 45) 16
def dD:au ["self","hand","name","given","served"] ["self","hand"] (aj ju):=kA Xs
abbrev iZ:Stmt:=aI (top 45) 17
def nI:au ["self","hand","name","given","served"] ["self","hand","name","given","served"] (aj iZ):=kA Xs
abbrev fb:Stmt:=aI (top 45) 18
def jb:au ["self","hand","k"] ["self","hand","k"] (aj fb):=kA Xs
abbrev jP:Stmt:=aI (top 45) 19
def qe:au ["self","hand","stop"] ["self","hand","stop"] (aj jP):=kA Xs
abbrev nY:Stmt:=aI (top 45) 20
def u4:au ["self","hand","word","names","numbers"] ["self","hand","word","names","numbers"] (aj nY):=kA Xs
abbrev nZ:Stmt:=aI (top 45) 21
def u5:au ["self","hand","moments"] ["self","hand","moments"] (aj nZ):=kA Xs
abbrev qf:Stmt:=aI (top 45) 22
def nk:au ["self","hand","word","name","n","had","served"] ["self","hand","word","name","n"] (aj qf):=kA Xs
abbrev oa:Stmt:=aI (top 45) 23
def i4:au ["self","hand","name","n","given","served"] ["self","hand","name","n"] (aj oa):=kA Xs
abbrev og:Stmt:=aI (top 45) 24
def i6:au ["self","name","numbers","place"] ["self","name"] (aj og):=kA Xs
abbrev fZ:Stmt:=aI (top 47) 0
def kD:au ["self","program","outer","agenda"] ["self","program","outer","agenda"] (aj fZ):=kA Xs
abbrev i7:Stmt:=aI (top 47) 1
def cg:au ["self","hand","steps","places","stack","at"] ["self","hand"] (aj i7):=kA Xs
abbrev kR:Stmt:=aI (top 47) 2
def cA:au ["self","hand","step","at","stack","word","left","right","going"] ["self","hand","step","at","stack"] (aj kR):=kA Xs
abbrev fS:Stmt:=aI (top 47) 3
def dw:au ["self","hand","step","stack","n","stop"] ["self","hand","step","stack"] (aj fS):=kA Xs
abbrev dW:Stmt:=aI (top 47) 4
def bV:au ["self","hand","step","stack","word","right","left"] ["self","hand","step","stack"] (aj dW):=kA Xs
abbrev sL:Stmt:=top 48
def qg:au ["stack","numbers"] ["stack"] (aj sL):=kA Xs
abbrev oh:Stmt:=top 50
def lY:au ["state","many","found"] ["state","many"] (aj oh):=kA Xs
abbrev u6:Stmt:=top 51
def sM:au ["state","x","kind"] ["state","x"] (aj u6):=kA Xs
abbrev qh:Stmt:=top 52
def ol:au ["state","k","x","kind"] ["state","k","x"] (aj qh):=kA Xs
abbrev jQ:Stmt:=top 53
def hG:au ["cell","state","x","inner","more","loop","first","second","rows","tools"] ["cell"] (aj jQ):=kA Xs
abbrev kS:Stmt:=top 54
def bv:au ["program","outer","yard","part","name","names","body","statement","view","k","tool","hand"] ["program","outer","yard"] (aj kS):=kA Xs
abbrev lZ:Stmt:=top 55
def h8:au ["yards","steps","k","yard"] ["yards","steps"] (aj lZ):=kA Xs
abbrev y9:Stmt:=top 56
def dG:au ["script","k","cell","outer","program","code","alone","due","handed","given","yards","yard"] ["script"] (aj y9):=kA Xs
structure TS where
 free:Int
 held:List (Int×Int)
 que:List (Int×Int)
def ci:List (Int×Int)->Int->Int
 |[],_=>0
 |(k,x)::r,h=>if k=h then x else ci r h
def ma:List (Int×Int)->Int->Int->List (Int×Int)
 |[],h,x=>[(h,x)]
 |(k,y)::r,h,x=>if k=h then(k,x)::r else(k,y)::ma r h x
def gn(t:TS)(h n:Int):TS:={t.free-n,ma t.held h (ci t.held h+n),t.que}
def hk(held:List (Int×Int)):List (hH×V):=held.map λp=>(Sum.inl p.1,V.int p.2)
theorem qi:∀held:List (Int×Int),(bc (hk held) (Sum.inl h)).getD (.int 0)=.int (ci held h)
 |[]=>rfl
 |(k,x)::r=>by
  unfold hk ci;rw[QU];by_cases c:k=h;.rw [dP (by rw[c]),Xf c];rfl
  .rw [dQ (λe=>c (Sum.inl.inj e)),Xe c];exact qi r
theorem Js{h x:Int}(held:List (Int×Int))(nd:(held.map (·.1)).Nodup):bR (hk held) (Sum.inl h) (.int x)=hk (ma held h x):=by
 induction held with
 |nil=>rfl
 |cons p r a=>
  let{k,y}:=p;rw[QU,RA]at nd;have a:=a nd.2;unfold ma;by_cases c:k=h
  .rw [Xf c];subst c;unfold bR hk;rw[Xf (by rw[QU,Sr];simp),QU,QU,QU];congr 1;.simp
   .rw [Rb];refine RJ λp d=>?_;have:p.1≠k:=λe=>nd.1 (by rw[<-e];exact Rj (f:=(·.1)) d);simp[this]
  .rw [Xe c];unfold bR hk at a⊢;rw[QU,Sr];have i:decide ((Sum.inl k:hH)=Sum.inl h)=false:=decide_eq_false λe=>c (Sum.inl.inj e);rw[i,Bool.false_or];by_cases b:(List.map (λp=>((Sum.inl p.1:hH),V.int p.2)) r).any (λj=>decide (j.1=Sum.inl h))=true;.rw [Xf b]at a⊢;rw[QU,a,QU];congr 1;simp[c]
   .rw [Xe b]at a⊢;rw[Rn,a,QU]
def A4{h x:Int}(held:List (Int×Int))(nd:(held.map (·.1)).Nodup):((ma held h x).map (·.1)).Nodup/\(∀k,k∈(ma held h x).map (·.1)->k=h\/k∈held.map (·.1))/\(ma held h x).length<=held.length+1:=by
 induction held with
 |nil=>exact{List.nodup_cons.mpr {Q7,.nil},λk hk=>.inl (Xh hk),Xm _}
 |cons p r f=>
  let{k,y}:=p;rw[QU,RA]at nd;let{a,b,c}:=f nd.2;unfold ma;by_cases e:k=h;.rw [Xf e];exact{by rw[QU,RA];exact nd,λi d=>.inr d,by simp}
  .rw [Xe e,QU,RA];refine{{λz=>(b _ z).elim (λz=>e z) nd.1,a},λi d=>?_,by simp only[QP];ext};rcases Xi d with rfl|d
   .exact .inr QO
   .exact(b _ d).imp id λz=>QM _ z
def XO:List (Int×Int)->TS->List (Int×Int)×TS
 |[],t=>([],t)
 |(h,n)::q,t=>if n<=t.free then((h,n)::(XO q (gn {(t.free),t.held,q} h n)).1,(XO q (gn {(t.free),t.held,q} h n)).2)else([],t)
theorem oO(c:n<=t.free):XO ((h,n)::q) t=((h,n)::(XO q (gn {(t.free),t.held,q} h n)).1,(XO q (gn {(t.free),t.held,q} h n)).2):=by show(if n<=t.free then _ else _)=_;rw[Xf c]
inductive N0 (H:Hp):List V->List (Int×Int)->Prop
 |nil:N0 H [] []
 |cons {p:Tu} {h n:Int} {vs:List V} {ps:List (Int×Int)}:H p=!(.tup [.int h,.int n])->N0 H vs ps->N0 H (.ref p::vs) ((h,n)::ps)
theorem N0.mono(g:∀c xs,H c=!(.tup xs)->H' c=!(.tup xs)):∀{vs:List V} {a:List (Int×Int)},N0 H vs a->N0 H' vs a:=by
 intro e f b;induction b with
 |nil=>exact .nil
 |cons h r d=>exact .cons (g _ _ h) d
theorem N0.length:∀{vs:List V} {a:List (Int×Int)},N0 H vs a->vs.length=a.length:=by
 intro d e b;induction b with
 |nil=>exact rfl
 |cons _ r c=>rw[QP,QP,c]
def N0.snoc(b:H p=!(.tup [.int h,.int n])):∀{vs:List V} {a:List (Int×Int)},N0 H vs a->N0 H (vs++[.ref p]) (a++[(h,n)]):=by
 intro e f c;induction c with
 |nil=>exact .cons b .nil
 |cons h r d=>exact .cons h d
def XS(a d q:Tu)(H b:Hp):Prop:=∀c u,c≠a->c≠d->c≠q->H c=!u->b c=!u
def hs:List Int:=(List.range 60).map λ(i:Nat)=>((i:Int)+1)
def Jt(t:TS):Prop:=(∀p∈t.held,p.1∈hs)/\∀p∈t.que,p.1∈hs
theorem tU:∀{l m:List Int},l.Nodup->(∀x∈l,x∈m)->l.length<=m.length
 |[],m,_,_=>Ra _
 |x::l,m,nd,h=>by rw[RA]at nd;have a:=h x QO;have c:∀y∈l,y∈m.erase x:=λy b=>(List.mem_erase_of_ne (λz=>nd.1 (by rw[<-z];exact b))).mpr (h y (QM _ b));have:=tU nd.2 c;rw[List.length_erase_of_mem a]at this;have d:=List.length_pos_of_mem a;rw[QP];ext
def u8(nd:(t.held.map (·.1)).Nodup)(h:Jt t):t.held.length<=60:=by
 have:=tU nd λx a=>by let{p,b,e}:=Xl a;exact e▸h.1 p b
 rw[QL]at this;exact this
def tf(C:Tu)(H:Hp)(a d q:Tu)(t:TS):Prop:=∃c b,H a=!(.ins C c [("free",.int t.free),("held",.ref d),("queue",.ref q)])/\H d=!(.dK (hk t.held))/\H q=!(.lst b)/\N0 H b t.que/\(t.held.map (·.1)).Nodup/\Jt t/\t.que.length<=200
#print a
def xu(C:Tu):Sp:=λf H Q _=>∃(a e:Tu) (n:Int),f= [.ref a,.int n]/\H a=!(.ins C e [])/\∀(d q:Tu) (b:Hp),H d=none->H q=none->(∀c u,c≠a->H c=!u->b c=!u)->tf C b a d q {n,[],[]}->Q .non b
def FM(D:oD K mg "Tool" C "Tool.__init__" jq ["self","count"])(o:jp K C)(M:cD K C "free")(N:cD K C "held")(O:cD K C "queue"):%[1,"Tool",C,["count"]|xu C]:=by
 exists D.ok oK;let{a,R,n,rfl,Y,q}:=h;exists _,(aa (aG o M (pv 0) (pv 1)) (aa (aG o N (pv 0) ux) (ae (aG o O (pv 0) (aQ bJ)))));walk_at "rd";intro Z b d S I r T;have a2:=r _ _ b.at_;walk_at "rd";intro H3 e i H4 J v U;have a4:=v _ _ e.at_;walk_at "rd";intro W j;have nd:=(ax b.at_ I).symm;have x:=(ax e.at_ J).symm;have X:=e.old T nd;have y:H d=none:=by rw[<-b.else_ d nd];exact I
 have z:S i=none:=by rw[<-e.else_ i x];exact J
 have B:H i=none:=by rw[<-b.else_ i x];exact r.free z
 refine q d i W y B (λc u F hc=>j.old (v _ _ (e.old (r _ _ (b.old hc F)) F)) F) {R,[],j.at_,j.old (v _ _ X) nd,j.old U x,.nil,.nil,{λp G=>absurd G Q7,λp G=>absurd G Q7},by simp}
theorem XS.trans(g:XS a d q H H')(i:XS a d q H' H''):XS a d q H H'':=λc u b e f h=>i c u b e f (g c u b e f h)
def tV(C:Tu):Sp:=λc H Q _=>∃(a d q:Tu) (t:TS) (h n:Int),c= [.ref a,.int h,.int n]/\tf C H a d q t/\h∈hs/\∀b,XS a d q H b->tf C b a d q (gn t h n)->Q .non b
def Ju(D:hW K mg "hand_out" pY ["tool","hand","n"])(r:jp K C)(J:cD K C "free")(M:cD K C "held"):%[1,"hand_out",["tool","hand","n"]|tV C]:=by
 exists D.ok wH;let{a,d,N,t,h,n,rfl,{S,T,v,b,e,U,x,y,W},X,q}:=h;have O:=bA hr;have big:=_bg
 exists _,(aa (aG r J (pv 0) (aM dF (ah r J (pv 0)) (pv 2))) (ae (gM O (ah r M (pv 0)) (pv 1) (aM bE (lH O (ah r M (pv 0)) (pv 1) ac {(rfl),rfl,rfl,rfl}) (pv 2)))));walk_at "rd";intro H1 i;have j:d≠a:=λz=>by rw[z,v]at b;cases b
 have B:N≠a:=λz=>by rw[z,v]at e;cases e
 have F:N≠d:=λz=>by rw[z,b]at e;cases e
 have Y:=i.at_;have d1:=i.old b j;have lh:(hk t.held).length=t.held.length:=by unfold hk;rw[QL]
 have Z:=u8 x y;walk_at "rd";refine{{_,rfl},_,qi _,by ext,λR o=>?_};let{p1,p2,p3}:=A4 t.held x;have nt:∀c G,H c=!(.tup G)->R c=!(.tup G):=λc G hc=>o.old (i.old hc (λz=>by rw[z,v]at hc;cases hc)) (λz=>by rw[z,b]at hc;cases hc);refine q R (λc u n1 n2 _ hc=>o.old (i.old hc n1) n2) {S,T,o.old Y (Ne.symm j),?_,o.old (i.old e B) F,U.mono nt,p1,{λp hp=>(p2 p.1 (Rj (f:=(·.1)) hp)).elim (λz=>z▸X) (λz=>by let{p',I,e'}:=Xl z;exact e'▸y.1 p' I),y.2},W};rw[o.at_,Js _ x];rfl
def Jw(C:Tu):Sp:=λc H Q _=>∃(a d q:Tu) (t:TS) (h n:Int),c= [.ref a,.int h,.int n]/\tf C H a d q t/\h∈hs/\∀b,XS a d q H b->tf C b a d q (gn t h (-n))->Q .non b
def LH(D:hW K mg "hand_in" sK ["tool","hand","n"])(c:%[1,"hand_out",["tool","hand","n"]|tV C]):%[2,"hand_in",["tool","hand","n"]|Jw C]:=by exists D.ok y8;let{a,d,e,t,h,n,rfl,i,j,q}:=h;exists _,(ae (av (aB c hr rfl (aW (pv 0) (pv 1) (yo um (pv 2))))));walk_at "rd";exact{a,d,e,t,h, -n,rfl,i,j,λo r b=>q o r b}
inductive X8 (w:VA) (H:Hp):List V->List (Int×Int)->Prop
 |nil:X8 w H [] []
 |cons {p:Tu} {h n:Int} {vs:List V} {ps:List (Int×Int)}:H p=!(.tup [.int h,.str w,.int n])->X8 w H vs ps->X8 w H (.ref p::vs) ((h,n)::ps)
theorem X8.mono{w:VA}(g:∀c xs,H c=!(.tup xs)->H' c=!(.tup xs)):∀{vs:List V} {a:List (Int×Int)},X8 w H vs a->X8 w H' vs a:=by
 intro e f b;induction b with
 |nil=>exact .nil
 |cons h r d=>exact .cons (g _ _ h) d
theorem X8.length{w:VA}:∀{vs:List V} {a:List (Int×Int)},X8 w H vs a->vs.length=a.length:=by
 intro d e b;induction b with
 |nil=>exact rfl
 |cons _ r c=>rw[QP,QP,c]
def X8.snoc{w:VA}(b:H p=!(.tup [.int h,.str w,.int n])):∀{vs:List V} {a:List (Int×Int)},X8 w H vs a->X8 w H (vs++[.ref p]) (a++[(h,n)]):=by
 intro e f c;induction c with
 |nil=>exact .cons b .nil
 |cons h r d=>exact .cons h d
theorem tf.ne(h:tf C H a d q t):∀c xs,H c=!(.tup xs)->c≠a/\c≠d/\c≠q:=by
 let{b,e,f,i,j,_}:=h;intro c xs hc;refine{λz=>?_,λz=>?_,λz=>?_};.grind
 .lia
 .lia
theorem tf.kt(h:tf C H a d q t)(f:XS a d q H H'):∀c xs,H c=!(.tup xs)->H' c=!(.tup xs):=λc xs hc=>by let{b,e,i}:=h.ne c xs hc;exact f c _ b e i hc
def gq(h:H p=!(.lst xs)):BW K (.ref p) H (not xs.isEmpty):=.inl {_,ip.of h,rfl}
def tf.grow(h:tf C H a d q t)(g:∀c u,(c=a\/c=d\/c=q\/∃xs,u=HO.tup xs)->H c=!u->H' c=!u):tf C H' a d q t:=by let{b,e,f,i,j,n,o}:=h;exact{b,e,g _ _ (.inl rfl) f,g _ _ (.inr (.inl rfl)) i,g _ _ (.inr (.inr (.inl rfl))) j,n.mono λc xs hc=>g _ _ (.inr (.inr (.inr {(xs),rfl}))) hc,o}
def StI(C a d q r:Tu)(t:TS)(H:Hp)(m:Nat)(σ:St)(c:Hp):Prop:=∃(f:List V) (e:List (Int×Int)) (b:TS) (h i:Option V),σ= [!(.ref a),!(.ref r),h,i]/\XS a d q H c/\c r=!(.lst f)/\X8 "takes" c f e/\tf C c a d q b/\e++(XO b.que b).1=(XO t.que t).1/\(XO b.que b).2=(XO t.que t).2/\e.length+b.que.length<=200/\m=b.que.length
def StZ(C a d q r:Tu)(t:TS)(H:Hp)(σ:St)(b:Hp):Prop:=∃(c:List V) (e f:Option V),σ= [!(.ref a),!(.ref r),e,f]/\XS a d q H b/\b r=!(.lst c)/\X8 "takes" b c (XO t.que t).1/\tf C b a d q (XO t.que t).2
def xw(C:Tu):Sp:=λe H Q _=>∃(a d q:Tu) (t:TS),e= [.ref a]/\tf C H a d q t/\
 ∀(r:Tu) (b:Hp) (c:List V),H r=none->XS a d q H b->b r=!(.lst c)->X8 "takes" b c (XO t.que t).1->tf C b a d q (XO t.que t).2->Q (.ref r) b
def CU(D:hW K mg "serve_takers" jO ["tool"])(NR:jp K C)(NW:cD K C "free")(NV:cD K C "queue")(Oy:%[1,"hand_out",["tool","hand","n"]|tV C]):%[2,"serve_takers",["tool"]|xw C]:=by
 exists D.ok dM;let{a,d,v,t,rfl,tl,q}:=h;have big:=_bg
 exists _,(aa (aT 1 dM (aQ bJ)) (aa (jf (ga Tl.never (PW.pt (jE (dz (ah NR NV (pv 0)) (λ_=>rfl)) (iD (aK tR (ar (ar (ah NR NV (pv 0)) ac) ac) (ah NR NW (pv 0)))))) (aa (bW (pD Tb TB TC jh (ah NR NV (pv 0)) (aD ac)) (bG 2 rfl (aC (aZ 2 dM) (aC (aZ 3 dM) bB)))) (aa (av (aB Oy hr rfl (aW (pv 0) (pv 2) (pv 3)))) (ae (av (a8 (pv 1) (am (aW (pv 2) aq (pv 3)))))))))) (ae (aw (pv 1)))));symm;intro r H1 b J h1;refine{StZ C a d v r t H,?_,?_}
 .refine{StI C a d v r t H,{t.que.length,?_},?_}
  .unfold StI;let{dx,qs,M,N,F,G,k5,O,R}:=tl;exact{[],[],t,_,_,rfl,λc u _ _ _ hc=>J _ _ hc,h1,.nil,{dx,qs,J _ _ M,J _ _ N,J _ _ F,G.mono λ_ _ hc=>J _ _ hc,k5,O,R},rfl,rfl,by simp only[Rl];ext,rfl}
  .intro m σ H2 z;unfold StI at z;let{sv,dn,j,v2,v3,rfl,f3,h2,sd,o,e1,e2,b2,rfl}:=z;let{dx,qs,M,N,F,G,k5,O,R}:=id o;clear h1;symm;have x:r≠v:=by let{_,_,_,_,kq,_}:=tl;exact λz=>by rw[z,kq]at b;cases b
   have fin:(XO j.que j)=([],j)->∀v2 v3,StZ C a d v r t H [!(.ref a),!(.ref r),v2,v3] H2:=λe v2 v3=>by
    rw[e]at e1 e2;unfold StZ;refine{sv,_,_,rfl,f3,h2,?_,?_};.rw [<-e1,Rf];exact sd
    .rw [<-e2];exact o
   exists not qs.isEmpty,gq F;cases i:j.que with
   |nil=>rw[i]at G;cases G;exact lB (fin (by rw[i];rfl) _ _)
   |cons p0 I=>
    let{h,n}:=p0;rw[i]at G;cases G with
    |cons S T=>
    rename_i pa a0;apply lC;symm;refine cR (λc=>?_) λc=>?_
    rotate_left
    .symm;exact fin (by rw[i];unfold XO;rw[Xe c]) _ _
    rw[<-i];refine{λσ' H'=>∃m',m'<j.que.length/\StI C a d v r t H m' σ' H',λ_ _ z=>z,?_};symm;refine{{_,ip.of F},?_};symm;refine{by ext,_,by have:=T.length;rw[i]at R;simp only[QP]at R⊢;ext,rfl,λH3 y=>?_};have a1:=(o.ne pa _ S).2.2;have ad:=y.old S a1;obtain⟨U,W⟩:r≠a/\r≠d:=(by let{_,_,ka,kd,_}:=tl;exact{λz=>(by rw[z,ka]at b;cases b),λz=>(by rw[z,kd]at b;cases b)});have a2:a≠v:=λz=>by rw[z,F]at M;cases M
    have a3:d≠v:=λz=>by rw[z,F]at N;cases N
    have X:=λc Y hc=>y.old hc (o.ne c Y hc).2.2;have Z:tf C H3 a d v ⟨j.free,j.held,I⟩:={dx,a0,y.old M a2,y.old N a3,y.at_,T.mono X,k5,{O.1,λp hp=>O.2 p (by rw[i];exact QM _ hp)},by rw[i,QP]at R;show I.length<=200;ext}
    rw[i,QP]at b2;symm;refine{a,d,v,{(j.free),j.held,I},h,n,rfl,Z,O.2 (h,n) (by rw[i];exact QO),λH4 f4 a4=>?_};have B:=f4 r _ U W x (y.old h2 x);have ls:=sd.length;symm;intro p5 H5 a5 g5 h5;have af:=g5 _ _ B;symm;refine{by ext,λH6 m6=>{I.length,by first|(rw[i,QP];ext)|ext,?_}};have a9:=λc Y hc=>m6.old (g5 _ _ (Z.kt f4 c Y (X c Y hc))) λz=>by rw[z,h2]at hc;cases hc
    have ab:=(ax B a5).symm;refine{sv++[.ref p5],dn++[(h,n)],gn {(j.free),j.held,I} h n,_,_,rfl,λc u n1 n2 n3 hc=>m6.old (g5 _ _ (f4 c u n1 n2 n3 (y.old (f3 c u n1 n2 n3 hc) n3))) (ax hc b),m6.at_,(sd.mono a9).snoc (m6.old h5 ab),a4.grow λc u hc e=>m6.old (g5 _ _ e) (λz=>?_),?_,?_,?_,rfl}
    .rcases hc with rfl|rfl|rfl|⟨Y,rfl⟩
     .exact U z.symm
     .exact W z.symm
     .exact x z.symm
     .rw [z,B]at e;cases e
    .rw [<-e1,i,QQ];congr 1;rw[oO c];rfl
    .rw [<-e2,i,oO c];rfl
    .show(dn++[(h,n)]).length+I.length<=200;rw[QN,Q0];ext
 .intro σ H2 z;let{sv,v2,v3,rfl,f3,h2,sd,o}:=z;symm
end
theorem bj{α:Type}{xs:List α}{x:α}(h:xs[i]? =!x):xs.take (i+1)=xs.take i++[x]:=by let{a,b}:=Xj h;rw[<-List.take_append_getElem a,b]
def EC{i:Nat}(h:(hk held)[i]? =!(k,x)):∃a n,k=Sum.inl a/\x=.int n/\held[i]? =!(a,n):=by
 unfold hk at h;rw[QY]at h;cases e:held[i]? with
 |none=>simp_all
 |some p=>rw[e]at h;cases h;exact{(p.1),p.2,rfl,rfl,rfl}
def Xy(c H:Hp)(v:V)(t:TS)(e:List (Int×Int)):Prop:=∃(p a b:Tu) (hs d:List V),v=.ref p/\H p=!(.tup [.int t.free,.ref a,.ref b])/\H a=!(.lst hs)/\N0 H hs e/\H b=!(.lst d)/\N0 H d t.que/\c a=none/\c b=none
def _Y(a:List (Int×Int))(t:TS):Prop:=a.Perm (t.held.filter λp=>decide (0<p.2))/\a.Pairwise (λp r=>p.1<r.1)
def N0.refs{H:Hp}{vs:List V}{c:List (Int×Int)}(z:N0 H vs c):∃a:List (Tu×List Int),vs=a.map (λq=>V.ref q.1)/\a.map (·.2)=c.map (λp=>[p.1,p.2])/\∀q∈a,H q.1=!(.tup (q.2.map V.int)):=by
 induction z with
 |nil=>exact{[],rfl,rfl,λq b=>absurd b Q7}
 | @cons p h n vs c d r e=>
  let{a,e1,e2,f}:=e;refine{(p,[h,n])::a,by rw[e1];rfl,by rw[QU,e2];rfl,λq b=>?_};rcases Xi b with rfl|b
  .exact d
  .exact f q b
def Zg(l:List Int):Int×Int:=(l.getD 0 0,l.getD 1 0)
def Jx{H:Hp}{c:List (Tu×List Int)}(h:∀q∈c,q.2.length=2/\H q.1=!(.tup (q.2.map V.int))):N0 H (c.map λq=>V.ref q.1) (c.map λq=>Zg q.2):=by
 induction c with
 |nil=>exact .nil
 |cons q c f=>let{p,l}:=q;let{e,d}:=h _ QO;revert d;exact _L._S l e λa b d=>.cons d (f λq i=>h q (QM _ i))
def Nh(h:_T.aL [a,b] [c,d]=true)(ne:a≠c):a<c:=by rw[_T.bM,Xe ne]at h;exact of_decide_eq_true h
#print a
def _E(held:List (Int×Int))(i:Nat)(a:List V)(b:St)(c:Hp):Prop:=N0 c a ((held.take i).filter λp=>decide (0<p.2))/\∃d e,b= [d,e]
def A5(C:Tu):Sp:=λe H Q _=>∃(a d q:Tu) (t:TS),e= [.ref a]/\tf C H a d q t/\∀(v:V) (b:Hp) (c:List (Int×Int)),dA H b->Xy H b v t c->_Y c t->Q v b
def FN{C:Tu}(D:hW K mg "told_tool" nU ["tool"])(Y:jp K C)(NW:cD K C "free")(NX:cD K C "held")(NV:cD K C "queue")(OJ:mg "sorted" =none)(N5:mg "list" =none):%[1,"told_tool",["tool"]|A5 C]:=by
 exists D.ok uZ;let{a,d,q0,t,rfl,{dx,qs,k1,k2,k3,k4,k5,Z,k7},q}:=h;have k6:=u8 k5 Z;have big:=_bg
 have lh:(hk t.held).length=t.held.length:=by unfold hk;rw[QL]
 refine{_,(ae (aw (am (aW (ah Y NW (pv 0)) (jx (lJ rfl) OJ (aD (uE (dv 2 ["hand","n"] [] (Cy (ah Y NX (pv 0))) (λn _ _ _ _=>(bG 2 rfl (aC (dq 0 n) (aC (dq 1 n) bB)))) (λ_ _ _ _=>(Fs (aK gB (pv 1) ac))) (λ_ _ _ _=>(am (ay (pv 0) (pv 1)))))))) (cn d9 N5 (aD (ah Y NV (pv 0)))))))),?_};walk_at "rd";refine bD ?_;simp only[AJ];walk_at "rd";intro o nf;refine wv aA Xu (λ_=>_E t.held) (λD H' _ _ _=>by unfold _E;exact{.nil,_,_,rfl}) ?_ ?_
 .rintro D i k x ys σ1 T p H2 hx j pv hp v U;unfold _E at pv;let{J,v0,v1,rfl}:=pv;let{h,n,rfl,rfl,eh}:=EC hx;have U:H2 p=!(.tup [.int h,.int n]):=U;walk_at "rd";refine cR (λc p3 H3 a0 B h3=>j.put (v.trans B) λH4 mu=>?_) λc=>j.skip v ?_;.unfold _E;refine{?_,_,_,rfl};rw[bj eh,List.filter_append,R3,Xf (~~~c),List.filter_nil];have nD:p3≠D:=(ax (v _ _ j.lst) a0).symm;exact(J.mono λc W hc=>mu.old (B _ _ (v _ _ hc)) λz=>(by rw[z,j.lst]at hc;cases hc)).snoc (mu.old h3 nD)
  .unfold _E;refine{?_,_,_,rfl};rw[bj eh,List.filter_append,R3,Xe (~~~c),List.filter_nil,Rf];exact J.mono λc W hc=>v _ _ hc
 .rintro D ys σ1 T hD g1 hy ab pv;unfold _E at pv;let{J,_}:=pv;rw[QZ Xu]at J;have a1:D≠d:=λz=>by rw[z,aA]at hD;cases hD
  have SH:dA H (jl T d (.dK (hk t.held))):=λc u hc=>by
   by_cases z:c=d;.rw [z,aA];rw[z,k2]at hc;exact hc
   .rw [aN z];exact g1 _ _ (by rw[aN z];exact hc)
  have d1:T d=!(.frz o (.dK (hk t.held))):=g1 _ _ aA;have N:N0 (jl T d (.dK (hk t.held))) ys (t.held.filter λp=>decide (0<p.2)):=J.mono λc W hc=>by rw[aN (λz=>by rw[z,d1]at hc;cases hc)];exact hc
  have lf:=J.length;have a3:=List.length_filter_le (λp:Int×Int=>decide (0<p.2)) t.held;have G:((t.held.filter λp=>decide (0<p.2)).map (·.1)).Nodup:=List.Nodup.sublist (List.Sublist.map _ List.filter_sublist) k5;generalize hF:(t.held.filter λp=>decide (0<p.2))=F at N lf a3 G;let{I,e1,e2,f}:=N.refs;have la:I.length=F.length:=by have:=congrArg List.length e2;rw[QL,QL]at this;exact this
  have O:∀q∈I,q.2.length=2:=λq M=>by let{x,_,hx}:=Xl (show q.2∈F.map (λp=>[p.1,p.2]) by rw[<-e2];exact Rj M);rw[<-hx];rfl
  have e3:I.map (λq=>Zg q.2)=F:=by have:=congrArg (List.map Zg) e2;rw[Rb,Rb]at this;rw[show(I.map λq=>Zg q.2)=I.map (Zg∘λx=>x.2)from rfl,this];exact List.map_id' F
  have kn:I.Pairwise (λq r=>(Zg q.2).1≠(Zg r.2).1):=by rw[<-e3,Rb]at G;exact List.pairwise_map.mp G
  subst e1;refine{d,nf,o,_,d1,D,rfl,I,by rw[aN a1];exact hy,f,2,by decide,O,kn.imp λh z=>h (by rw[z]),by unfold SN;ext,λDS H2 zs a4 v U X sz=>?_};have R:=SH.trans v;have a2:=R _ _ k1;have q2:=R _ _ k3;have zl:∀q∈zs,q.2.length=2/\H2 q.1=!(.tup (q.2.map V.int)):=λq M=>{O q (X.mem_iff.mp M),v _ _ (f q (X.mem_iff.mp M))}
  have a5:=Jx zl;have kz:zs.Pairwise (λq r=>(Zg q.2).1≠(Zg r.2).1):=(X.pairwise_iff λh=>h.symm).mpr kn;have pm:_Y (zs.map λq=>Zg q.2) t:=by refine{by rw[hF,<-e3];exact X.map _,List.pairwise_map.mpr ?_};refine List.Pairwise.imp_of_mem (λ{q r} M hr h=>?_) (sz.and kz);let{a,b}:=q;let{c,e}:=r;have l1:=(zl _ M).1;have O:=(zl _ hr).1;let{x,b,rfl}:=List.exists_cons_of_length_eq_add_one l1;let{z,e,rfl}:=List.exists_cons_of_length_eq_add_one O;let{y,rfl}:=List.length_eq_one_iff.mp (Nat.succ.inj l1);let{w,rfl}:=List.length_eq_one_iff.mp (Nat.succ.inj O);exact Nh h.1 h.2
  clear k1 k3;walk_at "rd";intro l3 H3 a9 B h3 p4 H4 ad S h4;exact q (.ref p4) H4 _ ((R.trans B).trans S) {p4,DS,l3,_,qs,rfl,h4,S _ _ (B _ _ U),a5.mono λc W hc=>S _ _ (B _ _ hc),S _ _ h3,k4.mono λc W hc=>S _ _ (B _ _ (R _ _ hc)),SH.free a4,R.free a9} pm
end
structure R4 where
 name:VA
 a:Tu
 d:Tu
 q:Tu
 c:Int
 t:TS
def XD(es:List R4):List (hH×V):=es.map λe=>(Sum.inr e.name,V.ref e.a)
inductive Yv (H:Hp):List V->List (VA×Int)->Prop
 |nil:Yv H [] []
 |cons {p:Tu} {s:VA} {n:Int} {vs:List V} {ps:List (VA×Int)}:H p=!(.tup [.str s,.int n])->Yv H vs ps->Yv H (.ref p::vs) ((s,n)::ps)
theorem Yv.get(t:Yv H vs ps):∀{i:Nat} {v:V},vs[i]? =!v->∃p s n,v=.ref p/\ps[i]? =!(s,n)/\H p=!(.tup [.str s,.int n]):=by
 induction t with
 |nil=>intro i v e;simp at e
 |cons a _ b=>
  intro i v e;cases i with
  |zero=>simp at e;exact{_,_,_,e.symm,rfl,a}
  |succ i=>simpa using b (i:=i) (~~~e)
theorem Yv.length:∀{vs:List V} {a:List (VA×Int)},Yv H vs a->vs.length=a.length:=by
 intro d e b;induction b with
 |nil=>exact rfl
 |cons _ r c=>rw[QP,QP,c]
inductive Yz (C:Tu) (H:Hp):List V->List R4->Prop
 |nil:Yz C H [] []
 |cons {p:Tu} {e:R4} {vs:List V} {es:List R4}:H p=!(.tup [.str e.name,.ref e.a])->tf C H e.a e.d e.q e.t->Yz C H vs es->Yz C H (.ref p::vs) (e::es)
theorem tf.same(g:dA H H')(h:tf C H a d q t):tf C H' a d q t:=h.grow λc u _ e=>g _ _ e
theorem Yz.mono(g:dA H H'):∀{vs:List V} {es:List R4},Yz C H vs es->Yz C H' vs es:=by
 intro c d a;induction a with
 |nil=>exact .nil
 |cons h t r b=>exact .cons (g _ _ h) (t.same g) b
def Yz.snoc(a:H p=!(.tup [.str e.name,.ref e.a]))(b:tf C H e.a e.d e.q e.t):∀{vs:List V} {es:List R4},Yz C H vs es->Yz C H (vs++[.ref p]) (es++[e]):=by
 intro f i c;induction c with
 |nil=>exact .cons a b .nil
 |cons h t r d=>exact .cons h t d
theorem Yz.cc:∀{vs:List V} {es:List R4},Yz C H vs es->XG H vs (XD es):=by
 intro c d a;induction a with
 |nil=>exact .nil
 |cons h _ r b=>exact .cons h b
theorem Yz.at(t:Yz C H vs es):∀e∈es,tf C H e.a e.d e.q e.t:=by
 induction t with
 |nil=>simp_all
 |cons _ t _ a=>simp_all
theorem dX(a c:List (hH×V))(nd:((c++a).map (·.1)).Nodup):a.foldl (λc p=>bR c p.1 p.2) c=c++a:=by
 induction a generalizing c with
 |nil=>exact(Rf c).symm
 |cons p a b=>
  have no:¬(c.any λd=>decide (d.1=p.1))=true:=λz=>by let{x,f,e}:=List.any_eq_true.mp z;rw[QT,RM]at nd;exact nd.2.2 x.1 (Rj f) p.1 eq (of_decide_eq_true e)
  have e:bR c p.1 p.2=c++[p]:=by unfold bR;rw[Xe no]
  rw[List.foldl_cons,e,b (c++[p]) (by rw[QQ];exact nd),QQ];rfl
def jR{xs:List VA}(h:xs.Nodup):(xs.map (Sum.inr:VA->hH)).Nodup:=by grind
def ml(es:List R4):List Tu:=es.flatMap λe=>[e.a,e.d,e.q]
def qX(h:c∈ml es):∃e∈es,c=e.a\/c=e.d\/c=e.q:=by let{e,a,hc}:=List.mem_flatMap.mp h;simp at hc;exact{(e),a,hc}
theorem tf.has(h:tf C H a d q t):(∃u,H a=!u)/\(∃u,H d=!u)/\∃u,H q=!u:=by let{_,_,b,c,e,_}:=h;exact{{_,b},{_,c},{_,e}}
theorem tf.nd(h:tf C H a d q t):[a,d,q].Nodup:=by
 let{_,_,b,c,e,_}:=h;have f:a≠d:=λz=>by rw[z,c]at b;cases b
 have i:a≠q:=λz=>by rw[z,e]at b;cases b
 have j:d≠q:=λz=>by rw[z,e]at c;cases c
 simp[f,i,j]
def gv(h:∀e∈es,tf C H e.a e.d e.q e.t):∀c∈ml es,∃u,H c=!u:=λc hc=>by
 let{e,a,z}:=qX hc;let{b,d,f}:=(h e a).has;rcases z with rfl|rfl|rfl
 .exact b
 .exact d
 .exact f
#print a
def ToP(C:Tu)(H:Hp)(a:List (VA×Int))(D:Tu)(i:Nat)(b:List V)(d:St)(f:Hp):Prop:=∃(es:List R4) (h j:Option V),d= [h,j]/\Yz C (bF D f) b es/\es.map (λe=>(e.name,e.c,e.t))=(a.take i).map (λp=>(p.1,p.2,{p.2,[],[]}))/\(ml es).Nodup/\∀c∈ml es,H c=none
def sN(C:Tu):Sp:=λq H Q _=>∃(f h:Tu) (j n o:V) (i:List V) (a:List (VA×Int)),q= [.ref f]/\H f=!(.tup [.ref h,j,n,o])/\H h=!(.lst i)/\Yv H i a/\a.length<=10/\(a.map (·.1)).Nodup/\
 ∀(d:Tu) (b:Hp) (es:List R4),H d=none->dA H b->b d=!(.dK (XD es))->(∀e∈es,tf C b e.a e.d e.q e.t)->es.map (λe=>(e.name,e.c,e.t))=a.map (λp=>(p.1,p.2,{p.2,[],[]}))->(d::ml es).Nodup->(∀c∈ml es,H c=none)->Q (.ref d) b
def za(D:hW K mg "tools_of" pX ["program"])(P4:%[1,"Tool",C,["count"]|xu C])(OC:mg "dict" =none):%[3,"tools_of",["program"]|sN C]:=by
 exists D.ok wG;let{pp,p0,x1,x2,x3,ys,T,rfl,h1,h2,h3,h4,U,q}:=h;have big:=_bg
 have ly:=h3.length;refine{_,(ae (aw (cn eJ OC (aD (dv 2 ["name","count"] [] (bC (ar (pv 0) ac)) (λn _ _ _ _=>(bG 2 rfl (aC (dq 0 n) (aC (dq 1 n) bB)))) (λ_ _ _ _=>cc) (λ_ _ _ _=>(am (ay (pv 0) (fj P4 hr rfl (aD (pv 1))))))))))),?_};walk_at "rd";apply bD;simp only[cC];walk_at "rd";refine{{_,ip.of h2},de h2 Xu (ToP C H T) (λD H' _ _ _=>by unfold ToP;exact{[],_,_,rfl,.nil,rfl,.nil,λe W=>absurd W Q7}) ?_ ?_}
 .rintro D i x zs σ1 S hx b pv;unfold ToP at pv;let{es,v0,v1,rfl,pt,F,X,fr}:=pv;let{p,Y,n,rfl,en,hp}:=h3.get hx;have a5:=b.same _ _ hp;walk_at "rd";intro x dx H2 j a9 G Z a4;refine{x,dx,n,rfl,Z,λI J H3 a0 a1 k3 M=>{rfl,λp4 H4 a2 g4 h4=>?_}};have a3:∀{c u},S c=!u->c≠x:=λhc=>ax hc j;have o:dA S H3:=λc u hc=>k3 c u (a3 hc) (G _ _ hc);have N:=b.lst;refine b.put (o.trans g4) λH5 mu=>?_;unfold ToP;have SD:=(dU (o.trans g4)).trans (eI mu);have O:∀{c},S c=none->c≠D:=λhc=>(ax N hc).symm;have v:=G.free a0;have B:=G.free a1;have r:=o.free a2;refine{es++[{Y,x,I,J,n,{n,[],[]}}],_,_,rfl,(pt.mono SD).snoc (aV (O r) (mu.old h4 (O r))) (M.grow λc u hc e=>?_),by rw[QT,F,bj en,QT];rfl,?_,λc hc=>?_}
  .have nc:c≠D:=by
    rcases hc with rfl|rfl|rfl|⟨xs,rfl⟩
    .exact O j
    .exact O v
    .exact O B
    .exact λz=>by rw[z,o _ _ N]at e;cases e
   exact aV nc (mu.old (g4 _ _ e) nc)
  .have ea:ml (es++[⟨Y,x,I,J,n,⟨n,[],[]⟩⟩])=ml es++[x,I,J]:=by unfold ml;rw[Rm];rfl
   rw[ea,RM];refine{X,M.nd,λc hc y hy z=>?_};let{u,d}:=gv (pt.mono cz).at c hc;rw[z]at d;simp at hy;rcases hy with rfl|rfl|rfl
   .rw [j]at d;cases d
   .rw [v]at d;cases d
   .rw [B]at d;cases d
  .have ea:ml (es++[⟨Y,x,I,J,n,⟨n,[],[]⟩⟩])=ml es++[x,I,J]:=by unfold ml;rw[Rm];rfl
   rw[ea]at hc;rcases Xk hc with hc|hc
   .exact fr c hc
   .simp at hc;rcases hc with rfl|rfl|rfl;.exact b.same.free j
    .exact b.same.free v
    .exact b.same.free B
 .rintro D zs σ1 S hD g1 hy ab pv;let{es,v0,v1,rfl,pt,F,X,fr}:=pv;rw[QZ Xu]at F;have le:es.length=T.length:=by have:=congrArg List.length F;rw[QL,QL]at this;exact this
  walk_at "rd";refine{XD es,(pt.mono cz).cc,by unfold XD;rw[QL];ext,λl H2 hl G R=>?_};have nn:((XD es).map (·.1)).Nodup:=by have e1:(XD es).map (·.1)=(T.map (·.1)).map Sum.inr:=(by have:=congrArg (List.map (λx:VA×Int×TS=>(Sum.inr x.1:hH))) F;rw[Rb,Rb]at this;unfold XD;rw[Rb,Rb];exact this);rw[e1];exact jR U
  have ep:bU (XD es)=XD es:=dX _ [] nn;rw[ep]at R;have nl:l∉ml es:=λz=>by let{u,d}:=gv (pt.mono cz).at l z;rw[hl]at d;cases d
  exact q l H2 es (g1.free hl) (g1.trans G) R (λe W=>((pt.mono cz).mono G).at e W) F (List.nodup_cons.mpr {(nl),X}) fr
end
structure SS where
 level:Int
 most:Int
 gets:List (Int×Int)
 puts:List (Int×Int)
def gw(s:SS):Option ((Int×Bool×Int)×SS):=match s.puts with
 |[]=>none
 |(h,n)::p=>if s.level+n<=s.most then some ((h,false,n),{s.level+n,s.most,s.gets,p})else none
def YD(s:SS):Option ((Int×Bool×Int)×SS):=match s.gets with
 |[]=>gw s
 |(h,n)::g=>if n<=s.level then some ((h,true,n),{s.level-n,s.most,g,s.puts})else gw s
inductive YL:SS->List (Int×Bool×Int)->SS->Prop
 |done {s:SS}:YD s=none->YL s [] s
 |step {s s1 s':SS} {it:Int×Bool×Int} {its:List (Int×Bool×Int)}:YD s=!(it,s1)->YL s1 its s'->YL s (it::its) s'
def u9(b:Bool):VA:=if b=true then "gets" else "puts"
inductive XZ (H:Hp):List V->List (Int×Bool×Int)->Prop
 |nil:XZ H [] []
 |cons {p:Tu} {h n:Int} {b:Bool} {vs:List V} {ps:List (Int×Bool×Int)}:H p=!(.tup [.int h,.str (u9 b),.int n])->XZ H vs ps->XZ H (.ref p::vs) ((h,b,n)::ps)
theorem XZ.mono(g:∀c xs,H c=!(.tup xs)->H' c=!(.tup xs)):∀{vs:List V} {a:List (Int×Bool×Int)},XZ H vs a->XZ H' vs a:=by
 intro e f b;induction b with
 |nil=>exact .nil
 |cons h r d=>exact .cons (g _ _ h) d
theorem XZ.length:∀{vs:List V} {a:List (Int×Bool×Int)},XZ H vs a->vs.length=a.length:=by
 intro d e b;induction b with
 |nil=>exact rfl
 |cons _ r c=>rw[QP,QP,c]
def XZ.snoc(c:H p=!(.tup [.int h,.str (u9 b),.int n])):∀{vs:List V} {a:List (Int×Bool×Int)},XZ H vs a->XZ H (vs++[.ref p]) (a++[(h,b,n)]):=by
 intro f i d;induction d with
 |nil=>exact .cons c .nil
 |cons h r e=>exact .cons h e
def ya(C:Tu)(H:Hp)(a g p:Tu)(s:SS):Prop:=∃d b c,H a=!(.ins C d [("level",.int s.level),("most",.int s.most),("getters",.ref g),("putters",.ref p)])/\H g=!(.lst b)/\N0 H b s.gets/\H p=!(.lst c)/\N0 H c s.puts/\g≠p/\s.gets.length<=200/\s.puts.length<=200
def ya.grow(h:ya C H a g p s)(k:∀c u,(c=a\/c=g\/c=p\/∃xs,u=HO.tup xs)->H c=!u->H' c=!u):ya C H' a g p s:=by let{b,d,e,f,i,j,n,o,q}:=h;exact{b,d,e,k _ _ (.inl rfl) f,k _ _ (.inr (.inl rfl)) i,j.mono λc xs hc=>k _ _ (.inr (.inr (.inr {(xs),rfl}))) hc,k _ _ (.inr (.inr (.inl rfl))) n,o.mono λc xs hc=>k _ _ (.inr (.inr (.inr {(xs),rfl}))) hc,q}
theorem ya.same(k:dA H H')(h:ya C H a g p s):ya C H' a g p s:=h.grow λ_ _ _ e=>k _ _ e
theorem ya.ne(h:ya C H a g p s):∀c xs,H c=!(.tup xs)->c≠a/\c≠g/\c≠p:=by
 let{b,d,e,f,i,j,n,_}:=h;intro c xs hc;refine{λz=>?_,λz=>?_,λz=>?_};.grind
 .grind
 .lia
#print a
def vc(C:Tu):Sp:=λe H Q _=>∃(a d:Tu) (l m:Int),e= [.ref a,.int l,.int m]/\H a=!(.ins C d [])/\∀(g p:Tu) (b:Hp),H g=none->H p=none->(∀c u,c≠a->H c=!u->b c=!u)->ya C b a g p {l,m,[],[]}->Q .non b
def CV(D:oD K mg "Store" C "Store.__init__" iW ["self","level","most"])(j:jp K C)(M:cD K C "level")(N:cD K C "most")(O:cD K C "getters")(R:cD K C "putters"):%[1,"Store",C,["level","most"]|vc C]:=by
 exists D.ok nE;let{a,S,l,m,rfl,Y,q}:=h;exists _,(aa (aG j M (pv 0) (pv 1)) (aa (aG j N (pv 0) (pv 2)) (aa (aG j O (pv 0) (aQ bJ)) (ae (aG j R (pv 0) (aQ bJ))))));walk_at "rd";intro Z n;have a1:=n.at_;walk_at "rd";intro H2 d g0 T J y U;have a3:=y _ _ d.at_;walk_at "rd";intro H4 e b H5 z B W;have a5:=B _ _ e.at_;walk_at "rd";intro X o;have r:=(ax d.at_ J).symm;have v:=(ax e.at_ z).symm;have i:=e.old U r;have F:H g0=none:=by rw[<-n.else_ g0 r,<-d.else_ g0 r];exact J
 have G:T b=none:=by rw[<-e.else_ b v];exact z
 have I:H b=none:=by rw[<-n.else_ b v,<-d.else_ b v];exact y.free G
 refine q g0 b X F I (λc u x hc=>o.old (B _ _ (e.old (y _ _ (d.old (n.old hc x) x)) x)) x) {S,[],[],o.at_,o.old (B _ _ i) r,.nil,o.old W v,.nil,ax i z,by simp,by simp}
def zq(c H:Hp)(v:V)(s:SS):Prop:=∃(r a b:Tu) (d e:List V),v=.ref r/\H r=!(.tup [.int s.level,.ref a,.ref b])/\H a=!(.lst d)/\N0 H d s.gets/\H b=!(.lst e)/\N0 H e s.puts/\c a=none/\c b=none
def xy(C:Tu):Sp:=λc H Q _=>∃(a g p:Tu) (s:SS),c= [.ref a]/\ya C H a g p s/\∀(v:V) (b:Hp),dA H b->zq H b v s->Q v b
def CY(D:hW K mg "told_store" lV ["store"])(i:jp K C)(u:cD K C "level")(v:cD K C "getters")(x:cD K C "putters")(o:mg "list" =none):%[1,"told_store",["store"]|xy C]:=by exists D.ok tF;let{a,g,p,W,rfl,{X,y,z,B,Y,F,G,I,Z,k7,k8},q}:=h;exists _,(ae (aw (am (aW (ah i u (pv 0)) (cn d9 o (aD (ah i v (pv 0)))) (cn d9 o (aD (ah i x (pv 0))))))));walk_at "rd";intro J H1 j b M;have a1:=b _ _ B;have p1:=b _ _ G;walk_at "rd";intro N H2 n e O r R S d T;exact q (.ref r) R ((b.trans e).trans d) {r,J,N,y,z,rfl,T,d _ _ (e _ _ M),F.mono λc U hc=>d _ _ (e _ _ (b _ _ hc)),d _ _ O,I.mono λc U hc=>d _ _ (e _ _ (b _ _ hc)),j,b.free n}
end
structure cU where
 name:VA
 a:Tu
 g:Tu
 p:Tu
 s:SS
def X6(es:List cU):List (hH×V):=es.map λe=>(Sum.inr e.name,V.ref e.a)
inductive Yx (H:Hp):List V->List (VA×Int×Int)->Prop
 |nil:Yx H [] []
 |cons {p:Tu} {s:VA} {n m:Int} {vs:List V} {ps:List (VA×Int×Int)}:H p=!(.tup [.str s,.int n,.int m])->Yx H vs ps->Yx H (.ref p::vs) ((s,n,m)::ps)
theorem Yx.get(t:Yx H vs ps):∀{i:Nat} {v:V},vs[i]? =!v->∃p s n m,v=.ref p/\ps[i]? =!(s,n,m)/\H p=!(.tup [.str s,.int n,.int m]):=by
 induction t with
 |nil=>intro i v e;simp at e
 |cons a _ b=>
  intro i v e;cases i with
  |zero=>simp at e;exact{_,_,_,_,e.symm,rfl,a}
  |succ i=>simpa using b (i:=i) (~~~e)
theorem Yx.length:∀{vs:List V} {a:List (VA×Int×Int)},Yx H vs a->vs.length=a.length:=by
 intro d e b;induction b with
 |nil=>exact rfl
 |cons _ r c=>rw[QP,QP,c]
inductive Yy (C:Tu) (H:Hp):List V->List cU->Prop
 |nil:Yy C H [] []
 |cons {p:Tu} {e:cU} {vs:List V} {es:List cU}:H p=!(.tup [.str e.name,.ref e.a])->ya C H e.a e.g e.p e.s->Yy C H vs es->Yy C H (.ref p::vs) (e::es)
theorem Yy.mono(g:dA H H'):∀{vs:List V} {es:List cU},Yy C H vs es->Yy C H' vs es:=by
 intro c d a;induction a with
 |nil=>exact .nil
 |cons h t r b=>exact .cons (g _ _ h) (t.same g) b
def Yy.snoc(a:H p=!(.tup [.str e.name,.ref e.a]))(b:ya C H e.a e.g e.p e.s):∀{vs:List V} {es:List cU},Yy C H vs es->Yy C H (vs++[.ref p]) (es++[e]):=by
 intro f i c;induction c with
 |nil=>exact .cons a b .nil
 |cons h t r d=>exact .cons h t d
theorem Yy.cc:∀{vs:List V} {es:List cU},Yy C H vs es->XG H vs (X6 es):=by
 intro c d a;induction a with
 |nil=>exact .nil
 |cons h _ r b=>exact .cons h b
theorem Yy.at(t:Yy C H vs es):∀e∈es,ya C H e.a e.g e.p e.s:=by
 induction t with
 |nil=>simp_all
 |cons _ t _ a=>simp_all
def nj(es:List cU):List Tu:=es.flatMap λe=>[e.a,e.g,e.p]
def xz(h:c∈nj es):∃e∈es,c=e.a\/c=e.g\/c=e.p:=by let{e,a,hc}:=List.mem_flatMap.mp h;simp at hc;exact{(e),a,hc}
theorem ya.has(h:ya C H a d q t):(∃u,H a=!u)/\(∃u,H d=!u)/\∃u,H q=!u:=by let{_,_,_,b,c,_,e,_}:=h;exact{{_,b},{_,c},{_,e}}
theorem ya.nd(h:ya C H a d q t):[a,d,q].Nodup:=by
 let{_,_,_,b,c,_,e,_,f,_}:=h;have i:a≠d:=λz=>by rw[z,c]at b;cases b
 have j:a≠q:=λz=>by rw[z,e]at b;cases b
 simp[i,j,f]
def qY(h:∀e∈es,ya C H e.a e.g e.p e.s):∀c∈nj es,∃u,H c=!u:=λc hc=>by
 let{e,a,z}:=xz hc;let{b,d,f}:=(h e a).has;rcases z with rfl|rfl|rfl
 .exact b
 .exact d
 .exact f
#print a
def SoP(C:Tu)(H:Hp)(a:List (VA×Int×Int))(D:Tu)(i:Nat)(b:List V)(d:St)(f:Hp):Prop:=∃(es:List cU) (h j n:Option V),d= [h,j,n]/\Yy C (bF D f) b es/\es.map (λe=>(e.name,e.s))=(a.take i).map (λp=>(p.1,{p.2.1,p.2.2,[],[]}))/\(nj es).Nodup/\∀c∈nj es,H c=none
def qj(C:Tu):Sp:=λq H Q _=>∃(f h:Tu) (j n o:V) (i:List V) (a:List (VA×Int×Int)),q= [.ref f]/\H f=!(.tup [j,.ref h,n,o])/\H h=!(.lst i)/\Yx H i a/\a.length<=10/\(a.map (·.1)).Nodup/\
 ∀(d:Tu) (b:Hp) (es:List cU),H d=none->dA H b->b d=!(.dK (X6 es))->(∀e∈es,ya C b e.a e.g e.p e.s)->es.map (λe=>(e.name,e.s))=a.map (λp=>(p.1,{p.2.1,p.2.2,[],[]}))->(d::nj es).Nodup->(∀c∈nj es,H c=none)->Q (.ref d) b
def wL(D:hW K mg "stores_of" nT ["program"])(PR:%[1,"Store",C,["level","most"]|vc C])(OC:mg "dict" =none):%[3,"stores_of",["program"]|qj C]:=by
 exists D.ok uY;let{pp,p1,x0,x2,x3,ys,T,rfl,h1,h2,h3,h4,U,q}:=h;have big:=_bg
 have ly:=h3.length;refine{_,(ae (aw (cn eJ OC (aD (dv 3 ["name","level","most"] [] (bC (ar (pv 0) ac)) (λn _ _ _ _=>(bG 3 rfl (aC (dq 0 n) (aC (dq 1 n) (aC (dq 2 n) bB))))) (λ_ _ _ _=>cc) (λ_ _ _ _=>(am (ay (pv 0) (fj PR hr rfl (ay (pv 1) (pv 2))))))))))),?_};symm;apply bD;simp only[cC];symm;refine{{_,ip.of h2},de h2 Xu (SoP C H T) (λD H' _ _ _=>by unfold SoP;exact{[],_,_,_,rfl,.nil,rfl,.nil,λe W=>absurd W Q7}) ?_ ?_}
 .rintro D i x zs σ1 S hx b pv;unfold SoP at pv;let{es,v0,v1,v2,rfl,pt,F,X,fr}:=pv;let{p,Y,n,m,rfl,en,hp}:=h3.get hx;have a5:=b.same _ _ hp;symm;intro x dx H2 j a9 G Z a4;refine{x,dx,n,m,rfl,Z,λI J H3 a0 a1 k3 M=>?_};symm;intro p4 H4 a2 g4 h4;have a3:∀{c u},S c=!u->c≠x:=λhc=>ax hc j;have o:dA S H3:=λc u hc=>k3 c u (a3 hc) (G _ _ hc);have N:=b.lst;refine b.put (o.trans g4) λH5 mu=>?_;unfold SoP;have SD:=(dU (o.trans g4)).trans (eI mu);have O:∀{c},S c=none->c≠D:=λhc=>(ax N hc).symm;have v:=G.free a0;have B:=G.free a1;have r:=o.free a2;refine{es++[{Y,x,I,J,{n,m,[],[]}}],_,_,_,rfl,(pt.mono SD).snoc (aV (O r) (mu.old h4 (O r))) (M.grow λc u hc e=>?_),by rw[QT,F,bj en,QT];rfl,?_,λc hc=>?_}
  .have nc:c≠D:=by
    rcases hc with rfl|rfl|rfl|⟨xs,rfl⟩
    .exact O j
    .exact O v
    .exact O B
    .exact λz=>by rw[z,o _ _ N]at e;cases e
   exact aV nc (mu.old (g4 _ _ e) nc)
  .have ea:nj (es++[⟨Y,x,I,J,⟨n,m,[],[]⟩⟩])=nj es++[x,I,J]:=by unfold nj;rw[Rm];rfl
   rw[ea,RM];refine{X,M.nd,λc hc y hy z=>?_};let{u,d}:=qY (pt.mono cz).at c hc;rw[z]at d;simp at hy;rcases hy with rfl|rfl|rfl
   .rw [j]at d;cases d
   .rw [v]at d;cases d
   .rw [B]at d;cases d
  .have ea:nj (es++[⟨Y,x,I,J,⟨n,m,[],[]⟩⟩])=nj es++[x,I,J]:=by unfold nj;rw[Rm];rfl
   rw[ea]at hc;rcases Xk hc with hc|hc
   .exact fr c hc
   .simp at hc;rcases hc with rfl|rfl|rfl;.exact b.same.free j
    .exact b.same.free v
    .exact b.same.free B
 .rintro D zs σ1 S hD g1 hy ab pv;unfold SoP at pv;let{es,v0,v1,v2,rfl,pt,F,X,fr}:=pv;rw[QZ Xu]at F;have le:es.length=T.length:=by have:=congrArg List.length F;rw[QL,QL]at this;exact this
  symm;refine{X6 es,(pt.mono cz).cc,by unfold X6;rw[QL];ext,λl H2 hl G R=>?_};have nn:((X6 es).map (·.1)).Nodup:=by have e1:(X6 es).map (·.1)=(T.map (·.1)).map Sum.inr:=(by have:=congrArg (List.map (λx:VA×SS=>(Sum.inr x.1:hH))) F;rw[Rb,Rb]at this;unfold X6;rw[Rb,Rb];exact this);rw[e1];exact jR U
  have ep:bU (X6 es)=X6 es:=dX _ [] nn;rw[ep]at R;have nl:l∉nj es:=λz=>by let{u,d}:=qY (pt.mono cz).at l z;rw[hl]at d;cases d
  exact q l H2 es (g1.free hl) (g1.trans G) R (λe W=>((pt.mono cz).mono G).at e W) F (List.nodup_cons.mpr {(nl),X}) fr
def _v(C a g p r:Tu)(s:SS)(H:Hp)(m:Nat)(σ:St)(d:Hp):Prop:=∃(f:List V) (e:List (Int×Bool×Int)) (b:SS) (h i:Option V),σ= [!(.ref a),!(.ref r),h,i]/\XS a g p H d/\d r=!(.lst f)/\XZ d f e/\ya C d a g p b/\(∀c z,YL b c z->YL s (e++c) z)/\e.length+b.gets.length+b.puts.length<=400/\m=b.gets.length+b.puts.length
def mO(C:Tu):Sp:=λf H Q _=>∃(a g p:Tu) (s:SS),f= [.ref a]/\ya C H a g p s/\
 ∀(r:Tu) (b:Hp) (d:List V) (c:List (Int×Bool×Int)) (e:SS),H r=none->XS a g p H b->b r=!(.lst d)->XZ b d c->ya C b a g p e->YL s c e->Q (.ref r) b
def CZ(D:hW K mg "serve_by_turns" iY ["store"])(J:jp K C)(Ny:cD K C "level")(N9:cD K C "most")(NP:cD K C "getters")(NQ:cD K C "putters"):%[1,"serve_by_turns",["store"]|mO C]:=by
 exists D.ok cf;let{a,g,p,ss,rfl,tl,q}:=h;have big:=_bg
 exists _,(aa (aT 1 cf (aQ bJ)) (ae (ga Tl.never (gK cX) (ae (aH (PW.pt (jE (dz (ah J NP (pv 0)) (λ_=>rfl)) (iD (aK tR (ar (ar (ah J NP (pv 0)) ac) ac) (ah J Ny (pv 0)))))) (aa (bW (pD Tb TB TC jh (ah J NP (pv 0)) (aD ac)) (bG 2 rfl (aC (aZ 2 cf) (aC (aZ 3 cf) bB)))) (aa (aG J Ny (pv 0) (aM dF (ah J Ny (pv 0)) (pv 3))) (ae (av (a8 (pv 1) (am (aW (pv 2) aq (pv 3)))))))) (ae (aH (PW.pt (jE (dz (ah J NQ (pv 0)) (λ_=>rfl)) (iD (aK tR (aM bE (ah J Ny (pv 0)) (ar (ar (ah J NQ (pv 0)) ac) ac)) (ah J N9 (pv 0)))))) (aa (bW (pD Tb TB TC jh (ah J NQ (pv 0)) (aD ac)) (bG 2 rfl (aC (aZ 2 cf) (aC (aZ 3 cf) bB)))) (aa (aG J Ny (pv 0) (aM bE (ah J Ny (pv 0)) (pv 3))) (ae (av (a8 (pv 1) (am (aW (pv 2) aq (pv 3)))))))) (ae (aw (pv 1))))))))));symm;intro r H1 B g1 h1;refine{_v C a g p r ss H,{ss.gets.length+ss.puts.length,?_},?_};.unfold _v;have b:=tl;let{_,_,_,_,_,_,_,_,_,b1,b2}:=b;exact{[],[],ss,_,_,rfl,λc u _ _ _ hc=>g1 _ _ hc,h1,.nil,tl.same g1,λa0 z h=>h,by simp only[Rl];ext,rfl}
 .intro m σ H2 z;unfold _v at z;let{sv,dn,d,v2,v3,rfl,f3,h2,sd,o,U,bd,rfl}:=z;let{dx,gs,ps,k1,k2,k3,k4,W,k6,k7,k8}:=id o;clear h1;symm;have no:=λe=>q r H2 sv dn d B f3 h2 sd o (by have:=U [] d (.done e);rw[Rf]at this;exact this);refine{λσ' H'=>∃m',m'<d.gets.length+d.puts.length/\_v C a g p r ss H m' σ' H',λ_ _ z=>z,?_};symm;exists not gs.isEmpty,gq k2;have i:r≠a/\r≠g/\r≠p:=by let{_,_,_,ka,kg,_,kp,_}:=tl;exact{λz=>(by rw[z,ka]at B;cases B),λz=>(by rw[z,kg]at B;cases B),λz=>(by rw[z,kp]at B;cases B)}
  have X:a≠g:=λz=>by rw[z,k2]at k1;cases k1
  have M:a≠p:=λz=>by rw[z,k4]at k1;cases k1
  have ls:=sd.length;have a4:=k3;have a5:=k7;cases Z:d.gets with
  |nil=>
   have eg:=congrArg List.length Z;rw[Rl]at eg;rw[Z]at k3;cases k3;have eP:YD d=gw d:=(by unfold YD;rw[Z]);apply lB;symm
   try symm
   exists not ps.isEmpty,gq k4;cases j:d.puts with
   |nil=>rw[j]at W;cases W;apply lB;symm;exact no (by rw[eP];unfold gw;rw[j])
   |cons p1 Y=>
    let{h',N}:=p1;rw[j]at W;cases W with
    |cons O R=>
    rename_i pb a1;apply lC;symm;refine cR (λc2=>?_) λc2=>by symm;exact no (by rw[eP];unfold gw;rw[j];show(if d.level+N<=d.most then _ else _)=_;rw[Xe c2])
    have lp:=R.length;have ep:=congrArg List.length j;rw[QP]at ep;symm;refine{{_,ip.of k4},?_};symm;refine{by ext,_,by simp only[QP];ext,rfl,λH3 v=>?_};have a2:=(o.ne pb _ O).2.2;have af:=v.old O a2;have a3:=v.old k1 M;symm;intro H4 F;have I:=F.old (v.old h2 i.2.2) i.1;symm;intro p5 H5 S G h5;have a9:=G _ _ I;symm;refine{by ext,λH6 x=>?_};symm;refine{d.gets.length+Y.length,by ext,?_};have y:=λc xs hc=>x.old (G _ _ (F.old (v.old hc (o.ne c xs hc).2.2) (o.ne c xs hc).1)) (λz=>by rw[z,h2]at hc;cases hc);have T:=(ax I S).symm;unfold _v;refine{sv++[.ref p5],dn++[(h',false,N)],{d.level+N,d.most,d.gets,Y},_,_,rfl,λc u n1 n2 n3 hc=>x.old (G _ _ (F.old (v.old (f3 c u n1 n2 n3 hc) n3) n1)) (ax hc B),x.at_,(sd.mono y).snoc (x.old h5 T),{dx,_,a1,x.old (G _ _ F.at_) (Ne.symm i.1),x.old (G _ _ (F.old (v.old k2 k6) (Ne.symm X))) (Ne.symm i.2.1),a4.mono y,x.old (G _ _ (F.old v.at_ (Ne.symm M))) (Ne.symm i.2.2),R.mono y,k6,a5,by show Y.length<=200;ext},λa0 z hz=>?_,?_,rfl};.rw [QQ];exact U _ _ (.step (by rw[eP];unfold gw;rw[j];show(if d.level+N<=d.most then _ else _)=_;rw[Xf c2]) hz)
    .show(dn++[(h',false,N)]).length+d.gets.length+Y.length<=400;rw[QN,Q0];ext
  |cons p0 gu=>
   let{h,n}:=p0;have eg:=congrArg List.length Z;rw[QP]at eg;rw[Z]at k3;cases k3 with
   |cons ab ad=>
   rename_i pa ag;apply lC;symm;refine cR (λc=>?_) λc=>?_
   .have lg:=ad.length;rw[Z,QP]at k7;symm;refine{{_,ip.of k2},?_};symm;refine{by ext,_,by simp only[QP];ext,rfl,λH3 v=>?_};have ak:=(o.ne pa _ ab).2.1;have al:=v.old ab ak;have a3:=v.old k1 X;symm;intro H4 F;have I:=F.old (v.old h2 i.2.1) i.1;symm;intro p5 H5 S G h5;have a9:=G _ _ I;symm;refine{by ext,λH6 x=>?_};symm;refine{gu.length+d.puts.length,by ext,?_};have y:=λc xs hc=>x.old (G _ _ (F.old (v.old hc (o.ne c xs hc).2.1) (o.ne c xs hc).1)) (λz=>by rw[z,h2]at hc;cases hc);have T:=(ax I S).symm;unfold _v;refine{sv++[.ref p5],dn++[(h,true,n)],{d.level-n,d.most,gu,d.puts},_,_,rfl,λc u n1 n2 n3 hc=>x.old (G _ _ (F.old (v.old (f3 c u n1 n2 n3 hc) n2) n1)) (ax hc B),x.at_,(sd.mono y).snoc (x.old h5 T),{dx,ag,ps,x.old (G _ _ F.at_) (Ne.symm i.1),x.old (G _ _ (F.old v.at_ (Ne.symm X))) (Ne.symm i.2.1),ad.mono y,x.old (G _ _ (F.old (v.old k4 (Ne.symm k6)) (Ne.symm M))) (Ne.symm i.2.2),W.mono y,k6,by show gu.length<=200;ext,k8},λa0 z hz=>?_,?_,rfl};.rw [QQ];exact U _ _ (.step (by unfold YD;rw[Z];show(if n<=d.level then _ else _)=_;rw[Xf c]) hz)
    .show(dn++[(h,true,n)]).length+gu.length+d.puts.length<=400;rw[QN,Q0];ext
   .have eP:YD d=gw d:=by unfold YD;rw[Z];show(if n<=d.level then _ else _)=_;rw[Xe c]
    try symm
    exists not ps.isEmpty,gq k4;cases j:d.puts with
    |nil=>rw[j]at W;cases W;apply lB;symm;exact no (by rw[eP];unfold gw;rw[j])
    |cons p1 Y=>
     let{h',N}:=p1;rw[j]at W;cases W with
     |cons O R=>
     rename_i pb a1;apply lC;symm;refine cR (λc2=>?_) λc2=>by symm;exact no (by rw[eP];unfold gw;rw[j];show(if d.level+N<=d.most then _ else _)=_;rw[Xe c2])
     have lp:=R.length;have ep:=congrArg List.length j;rw[QP]at ep;symm;refine{{_,ip.of k4},?_};symm;refine{by ext,_,by simp only[QP];ext,rfl,λH3 v=>?_};have a2:=(o.ne pb _ O).2.2;have af:=v.old O a2;have a3:=v.old k1 M;symm;intro H4 F;have I:=F.old (v.old h2 i.2.2) i.1;symm;intro p5 H5 S G h5;have a9:=G _ _ I;symm;refine{by ext,λH6 x=>?_};refine{d.gets.length+Y.length,by ext,?_};have y:=λc xs hc=>x.old (G _ _ (F.old (v.old hc (o.ne c xs hc).2.2) (o.ne c xs hc).1)) (λz=>by rw[z,h2]at hc;cases hc);have T:=(ax I S).symm;refine{sv++[.ref p5],dn++[(h',false,N)],{d.level+N,d.most,d.gets,Y},_,_,rfl,λc u n1 n2 n3 hc=>x.old (G _ _ (F.old (v.old (f3 c u n1 n2 n3 hc) n3) n1)) (ax hc B),x.at_,(sd.mono y).snoc (x.old h5 T),{dx,_,a1,x.old (G _ _ F.at_) (Ne.symm i.1),x.old (G _ _ (F.old (v.old k2 k6) (Ne.symm X))) (Ne.symm i.2.1),a4.mono y,x.old (G _ _ (F.old v.at_ (Ne.symm M))) (Ne.symm i.2.2),R.mono y,k6,a5,by show Y.length<=200;ext},λa0 z hz=>?_,?_,rfl};.rw [QQ];exact U _ _ (.step (by rw[eP];unfold gw;rw[j];show(if d.level+N<=d.most then _ else _)=_;rw[Xf c2]) hz)
     .show(dn++[(h',false,N)]).length+d.gets.length+Y.length<=400;rw[QN,Q0];ext
def dE(t:TS)(h n:Int):Bool×TS:=if t.que≠[]\/t.free<n then(false,{t.free,t.held,t.que++[(h,n)]})else(true,gn t h n)
def Zc(t:TS)(h n:Int):Int:=if ci t.held h<n then ci t.held h else n
def cq(t:TS)(h n:Int):List (Int×Int)×TS:=XO t.que (gn t h (-(Zc t h n)))
def vd(s:SS)(h n:Int)(b:Bool)(a:List (Int×Bool×Int))(s':SS):Prop:=if s.puts≠[]\/s.most<s.level+n then b=false/\a= []/\s'={s.level,s.most,s.gets,s.puts++[(h,n)]}else b=true/\YL {s.level+n,s.most,s.gets,s.puts} a s'
def ve(s:SS)(h n:Int)(b:Bool)(a:List (Int×Bool×Int))(s':SS):Prop:=if s.gets≠[]\/s.level<n then b=false/\a= []/\s'={s.level,s.most,s.gets++[(h,n)],s.puts}else b=true/\YL {s.level-n,s.most,s.gets,s.puts} a s'
def qk(j c:Tu):Sp:=λp H Q _=>∃(g o e a d q:Tu) (x:V) (f:List (hH×V)) (i:VA) (h n:Int) (t:TS),p= [.ref g,.int h,.str i,.int n]/\H g=!(.ins j o [("by_tool",.ref e),("by_store",x)])/\H e=!(.dK f)/\bc f (Sum.inr i)=!(.ref a)/\tf c H a d q t/\h∈hs/\t.que.length<200/\
 ∀(b:Hp),XS a d q H b->tf c b a d q (dE t h n).2->Q (.bl (dE t h n).1) b
def FO(D:eH K CG "take" "Goods.take" lQ ["self","hand","name","n"])(T:jp K CG)(NM:cD K CG "by_tool")(y:jp K CT)(NW:cD K CT "free")(U:cD K CT "queue")(Oy:%[1,"hand_out",["tool","hand","n"]|tV CT]):%[2,CG,"take",["hand","name","n"]|qk CG CT]:=by
 exists D.ok T kM;let{g,dx,dt,a,d,i,x,kv,nm,h,n,t,rfl,e1,e2,e3,B,W,b2,q}:=h;have hu:=bA hr;have big:=_bg
 let{C,v,F,G,j,X,k5,Y,k7}:=id B;have o:=X.length;exists _,(aa (aT 4 kM (bY hu (ah T NM (pv 0)) (pv 2) (λ_ _=>rfl))) (aa (aH (PW.pt (tO (dz (ah y U (pv 4)) (λ_=>rfl)) (o6 (aK jd (ah y NW (pv 4)) (pv 3))))) (aa (av (a8 (ah y U (pv 4)) (am (ay (pv 1) (pv 3))))) (ae (aw cX))) aE) (aa (av (aB Oy hr rfl (aW (pv 4) (pv 1) (pv 3)))) (ae (aw cX)))));walk_at "rd";have wait:(t.que≠[]\/t.free<n)->∀(p:Tu) (e:Hp),H p=none->dA H e->e p=!(.tup [.int h,.int n])->∃I,e i=!(.lst I)/\I.length<S6/\∀r,Mu e i (.lst (I++[.ref p])) r->Q (.bl false) r:=λc p e J Z h1=>by
  refine{v,Z _ _ j,by ext,λr M=>?_};have N:dE t h n=(false,⟨t.free,t.held,t.que++[(h,n)]⟩):=by unfold dE;rw[Xf c]
  rw[N]at q;have b:∀c u,c≠i->H c=!u->r c=!u:=λc u nc hc=>M.old (Z _ _ hc) nc;have O:a≠i:=λz=>by rw[z,j]at F;cases F
  have R:d≠i:=λz=>by rw[z,j]at G;cases G
  have S:=(ax j J).symm;refine q r (λc u _ _ n3 hc=>b c u n3 hc) {C,v++[.ref p],b _ _ O F,b _ _ R G,M.at_,(X.mono λc xs hc=>b c _ (B.ne c xs hc).2.2 hc).snoc (M.old h1 S),k5,{Y.1,λp J=>(Xk J).elim (Y.2 p) (λz=>by rw[Xh z];exact W)},?_};rw[QN,Q0];ext
 exists not v.isEmpty,gq j;cases hq:v with
 |cons v0 a0=>
  have b:t.que≠[]:=λz=>by rw[z]at o;rw[hq]at o;cases o
  exact lC (wait (.inl b))
 |nil=>
  have b:t.que= []:=by rw[hq]at o;exact List.eq_nil_of_length_eq_zero o.symm
  refine lB (cR (λc=>?_) λc=>?_);.exact wait (.inr c)
  .have N:dE t h n=(true,gn t h n):=by unfold dE;rw[Xe (λz=>z.elim (λz=>z b) c)]
   rw[N]at q;exact{a,d,i,t,h,n,rfl,B,W,λe f1 t1=>q e f1 t1}
def md(o c:Tu):Sp:=λv H Q _=>∃(g u e a d q:Tu) (x:V) (f:List (hH×V)) (i:VA) (h n:Int) (t:TS),v= [.ref g,.int h,.str i,.int n]/\H g=!(.ins o u [("by_tool",.ref e),("by_store",x)])/\H e=!(.dK f)/\bc f (Sum.inr i)=!(.ref a)/\tf c H a d q t/\h∈hs/\
 ∀(b:Hp) (p r:Tu) (j:List V),XS a d q H b->H r=none->b p=!(.tup [.int (Zc t h n),.ref r])->b r=!(.lst j)->X8 "takes" b j (cq t h n).1->tf c b a d q (cq t h n).2->Q (.ref p) b
def FP(D:eH K CG "give" "Goods.give" lS ["self","hand","name","n"])(o:jp K CG)(G:cD K CG "by_tool")(I:jp K CT)(J:cD K CT "held")(M:%[2,"hand_in",["tool","hand","n"]|Jw CT])(N:%[2,"serve_takers",["tool"]|xw CT])(O:mg "min" =none):%[3,CG,"give",["hand","name","n"]|md CG CT]:=by
 exists D.ok o hZ;let{g,dx,dt,a,d,v,x,kv,nm,h,n,t,rfl,e1,e2,e3,y,R,q}:=h;have B:=bA hr;let{S,qs,k1,k2,k3,k4,k5,k6,k7}:=id y;exists _,(aa (aT 4 hZ (bY B (ah o G (pv 0)) (pv 2) (λ_ _=>rfl))) (aa (aT 5 hZ (jx (rV rfl) O (ay (pv 3) (lH B (ah I J (pv 4)) (pv 1) ac {(rfl),rfl,rfl,rfl})))) (aa (av (aB M hr rfl (aW (pv 4) (pv 1) (pv 5)))) (ae (aw (am (ay (pv 5) (aB N hr rfl (aD (pv 4))))))))));walk_at "rd";exists {_,rfl},_,qi _;refine{a,d,v,t,h,Zc t h n,rfl,y,R,λH1 C F=>?_};refine{a,d,v,gn t h (-(Zc t h n)),rfl,F,λr H2 T b U W X Y=>?_};intro p Z hp i h3;have j:H r=none:=by
  cases z:H r with
  |none=>rfl
  |some u=>let{a0,a1,j1,j2,j3,_}:=F;have:=C r u (λe=>by rw[e,j1]at b;cases b) (λe=>by rw[e,j2]at b;cases b) (λe=>by rw[e,j3]at b;cases b) z;rw[this]at b;cases b
 exact q Z p r T ((C.trans U).trans λc u _ _ _ hc=>i _ _ hc) j h3 (i _ _ W) (X.mono λc xs hc=>i _ _ hc) (Y.same i)
def tW(v CS:Tu):Sp:=λz H Q _=>∃(g y i a e f:Tu) (x:V) (j:List (hH×V)) (o:VA) (h n:Int) (s:SS),z= [.ref g,.int h,.str o,.int n]/\H g=!(.ins v y [("by_tool",x),("by_store",.ref i)])/\H i=!(.dK j)/\bc j (Sum.inr o)=!(.ref a)/\ya CS H a e f s/\s.gets.length<200/\s.puts.length<200/\
 ∀(c:Hp) (p r:Tu) (q:List V) (b:Bool) (d:List (Int×Bool×Int)) (u:SS),XS a e f H c->H r=none->c p=!(.tup [.bl b,.ref r])->c r=!(.lst q)->XZ c q d->ya CS c a e f u->vd s h n b d u->Q (.ref p) c
def Jy(D:eH K CG "put" "Goods.put" nR ["self","hand","name","n"])(NI:jp K CG)(NL:cD K CG "by_store")(v:jp K CS)(Y:cD K CS "level")(N9:cD K CS "most")(NQ:cD K CS "putters")(N6:%[1,"serve_by_turns",["store"]|mO CS]):%[2,CG,"put",["hand","name","n"]|tW CG CS]:=by
 exists D.ok NI lT;let{g,dx,ds,a,Z,y,x,kv,nm,h,n,b,rfl,e1,e2,e3,U,b1,b2,q}:=h;have hu:=bA hr;have big:=_bg
 let{J,gs,M,k1,W,k3,B,k5,k6,k7,k8}:=id U;have N:=k5.length;have a0:Z≠a:=λz=>by rw[z,k1]at W;cases W
 have O:y≠a:=λz=>by rw[z,k1]at B;cases B
 exists _,(aa (aT 4 lT (bY hu (ah NI NL (pv 0)) (pv 2) (λ_ _=>rfl))) (aa (aH (PW.pt (tO (dz (ah v NQ (pv 4)) (λ_=>rfl)) (o6 (aK gB (aM bE (ah v Y (pv 4)) (pv 3)) (ah v N9 (pv 4)))))) (aa (av (a8 (ah v NQ (pv 4)) (am (ay (pv 1) (pv 3))))) (ae (aw (am (ay cX (aQ bJ)))))) aE) (aa (aG v Y (pv 4) (aM bE (ah v Y (pv 4)) (pv 3))) (ae (aw (am (ay cX (aB N6 hr rfl (aD (pv 4))))))))));walk_at "rd";have wait:(b.puts≠[]\/b.most<b.level+n)->∀(p:Tu) (e:Hp),H p=none->dA H e->e p=!(.tup [.int h,.int n])->∃ys,e y=!(.lst ys)/\ys.length<S6/\∀i,Mu e y (.lst (ys++[.ref p])) i->∀(r:Tu) (F:Hp),i r=none->dA i F->F r=!(.lst [])->∀(G:Tu) (I:Hp),F G=none->dA F I->I G=!(.tup [.bl false,.ref r])->Q (.ref G) I:=λc p e hp g1 h1=>by
  refine{M,g1 _ _ B,by ext,λi R r F S g4 h4 G I a5 g5 h5=>?_};have d:∀c u,c≠y->H c=!u->i c=!u:=λc u nc hc=>R.old (g1 _ _ hc) nc;have a1:=(ax B hp).symm;have a2:=(ax R.at_ S).symm;have j:=g1.free (by rw[<-R.else_ r a2];exact S);refine q I G r [] false [] {b.level,b.most,b.gets,b.puts++[(h,n)]} (λc u _ _ n3 hc=>g5 _ _ (g4 _ _ (d c u n3 hc))) j h5 (g5 _ _ h4) .nil (ya.same (g4.trans g5) {J,gs,M++[.ref p],d _ _ (Ne.symm O) k1,d _ _ k6 W,k3.mono λc C hc=>d c _ (U.ne c C hc).2.2 hc,R.at_,(k5.mono λc C hc=>d c _ (U.ne c C hc).2.2 hc).snoc (R.old h1 a1),k6,k7,?_}) ?_;.show(b.puts++[(h,n)]).length<=200;rw[QN,Q0];ext
  .unfold vd;rw[Xf c];exact{(rfl),rfl,rfl}
 exists not M.isEmpty,gq B;cases hq:M with
 |cons v0 a9=>
  have d:b.puts≠[]:=λz=>by rw[z]at N;rw[hq]at N;cases N
  exact lC (wait (.inl d))
 |nil=>
  have d:b.puts= []:=by rw[hq]at N;exact List.eq_nil_of_length_eq_zero N.symm
  refine lB (cR (λc=>?_) λc=>?_);.exact wait (.inr c)
  .intro e o;have kt:=λc C hc=>o.old hc (U.ne c C hc).1;have t1:ya CS e a Z y ⟨b.level+n,b.most,b.gets,b.puts⟩:={J,gs,M,o.at_,o.old W a0,k3.mono kt,o.old B O,k5.mono kt,k6,k7,k8}
   refine{a,Z,y,{b.level+n,b.most,b.gets,b.puts},rfl,t1,λr H2 sv a3 s' T f2 h2 sd t2 sb=>?_};intro p i hp X h3;have a4:=(ax o.at_ T).symm;have j:H r=none:=(by rw[<-o.else_ r a4];exact T);apply q i p r sv true a3 s' (λc u n1 n2 n3 hc=>X _ _ (f2 c u n1 n2 n3 (o.old hc n1))) j h3 (X _ _ h2) (sd.mono λc C hc=>X _ _ hc) (t2.same X);unfold vd;rw[Xe (λz=>z.elim (λz=>z d) c)];exact{(rfl),sb}
def tX(v CS:Tu):Sp:=λz H Q _=>∃(g y i a e f:Tu) (x:V) (j:List (hH×V)) (o:VA) (h n:Int) (s:SS),z= [.ref g,.int h,.str o,.int n]/\H g=!(.ins v y [("by_tool",x),("by_store",.ref i)])/\H i=!(.dK j)/\bc j (Sum.inr o)=!(.ref a)/\ya CS H a e f s/\s.gets.length<200/\s.puts.length<200/\
 ∀(c:Hp) (p r:Tu) (q:List V) (b:Bool) (d:List (Int×Bool×Int)) (u:SS),XS a e f H c->H r=none->c p=!(.tup [.bl b,.ref r])->c r=!(.lst q)->XZ c q d->ya CS c a e f u->ve s h n b d u->Q (.ref p) c
def Jz(D:eH K CG "get" "Goods.get" nS ["self","hand","name","n"])(NI:jp K CG)(NL:cD K CG "by_store")(C:jp K CS)(Y:cD K CS "level")(NP:cD K CS "getters")(N6:%[1,"serve_by_turns",["store"]|mO CS]):%[2,CG,"get",["hand","name","n"]|tX CG CS]:=by
 exists D.ok NI lU;let{g,dx,ds,a,v,Z,x,kv,nm,h,n,b,rfl,e1,e2,e3,U,b1,b2,q}:=h;have hu:=bA hr;have big:=_bg
 let{J,M,ps,k1,y,k3,W,k5,k6,k7,k8}:=id U;have N:=k3.length;have O:v≠a:=λz=>by rw[z,k1]at y;cases y
 have a0:Z≠a:=λz=>by rw[z,k1]at W;cases W
 exists _,(aa (aT 4 lU (bY hu (ah NI NL (pv 0)) (pv 2) (λ_ _=>rfl))) (aa (aH (PW.pt (tO (dz (ah C NP (pv 4)) (λ_=>rfl)) (o6 (aK jd (ah C Y (pv 4)) (pv 3))))) (aa (av (a8 (ah C NP (pv 4)) (am (ay (pv 1) (pv 3))))) (ae (aw (am (ay cX (aQ bJ)))))) aE) (aa (aG C Y (pv 4) (aM dF (ah C Y (pv 4)) (pv 3))) (ae (aw (am (ay cX (aB N6 hr rfl (aD (pv 4))))))))));walk_at "rd";have wait:(b.gets≠[]\/b.level<n)->∀(p:Tu) (e:Hp),H p=none->dA H e->e p=!(.tup [.int h,.int n])->∃ys,e v=!(.lst ys)/\ys.length<S6/\∀i,Mu e v (.lst (ys++[.ref p])) i->∀(r:Tu) (F:Hp),i r=none->dA i F->F r=!(.lst [])->∀(G:Tu) (I:Hp),F G=none->dA F I->I G=!(.tup [.bl false,.ref r])->Q (.ref G) I:=λc p e hp g1 h1=>by
  refine{M,g1 _ _ y,by ext,λi R r F S g4 h4 G I a5 g5 h5=>?_};have d:∀c u,c≠v->H c=!u->i c=!u:=λc u nc hc=>R.old (g1 _ _ hc) nc;have a1:=(ax y hp).symm;have a2:=(ax R.at_ S).symm;have j:=g1.free (by rw[<-R.else_ r a2];exact S);refine q I G r [] false [] {b.level,b.most,b.gets++[(h,n)],b.puts} (λc u _ n2 _ hc=>g5 _ _ (g4 _ _ (d c u n2 hc))) j h5 (g5 _ _ h4) .nil (ya.same (g4.trans g5) {J,M++[.ref p],ps,d _ _ (Ne.symm O) k1,R.at_,(k3.mono λc B hc=>d c _ (U.ne c B hc).2.1 hc).snoc (R.old h1 a1),d _ _ (Ne.symm k6) W,k5.mono λc B hc=>d c _ (U.ne c B hc).2.1 hc,k6,?_,k8}) ?_;.show(b.gets++[(h,n)]).length<=200;rw[QN,Q0];ext
  .unfold ve;rw[Xf c];exact{(rfl),rfl,rfl}
 exists not M.isEmpty,gq y;cases hq:M with
 |cons v0 a9=>
  have d:b.gets≠[]:=λz=>by rw[z]at N;rw[hq]at N;cases N
  exact lC (wait (.inl d))
 |nil=>
  have d:b.gets= []:=by rw[hq]at N;exact List.eq_nil_of_length_eq_zero N.symm
  refine lB (cR (λc=>?_) λc=>?_);.exact wait (.inr c)
  .intro e o;have kt:=λc B hc=>o.old hc (U.ne c B hc).1;have t1:ya CS e a v Z ⟨b.level-n,b.most,b.gets,b.puts⟩:={J,M,ps,o.at_,o.old y O,k3.mono kt,o.old W a0,k5.mono kt,k6,k7,k8}
   refine{a,v,Z,{b.level-n,b.most,b.gets,b.puts},rfl,t1,λr H2 sv a3 s' T f2 h2 sd t2 sb=>?_};intro p i hp X h3;have a4:=(ax o.at_ T).symm;have j:H r=none:=(by rw[<-o.else_ r a4];exact T);apply q i p r sv true a3 s' (λc u n1 n2 n3 hc=>X _ _ (f2 c u n1 n2 n3 (o.old hc n1))) j h3 (X _ _ h2) (sd.mono λc B hc=>X _ _ hc) (t2.same X);unfold ve;rw[Xe (λz=>z.elim (λz=>z d) c)];exact{(rfl),sb}
end
inductive Yn (H0 H:Hp):List V->List TS->Prop
 |nil:Yn H0 H [] []
 |cons {v:V} {t:TS} {hd:List (Int×Int)} {vs:List V} {ts:List TS}:Xy H0 H v t hd->_Y hd t->Yn H0 H vs ts->Yn H0 H (v::vs) (t::ts)
inductive Ys (H0 H:Hp):List V->List SS->Prop
 |nil:Ys H0 H [] []
 |cons {v:V} {s:SS} {vs:List V} {ts:List SS}:zq H0 H v s->Ys H0 H vs ts->Ys H0 H (v::vs) (s::ts)
theorem Xy.mono(g:dA H H')(h:Xy H0 H v t hd):Xy H0 H' v t hd:=by let{p,b,c,hs,d,e,f,i,j,n,a}:=h;exact{p,b,c,hs,d,e,g _ _ f,g _ _ i,j.mono λ_ _ hc=>g _ _ hc,g _ _ n,a.1.mono λ_ _ hc=>g _ _ hc,a.2}
theorem zq.mono(g:dA H H')(h:zq H0 H v s):zq H0 H' v s:=by let{p,b,c,hs,d,e,f,i,j,n,a}:=h;exact{p,b,c,hs,d,e,g _ _ f,g _ _ i,j.mono λ_ _ hc=>g _ _ hc,g _ _ n,a.1.mono λ_ _ hc=>g _ _ hc,a.2}
def Xy.cd(h:Xy H1 H v t hd)(a:H1 D=!(.lst xs))(i:H D=!(.lst xs))(k:∀c,H1 c=none->H0 c=none):Xy H0 (bF D H) v t hd:=by let{p,j,n,hs,o,e,q,r,u,x,y,d,f}:=h;have nt:∀c b,H c=!(.tup b)->bF D H c=!(.tup b):=λc b hc=>aV (λz=>by rw[z,i]at hc;cases hc) hc;exact{p,j,n,hs,o,e,nt _ _ q,aV (ax a d).symm r,u.mono nt,aV (ax a f).symm x,y.mono nt,k _ d,k _ f}
def zq.cd(h:zq H1 H v t)(a:H1 D=!(.lst xs))(i:H D=!(.lst xs))(k:∀c,H1 c=none->H0 c=none):zq H0 (bF D H) v t:=by let{p,j,n,hs,o,e,q,r,u,x,y,d,f}:=h;have nt:∀c b,H c=!(.tup b)->bF D H c=!(.tup b):=λc b hc=>aV (λz=>by rw[z,i]at hc;cases hc) hc;exact{p,j,n,hs,o,e,nt _ _ q,aV (ax a d).symm r,u.mono nt,aV (ax a f).symm x,y.mono nt,k _ d,k _ f}
theorem Yn.mono(g:dA H H'):∀{vs:List V} {a:List TS},Yn H0 H vs a->Yn H0 H' vs a:=by
 intro d e b;induction b with
 |nil=>exact .nil
 |cons h p r c=>exact .cons (h.mono g) p c
def Yn.snoc{a H:Hp}{v:V}{t:TS}{b:List (Int×Int)}(h:Xy a H v t b)(d:_Y b t){vs:List V}{c:List TS}(z:Yn a H vs c):Yn a H (vs++[v]) (c++[t]):=by
 induction z with
 |nil=>exact .cons h d .nil
 |cons e f r i=>exact .cons e f i
theorem Ys.mono(g:dA H H'):∀{vs:List V} {a:List SS},Ys H0 H vs a->Ys H0 H' vs a:=by
 intro d e b;induction b with
 |nil=>exact .nil
 |cons h r c=>exact .cons (h.mono g) c
def Ys.snoc{a H:Hp}{v:V}{t:SS}(h:zq a H v t){vs:List V}{b:List SS}(z:Ys a H vs b):Ys a H (vs++[v]) (b++[t]):=by
 induction z with
 |nil=>exact .cons h .nil
 |cons c r d=>exact .cons c d
def Xy.ax(g:∀c u,(∃xs,u=HO.tup xs\/u=HO.lst xs)->H c=!u->H' c=!u)(h:Xy H0 H v t hd):Xy H0 H' v t hd:=by let{p,b,d,hs,f,e,i,j,n,o,a}:=h;exact{p,b,d,hs,f,e,g _ _ {_,.inl rfl} i,g _ _ {_,.inr rfl} j,n.mono λ_ xs hc=>g _ _ {xs,.inl rfl} hc,g _ _ {_,.inr rfl} o,a.1.mono λ_ xs hc=>g _ _ {xs,.inl rfl} hc,a.2}
def zq.ax(g:∀c u,(∃xs,u=HO.tup xs\/u=HO.lst xs)->H c=!u->H' c=!u)(h:zq H0 H v t):zq H0 H' v t:=by let{p,b,d,hs,f,e,i,j,n,o,a}:=h;exact{p,b,d,hs,f,e,g _ _ {_,.inl rfl} i,g _ _ {_,.inr rfl} j,n.mono λ_ xs hc=>g _ _ {xs,.inl rfl} hc,g _ _ {_,.inr rfl} o,a.1.mono λ_ xs hc=>g _ _ {xs,.inl rfl} hc,a.2}
def Yn.ax(g:∀c u,(∃xs,u=HO.tup xs\/u=HO.lst xs)->H c=!u->H' c=!u):∀{vs:List V} {a:List TS},Yn H0 H vs a->Yn H0 H' vs a:=by
 intro e f b;induction b with
 |nil=>exact .nil
 |cons h p r d=>exact .cons (h.ax g) p d
def Ys.ax(g:∀c u,(∃xs,u=HO.tup xs\/u=HO.lst xs)->H c=!u->H' c=!u):∀{vs:List V} {a:List SS},Ys H0 H vs a->Ys H0 H' vs a:=by
 intro e f b;induction b with
 |nil=>exact .nil
 |cons h r d=>exact .cons (h.ax g) d
def JA{i:Nat}:(hk held)[i]?≠!(Sum.inr nm,v):=λh=>by let{a,n,e,_}:=EC h;cases e
def JB(a:H d=!(.dK kv))(b:dA (jl H d (.frz o (.dK kv))) H1):dA H (jl H1 d (.dK kv)):=λc u hc=>by
 by_cases z:c=d;.rw [z,aA];rw[z,a]at hc;exact hc
 .rw [aN z];exact b _ _ (by rw[aN z];exact hc)
#print a
def xk(c d CS:Tu)(H:Hp)(g b ds:Tu)(es:List R4)(a:List cU):Prop:=(∃f,H g=!(.ins c f [("by_tool",.ref b),("by_store",.ref ds)]))/\H b=!(.dK (XD es))/\H ds=!(.dK (X6 a))/\(∀e∈es,tf d H e.a e.d e.q e.t)/\(∀e∈a,ya CS H e.a e.g e.p e.s)/\(g::b::ds::(ml es++nj a)).Nodup/\(es.map (·.name)).Nodup/\(a.map (·.name)).Nodup
def vf(i v CS:Tu):Sp:=λA H Q _=>∃(g x j n o:Tu) (y z:V) (ys0 d:List V) (a:List (VA×Int)) (b:List (VA×Int×Int)),A= [.ref g,.ref j]/\H g=!(.ins i x [])/\H j=!(.tup [.ref n,.ref o,y,z])/\H n=!(.lst ys0)/\Yv H ys0 a/\(a.length<=10/\(a.map (·.1)).Nodup)/\H o=!(.lst d)/\Yx H d b/\(b.length<=10/\(b.map (·.1)).Nodup)/\
 ∀(f:Hp) (q r:Tu) (es:List R4) (h:List cU),(∀c u,c≠g->H c=!u->f c=!u)->xk i v CS f g q r es h->
  es.map (λe=>(e.name,e.c,e.t))=a.map (λp=>(p.1,p.2,{p.2,[],[]}))->h.map (λe=>(e.name,e.s))=b.map (λp=>(p.1,{p.2.1,p.2.2,[],[]}))->(∀c∈q::r::(ml es++nj h),H c=none)->Q .non f
theorem Yv.mono(g:dA H H'):∀{vs:List V} {a:List (VA×Int)},Yv H vs a->Yv H' vs a:=by
 intro d e b;induction b with
 |nil=>exact .nil
 |cons h r c=>exact .cons (g _ _ h) c
def Yx.keep(g:∀c xs,H c=!(.tup xs)->H' c=!(.tup xs)):∀{vs:List V} {a:List (VA×Int×Int)},Yx H vs a->Yx H' vs a:=by
 intro e f b;induction b with
 |nil=>exact .nil
 |cons h r d=>exact .cons (g _ _ h) d
def C0(D:oD K mg "Goods" CG "Goods.__init__" iX ["self","program"])(NI:jp K CG)(NM:cD K CG "by_tool")(NL:cD K CG "by_store")(Px:%[3,"tools_of",["program"]|sN CT])(Pk:%[3,"stores_of",["program"]|qj CS]):%[4,"Goods",CG,["program"]|vf CG CT CS]:=by
 exists D.ok nF;let{g,dx,pp,p0,p1,x2,x3,ys0,a0,R,S,rfl,T,Z,h2,h3,h4,h5,h6,h7,q}:=h;exists _,(aa (aG NI NM (pv 0) (aB Px hr rfl (aD (pv 1)))) (ae (aG NI NL (pv 0) (aB Pk hr rfl (aD (pv 1))))));walk_at "rd";refine{pp,p0,_,_,_,ys0,R,rfl,Z,h2,h3,h4.1,h4.2,λy H1 es U B e1 t1 m1 n1 f1=>?_};have a1:=B _ _ T;have a2:pp≠g:=λz=>by rw[z,T]at Z;cases Z
 have a3:p1≠g:=λz=>by rw[z,T]at h5;cases h5
 have n:=T;clear T;walk_at "rd";intro H2 b;have W:=b.at_;refine{pp,p1,_,_,_,a0,S,rfl,b.old (B _ _ Z) a2,b.old (B _ _ h5) a3,h6.keep (λc xs hc=>b.old (B _ _ hc) (λz=>by rw[z,n]at hc;cases hc)),h7.1,h7.2,λC H3 N F g3 e3 t3 m3 n3 f3=>?_};have a4:=g3 _ _ W;clear a1 W;walk_at "rd";intro H4 o;have G:=(ax n U).symm;have I:=(ax b.at_ F).symm;have J:∀c u,c≠g->H1 c=!u->H4 c=!u:=λc u O hc=>o.old (g3 _ _ (b.old hc O)) O;have i:=λc hc=>(ax n (f1 c hc)).symm;have j:=λc hc=>(ax b.at_ (f3 c hc)).symm;have v:=λc hc O=>B.free (by rw[<-b.else_ c O];exact hc);have a5:∀c∈y::ml es,∃u,H2 c=!u:=λc hc=>by
  rcases Xi hc with rfl|hc;.exact{_,b.old e1 G}
  .let{u,d}:=gv t1 c hc;exact{u,b.old d (i c hc)}
 have X:∀c∈C::nj N,H2 c=none:=λc hc=>by
  rcases Xi hc with rfl|hc;.exact F
  .exact f3 c hc
 have dj:∀c∈y::ml es,∀Y∈C::nj N,c≠Y:=λc hc Y M z=>by let{u,d}:=a5 c hc;rw[z,X Y M]at d;cases d
 have mE:∀{c},c∈ml es->c∈y::ml es:=λh=>QM _ h;have mS:∀{c},c∈nj N->c∈C::nj N:=λh=>QM _ h;rw[RA]at n1 n3;refine q H4 y C es N (λc u O hc=>J c u O (B _ _ hc)) {{_,o.at_},J _ _ G e1,o.old e3 I,λe r=>(t1 e r).grow λc u hc d=>J c u (λz=>?_) d,λe r=>(t3 e r).grow λc u hc d=>o.old d (λz=>?_),?_,?_,?_} m1 m3 (λc hc=>?_)
 .rcases hc with rfl|rfl|rfl|⟨xs,rfl⟩
  .exact i e.a (List.mem_flatMap.mpr {e,r,by simp}) z
  .exact i e.d (List.mem_flatMap.mpr {e,r,by simp}) z
  .exact i e.q (List.mem_flatMap.mpr {e,r,by simp}) z
  .rw [z,B _ _ n]at d;cases d
 .rcases hc with rfl|rfl|rfl|⟨xs,rfl⟩
  .exact j e.a (List.mem_flatMap.mpr {e,r,by simp}) z
  .exact j e.g (List.mem_flatMap.mpr {e,r,by simp}) z
  .exact j e.p (List.mem_flatMap.mpr {e,r,by simp}) z
  .rw [z,a4]at d;cases d
 .refine List.nodup_cons.mpr {λz=>?_,List.nodup_cons.mpr {λz=>?_,List.nodup_cons.mpr {λz=>?_,List.nodup_append.mpr {n1.2,n3.2,λc hc Y M=>dj c (mE hc) Y (mS M)}}}}
  .rcases Xi z with z|z
   .exact G z.symm
   .rcases Xi z with z|z
    .exact I z.symm
    .rcases Xk z with z|z
     .exact i _ z rfl
     .exact j _ z rfl
  .rcases Xi z with z|z
   .exact dj y QO C QO z
   .rcases Xk z with z|z
    .exact n1.1 z
    .exact dj y QO y (mS z) rfl
  .rcases Xk z with z|z
   .exact dj C (mE z) C QO rfl
   .exact n3.1 z
 .have e:=congrArg (List.map (λx:VA×Int×TS=>x.1)) m1;rw[Rb,Rb]at e;have e:es.map (·.name)=R.map (·.1):=e;rw[e];exact h4.2
 .have e:=congrArg (List.map (λx:VA×SS=>x.1)) m3;rw[Rb,Rb]at e;have e:N.map (·.name)=S.map (·.1):=e;rw[e];exact h7.2
 .rcases Xi hc with rfl|hc
  .exact U
  .rcases Xi hc with rfl|hc
   .exact v _ F I
   .rcases Xk hc with hc|hc
    .exact f1 _ hc
    .exact v _ (f3 _ hc) (j _ hc)
def TsP(H:Hp)(es:List R4)(D:Tu)(i:Nat)(a:List V)(b:St)(c:Hp):Prop:=Yn H (bF D c) a ((es.take i).map (·.t))/\∃d,b= [d]
def xA(d f:Tu):Sp:=λb H Q _=>∃(g h c:Tu) (x:V) (es:List R4),b= [.ref g]/\H g=!(.ins d h [("by_tool",.ref c),("by_store",x)])/\H c=!(.dK (XD es))/\(∀e∈es,tf f H e.a e.d e.q e.t)/\es.length<=200/\
 ∀(r:Tu) (a:Hp) (b:List V),H r=none->dA H a->a r=!(.lst b)->Yn H (bF r a) b (es.map (·.t))->Q (.ref r) a
def C1(D:eH K CG "tools" "Goods.tools" kQ ["self"])(M:jp K CG)(Y:cD K CG "by_tool")(Z:%[1,"told_tool",["tool"]|A5 CT]):%[2,CG,"tools",[]|xA CG CT]:=by
 exists D.ok M qW;let{g,dx,r,x,es,rfl,e1,e2,e3,b1,q}:=h;have big:=_bg
 have le:(XD es).length=es.length:=by unfold XD;rw[QL]
 refine{_,(ae (aw (uE (dv 1 ["tool"] [] (xf (ah M Y (pv 0))) (λn _ _ _ _=>(dq 0 n)) (λ_ _ _ _=>cc) (λ_ _ _ _=>(aB Z hr rfl (aD (pv 0)))))))),?_};symm;apply bD;simp only[yK];symm;intro o nf;refine pJ sy (λH g=>g _ _ aA) (by rw[QL];ext) (TsP H es) (λD H' _ _ _=>by unfold TsP;exact{.nil,_,rfl}) ?_ ?_
 .rintro D i x N σ1 O d b pv;unfold TsP at pv;let{y,v0,rfl}:=pv;obtain⟨e,C,rfl⟩:∃e,es[i]? =!e/\V.ref e.a=x:=by
   unfold XD at d;rw[Rb,QY]at d;cases z:es[i]? with
   |none=>rw[z]at d;cases d
   |some e=>rw[z]at d;cases d;exact{(e),rfl,rfl}
  walk_at "rd";have R:=e3 e (QW C);have t1:=R.grow λc u hc F=>b.same _ _ (by
   rw[aN (λz=>?_)];.exact F
   .let{a0,a1,S,T,U,_}:=R;rcases hc with rfl|rfl|rfl|⟨xs,rfl⟩;.rw [z,e2]at S;cases S
    .rw [z,e2]at T;have j4:=HO.dK.inj (Xr T);apply JA (held:=e.t.held) (i:=i) (nm:=e.name) (v:=.ref e.a);rw[<-j4];unfold XD;rw[QY,C];rfl
    .rw [z,e2]at U;cases U
    .rw [z,e2]at F;cases F)
  refine{e.a,e.d,e.q,e.t,rfl,t1,λv H2 hd G td pm=>b.put G λH3 mu=>?_};unfold TsP;rw[bj C,QT];have I:∀c,O c=none->H c=none:=λc hc=>by
   have:=b.same.free hc;by_cases z:c=r;.rw [z,aA]at this;cases this
   .rw [aN z]at this;exact this
  exact{(y.mono ((dU G).trans (eI mu))).snoc ((td.cd b.lst (G _ _ b.lst) I).mono (eI mu)) pm,_,rfl}
 .rintro D N σ1 O B W hy a2 pv;let{y,_}:=pv;rw[QL,le,QZ (Xm _)]at y;have X:=W _ _ aA;have j:D≠r:=λz=>by rw[z,aA]at B;cases B
  have J:H D=none:=by rw[aN j]at B;exact B
  exists r,nf,o,_,X;refine q D _ N J (JB e2 W) (by rw[aN j];exact hy) (y.ax λc u ⟨xs,d⟩ hc=>?_);have nD:=(bK hc).1;have hc:=cz _ _ hc;apply aV nD;have nc:c≠r:=λz=>by rw[z,X]at hc;rcases d with rfl|rfl<;>cases hc
  rw[aN nc];exact hc
def SsP(H:Hp)(es:List cU)(D:Tu)(i:Nat)(a:List V)(b:St)(c:Hp):Prop:=Ys H (bF D c) a ((es.take i).map (·.s))/\∃d,b= [d]
def vg(d CS:Tu):Sp:=λb H Q _=>∃(g f c:Tu) (x:V) (es:List cU),b= [.ref g]/\H g=!(.ins d f [("by_tool",x),("by_store",.ref c)])/\H c=!(.dK (X6 es))/\(∀e∈es,ya CS H e.a e.g e.p e.s)/\es.length<=200/\
 ∀(r:Tu) (a:Hp) (b:List V),H r=none->dA H a->a r=!(.lst b)->Ys H (bF r a) b (es.map (·.s))->Q (.ref r) a
def A7(D:eH K CG "stores" "Goods.stores" jN ["self"])(J:jp K CG)(Y:cD K CG "by_store")(Z:%[1,"told_store",["store"]|xy CS]):%[2,CG,"stores",[]|vg CG CS]:=by
 exists D.ok J pW;let{g,dx,r,x,es,rfl,e1,e2,e3,b1,q}:=h;have big:=_bg
 have le:(X6 es).length=es.length:=by unfold X6;rw[QL]
 refine{_,(ae (aw (uE (dv 1 ["store"] [] (xf (ah J Y (pv 0))) (λn _ _ _ _=>(dq 0 n)) (λ_ _ _ _=>cc) (λ_ _ _ _=>(aB Z hr rfl (aD (pv 0)))))))),?_};symm;apply bD;simp only[yK];symm;intro o nf;refine pJ sy (λH g=>g _ _ aA) (by rw[QL];ext) (SsP H es) (λD H' _ _ _=>by unfold SsP;exact{.nil,_,rfl}) ?_ ?_
 .rintro D i x M σ1 N d b pv;unfold SsP at pv;let{y,v0,rfl}:=pv;obtain⟨e,O,rfl⟩:∃e,es[i]? =!e/\V.ref e.a=x:=by
   unfold X6 at d;rw[Rb,QY]at d;cases z:es[i]? with
   |none=>rw[z]at d;cases d
   |some e=>rw[z]at d;cases d;exact{(e),rfl,rfl}
  walk_at "rd";have R:=e3 e (QW O);have t1:=R.grow λc u hc C=>b.same _ _ (by
   rw[aN (λz=>?_)];.exact C
   .let{a0,a1,a2,S,T,_,U,_}:=R;rcases hc with rfl|rfl|rfl|⟨xs,rfl⟩;.rw [z,e2]at S;cases S
    .rw [z,e2]at T;cases T
    .rw [z,e2]at U;cases U
    .rw [z,e2]at C;cases C)
  refine{e.a,e.g,e.p,e.s,rfl,t1,λv H2 F td=>b.put F λH3 mu=>?_};unfold SsP;rw[bj O,QT];have G:∀c,N c=none->H c=none:=λc hc=>by
   have:=b.same.free hc;by_cases z:c=r;.rw [z,aA]at this;cases this
   .rw [aN z]at this;exact this
  exact{(y.mono ((dU F).trans (eI mu))).snoc ((td.cd b.lst (F _ _ b.lst) G).mono (eI mu)),_,rfl}
 .rintro D M σ1 N B W hy a3 pv;let{y,_}:=pv;rw[QL,le,QZ (Xm _)]at y;have X:=W _ _ aA;have j:D≠r:=λz=>by rw[z,aA]at B;cases B
  have I:H D=none:=by rw[aN j]at B;exact B
  exists r,nf,o,_,X;refine q D _ M I (JB e2 W) (by rw[aN j];exact hy) (y.ax λc u ⟨xs,d⟩ hc=>?_);have nD:=(bK hc).1;have hc:=cz _ _ hc;apply aV nD;have nc:c≠r:=λz=>by rw[z,X]at hc;rcases d with rfl|rfl<;>cases hc
  rw[aN nc];exact hc
end
def A8{α:Type}{A B C:List α}(nd:(A++(B++C)).Nodup):∀x,x∈A++C->x∉B:=λx a b=>by
 rw[RM]at nd;let{_,c,d}:=nd;rcases Xk a with a|a
 .exact d x a x (Q9 _ b) rfl
 .rw [RM]at c;exact c.2.2 x b x a rfl
def Nz(a:List Tu)(H b:Hp):Prop:=∀c u,c∉a->H c=!u->b c=!u
theorem XS.g(f:XS a d q H H')(b:a∈cs)(e:d∈cs)(i:q∈cs):Nz cs H H':=λc u n h=>f c u (λz=>n (z▸b)) (λz=>n (z▸e)) (λz=>n (z▸i)) h
theorem xk.same(k:dA H H')(G:xk CG CT CS H g dt ds es ss):xk CG CT CS H' g dt ds es ss:=by let{{b,c},d,f,h,i,j}:=G;exact{{b,k _ _ c},k _ _ d,k _ _ f,λe a=>(h e a).same k,λe a=>(i e a).same k,j}
theorem fG:ml (l1++e::l2)=ml l1++([e.a,e.d,e.q]++ml l2):=by unfold ml;rw[Rm,Re]
theorem fH:nj (l1++e::l2)=nj l1++([e.a,e.g,e.p]++nj l2):=by unfold nj;rw[Rm,Re]
def jS(h:e∈es):e.a∈ml es/\e.d∈ml es/\e.q∈ml es:={List.mem_flatMap.mpr {e,h,by simp},List.mem_flatMap.mpr {e,h,by simp},List.mem_flatMap.mpr {e,h,by simp}}
def i8(h:e∈es):e.a∈nj es/\e.g∈nj es/\e.p∈nj es:={List.mem_flatMap.mpr {e,h,by simp},List.mem_flatMap.mpr {e,h,by simp},List.mem_flatMap.mpr {e,h,by simp}}
theorem xk.ce(G:xk CG CT CS H g dt ds (l1++e::l2) ss)(f:XS e.a e.d e.q H H')(h:tf CT H' e.a e.d e.q t):xk CG CT CS H' g dt ds (l1++{e with t:=t}::l2) ss:=by
 let{{A,B},C,E,q,F,nd,y,I}:=G;have J:=q e (QS _ QO);have K:=nd;rw[fG]at nd;have r:((g::dt::ds::ml l1)++([e.a,e.d,e.q]++(ml l2++nj ss))).Nodup:=by
  have e1:(g::dt::ds::ml l1)++([e.a,e.d,e.q]++(ml l2++nj ss))=g::dt::ds::((ml l1++([e.a,e.d,e.q]++ml l2))++nj ss):=by simp[QQ]
  rw[e1];exact nd
 have keep:=λc u hc b=>by have n:=A8 r c hc;exact f c u (λz=>n (by rw[z];simp)) (λz=>n (by rw[z];simp)) (λz=>n (by rw[z];simp)) b
 have kt:=J.kt f;have p:∀c,c∈ml l1\/c∈ml l2\/c∈nj ss->c∈(g::dt::ds::ml l1)++(ml l2++nj ss):=λc hc=>by
  rcases hc with hc|hc|hc;.exact Q9 _ (QM _ (QM _ (QM _ hc)))
  .exact QS _ (Q9 _ hc)
  .exact QS _ (QS _ hc)
 have d:∀a:R4,(∀c,c=a.a\/c=a.d\/c=a.q->c∈(g::dt::ds::ml l1)++(ml l2++nj ss))->tf CT H a.a a.d a.q a.t->tf CT H' a.a a.d a.q a.t:=λa i v=>v.grow λc u hc b=>by
  rcases hc with hc|hc|hc|⟨x,rfl⟩;.exact keep c u (i c (.inl hc)) b
  .exact keep c u (i c (.inr (.inl hc))) b
  .exact keep c u (i c (.inr (.inr hc))) b
  .exact kt c x b
 have M:XD (l1++{e with t:=t}::l2)=XD (l1++e::l2):=by unfold XD;rw[QT,QT,QU,QU]
 refine{{A,keep g _ eq B},by rw[M];exact keep dt _ eq C,keep ds _ eq E,λa o=>?_,λa o=>?_,?_,?_,I}
 .rcases Xk o with i|i
  .have j:=jS i;refine d a (λc hc=>p c (.inl ?_)) (q a (Q9 _ i));rcases hc with rfl|rfl|rfl
   .exact j.1
   .exact j.2.1
   .exact j.2.2
  .rcases Xi i with rfl|i
   .exact h
   .have j:=jS i;refine d a (λc hc=>p c (.inr (.inl ?_))) (q a (QS _ (QM _ i)));rcases hc with rfl|rfl|rfl
    .exact j.1
    .exact j.2.1
    .exact j.2.2
 .have j:=i8 o;refine(F a o).grow λc u hc b=>?_;rcases hc with rfl|rfl|rfl|⟨x,rfl⟩
  .exact keep _ u (p _ (.inr (.inr j.1))) b
  .exact keep _ u (p _ (.inr (.inr j.2.1))) b
  .exact keep _ u (p _ (.inr (.inr j.2.2))) b
  .exact kt c x b
 .rw [fG];exact nd
 .rw [QT,QU]at y⊢;exact y
theorem xk.store(G:xk CG CT CS H g dt ds es (l1++e::l2))(f:XS e.a e.g e.p H H')(h:ya CS H' e.a e.g e.p s):xk CG CT CS H' g dt ds es (l1++{e with s:=s}::l2):=by
 let{{B,C},E,F,I,r,nd,J,A}:=G;have v:=r e (QS _ QO);rw[fH]at nd;have x:((g::dt::ds::(ml es++nj l1))++([e.a,e.g,e.p]++nj l2)).Nodup:=by
  have e1:(g::dt::ds::(ml es++nj l1))++([e.a,e.g,e.p]++nj l2)=g::dt::ds::(ml es++(nj l1++([e.a,e.g,e.p]++nj l2))):=by simp[QQ]
  rw[e1];exact nd
 have keep:=λc u hc b=>by have n:=A8 x c hc;exact f c u (λz=>n (by rw[z];simp)) (λz=>n (by rw[z];simp)) (λz=>n (by rw[z];simp)) b
 have kt:=λc p hc=>f c _ (v.ne c p hc).1 (v.ne c p hc).2.1 (v.ne c p hc).2.2 hc;have q:∀c,c∈ml es\/c∈nj l1\/c∈nj l2->c∈(g::dt::ds::(ml es++nj l1))++nj l2:=λc hc=>by
  rcases hc with hc|hc|hc;.exact Q9 _ (QM _ (QM _ (QM _ (Q9 _ hc))))
  .exact Q9 _ (QM _ (QM _ (QM _ (QS _ hc))))
  .exact QS _ hc
 have d:∀a:cU,(∀c,c=a.a\/c=a.g\/c=a.p->c∈(g::dt::ds::(ml es++nj l1))++nj l2)->ya CS H a.a a.g a.p a.s->ya CS H' a.a a.g a.p a.s:=λa i y=>y.grow λc u hc b=>by
  rcases hc with hc|hc|hc|⟨p,rfl⟩;.exact keep c u (i c (.inl hc)) b
  .exact keep c u (i c (.inr (.inl hc))) b
  .exact keep c u (i c (.inr (.inr hc))) b
  .exact kt c p b
 have K:X6 (l1++{e with s:=s}::l2)=X6 (l1++e::l2):=by unfold X6;rw[QT,QT,QU,QU]
 refine{{B,keep g _ eq C},keep dt _ eq E,by rw[K];exact keep ds _ eq F,λa o=>?_,λa o=>?_,?_,J,?_}
 .have j:=jS o;refine(I a o).grow λc u hc b=>?_;rcases hc with rfl|rfl|rfl|⟨p,rfl⟩
  .exact keep _ u (q _ (.inl j.1)) b
  .exact keep _ u (q _ (.inl j.2.1)) b
  .exact keep _ u (q _ (.inl j.2.2)) b
  .exact kt c p b
 .rcases Xk o with i|i
  .have j:=i8 i;refine d a (λc hc=>q c (.inr (.inl ?_))) (r a (Q9 _ i));rcases hc with rfl|rfl|rfl
   .exact j.1
   .exact j.2.1
   .exact j.2.2
  .rcases Xi i with rfl|i
   .exact h
   .have j:=i8 i;refine d a (λc hc=>q c (.inr (.inr ?_))) (r a (QS _ (QM _ i)));rcases hc with rfl|rfl|rfl
    .exact j.1
    .exact j.2.1
    .exact j.2.2
 .rw [fH];exact nd
 .rw [QT,QU]at A⊢;exact A
theorem mP:∀{b a:List R4} {e:R4},((b++e::a).map (·.name)).Nodup->bc (XD (b++e::a)) (Sum.inr e.name)=!(.ref e.a)
 |[],a,e,_=>dP rfl
 |x::b,a,e,nd=>by rw[Rn,QU,RA]at nd;have ne:x.name≠e.name:=λz=>nd.1 (z▸Rj (QS _ QO));unfold XD;rw[Rn,QU,dQ (λz=>ne (Sum.inr.inj z))];exact mP nd.2
theorem mQ:∀{b a:List cU} {e:cU},((b++e::a).map (·.name)).Nodup->bc (X6 (b++e::a)) (Sum.inr e.name)=!(.ref e.a)
 |[],a,e,_=>dP rfl
 |x::b,a,e,nd=>by rw[Rn,QU,RA]at nd;have ne:x.name≠e.name:=λz=>nd.1 (z▸Rj (QS _ QO));unfold X6;rw[Rn,QU,dQ (λz=>ne (Sum.inr.inj z))];exact mQ nd.2
def FQ(G:xk CG CT CS H g dt ds (l1++e::l2) ss)(d:h∈hs)(i:e.t.que.length<200)(k:∀a,Nz (ml (l1++e::l2)) H a->xk CG CT CS a g dt ds (l1++{e with t:=(dE e.t h n).2}::l2) ss->Kx (.bl (dE e.t h n).1) a):qk CG CT [.ref g,.int h,.str e.name,.int n] H Kx E:=by let{{j,o},p,v,q,x,nd,r,y}:=id G;have c:e∈l1++e::l2:=QS _ QO;have b:=jS c;exact{g,j,dt,e.a,e.d,e.q,_,_,e.name,h,n,e.t,rfl,o,p,mP r,q e c,d,i,λa f u=>k a (f.g b.1 b.2.1 b.2.2) (G.ce f u)}
def xB(G:xk CG CT CS H g dt ds (l1++e::l2) ss)(i:h∈hs)(k:∀a p r b,Nz (ml (l1++e::l2)) H a->H r=none->a p=!(.tup [.int (Zc e.t h n),.ref r])->a r=!(.lst b)->X8 "takes" a b (cq e.t h n).1->xk CG CT CS a g dt ds (l1++{e with t:=(cq e.t h n).2}::l2) ss->Kx (.ref p) a):md CG CT [.ref g,.int h,.str e.name,.int n] H Kx E:=by let{{j,o},q,B,u,C,nd,v,F}:=id G;have d:e∈l1++e::l2:=QS _ QO;have c:=jS d;exact{g,j,dt,e.a,e.d,e.q,_,_,e.name,h,n,e.t,rfl,o,q,mP v,u e d,i,λa p r b f x y hl z A=>k a p r b (f.g c.1 c.2.1 c.2.2) x y hl z (G.ce f A)}
def JC(G:xk CG CT CS H g dt ds es (l1++e::l2))(q:e.s.gets.length<200)(i:e.s.puts.length<200)(k:∀c p r d b a s',Nz (nj (l1++e::l2)) H c->H r=none->c p=!(.tup [.bl b,.ref r])->c r=!(.lst d)->XZ c d a->xk CG CT CS c g dt ds es (l1++{e with s:=s'}::l2)->vd e.s h n b a s'->Kx (.ref p) c):tW CG CS [.ref g,.int h,.str e.name,.int n] H Kx E:=by let{{u,v},I,x,J,y,nd,K,z}:=id G;have o:e∈l1++e::l2:=QS _ QO;have j:=i8 o;exact{g,u,ds,e.a,e.g,e.p,_,_,e.name,h,n,e.s,rfl,v,x,mQ z,y e o,q,i,λc p r d b a s' f A i hl B C F=>k c p r d b a s' (f.g j.1 j.2.1 j.2.2) A i hl B (G.store f C) F}
def JD(G:xk CG CT CS H g dt ds es (l1++e::l2))(q:e.s.gets.length<200)(i:e.s.puts.length<200)(k:∀c p r d b a s',Nz (nj (l1++e::l2)) H c->H r=none->c p=!(.tup [.bl b,.ref r])->c r=!(.lst d)->XZ c d a->xk CG CT CS c g dt ds es (l1++{e with s:=s'}::l2)->ve e.s h n b a s'->Kx (.ref p) c):tX CG CS [.ref g,.int h,.str e.name,.int n] H Kx E:=by let{{u,v},I,x,J,y,nd,K,z}:=id G;have o:e∈l1++e::l2:=QS _ QO;have j:=i8 o;exact{g,u,ds,e.a,e.g,e.p,_,_,e.name,h,n,e.s,rfl,v,x,mQ z,y e o,q,i,λc p r d b a s' f A i hl B C F=>k c p r d b a s' (f.g j.1 j.2.1 j.2.2) A i hl B (G.store f C) F}
#print a
def Yt(s:SS)(n:Int):Int:=if(if s.most-s.level<n then s.most-s.level else n)>0 then(if s.most-s.level<n then s.most-s.level else n)else 0
def mR(u CS:Tu):Sp:=λy H Q _=>∃(g v h a e f:Tu) (x:V) (i:List (hH×V)) (j:VA) (n:Int) (s:SS),y= [.ref g,.str j,.int n]/\H g=!(.ins u v [("by_tool",x),("by_store",.ref h)])/\H h=!(.dK i)/\bc i (Sum.inr j)=!(.ref a)/\ya CS H a e f s/\
 ∀(c:Hp) (p r:Tu) (o:List V) (b:Int) (d:List (Int×Bool×Int)) (q:SS),XS a e f H c->H r=none->c p=!(.tup [.int b,.ref r])->c r=!(.lst o)->XZ c o d->ya CS c a e f q->b=Yt s n->0<=b->(b<=n\/b=0)->(b<=s.most-s.level\/b=0)->YL {s.level+b,s.most,s.gets,s.puts} d q->Q (.ref p) c
def C3(D:eH K CG "bring" "Goods.bring" kO ["self","name","n"])(R:jp K CG)(Y:cD K CG "by_store")(j:jp K CS)(v:cD K CS "level")(Z:cD K CS "most")(N6:%[1,"serve_by_turns",["store"]|mO CS])(PM:mg "min" =none)(PN:mg "max" =none):%[2,CG,"bring",["name","n"]|mR CG CS]:=by
 exists D.ok R gm;let{g,dx,ds,a,y,B,x,kv,nm,n,d,rfl,e1,e2,e3,S,q}:=h;have hu:=bA hr;let{C,gs,ps,T,F,k3,G,k5,k6,k7,k8}:=id S;have I:y≠a:=λz=>by rw[z,T]at F;cases F
 have J:B≠a:=λz=>by rw[z,T]at G;cases G
 exists _,(aa (aT 3 gm (bY hu (ah R Y (pv 0)) (pv 1) (λ_ _=>rfl))) (aa (aT 4 gm (jx (rT rfl) PN (ay ac (jx (rV rfl) PM (ay (pv 2) (aM dF (ah j Z (pv 3)) (ah j v (pv 3)))))))) (aa (aG j v (pv 3) (aM bE (ah j v (pv 3)) (pv 4))) (ae (aw (am (ay (pv 4) (aB N6 hr rfl (aD (pv 3))))))))));walk_at "rd";have hb:∃b,(if(if d.most-d.level<n then d.most-d.level else n)>0 then(if d.most-d.level<n then d.most-d.level else n)else 0)=b/\0<=b/\(b<=n\/b=0)/\(b<=d.most-d.level\/b=0):=by refine{_,rfl,?_,?_,?_}<;>split<;>(try split)<;>ext
 let{b,U,b0,b1,b2}:=hb;rw[U];intro H1 e;have kt:=λc W hc=>e.old hc (S.ne c W hc).1;have t1:ya CS H1 a y B ⟨d.level+b,d.most,d.gets,d.puts⟩:={C,gs,ps,e.at_,e.old F I,k3.mono kt,e.old G J,k5.mono kt,k6,k7,k8}
 refine{a,y,B,{d.level+b,d.most,d.gets,d.puts},rfl,t1,λr H2 sv M s' i f2 h2 sd t2 sb=>?_};intro p H3 hp o h3;have N:=(ax e.at_ i).symm;have O:H r=none:=by rw[<-e.else_ r N];exact i
 exact q H3 p r sv b M s' (λc u X n2 n3 hc=>o _ _ (f2 c u X n2 n3 (e.old hc X))) O h3 (o _ _ h2) (sd.mono λc W hc=>o _ _ hc) (t2.same o) (by unfold Yt;exact U.symm) b0 b1 b2 sb
def C4(G:xk CG CT CS H g dt ds es (l1++e::l2))(k:∀c p r d b a s',Nz (nj (l1++e::l2)) H c->H r=none->c p=!(.tup [.int b,.ref r])->c r=!(.lst d)->XZ c d a->xk CG CT CS c g dt ds es (l1++{e with s:=s'}::l2)->b=Yt e.s n->0<=b->(b<=n\/b=0)->(b<=e.s.most-e.s.level\/b=0)->YL {e.s.level+b,e.s.most,e.s.gets,e.s.puts} a s'->Kx (.ref p) c):mR CG CS [.ref g,.str e.name,.int n] H Kx E:=by let{{j,o},M,q,N,u,nd,O,v}:=id G;have i:e∈l1++e::l2:=QS _ QO;have h:=i8 i;exact{g,j,ds,e.a,e.g,e.p,_,_,e.name,n,e.s,rfl,o,q,mQ v,u e i,λc p r d b a s' f x y hl z A B C F I J=>k c p r d b a s' (f.g h.1 h.2.1 h.2.2) x y hl z (G.store f A) B C F I J}
end
def lv1(h:Int)(e:R4):R4:=if 0<ci e.t.held h then{e with t:=(cq e.t h (ci e.t.held h)).2}else e
def YN(h:Int)(e:R4):Option (VA×Int×List (Int×Int)):=if 0<ci e.t.held h then some (e.name,ci e.t.held h,(cq e.t h (ci e.t.held h)).1)else none
def C5:(lv1 h e).name=e.name/\(lv1 h e).a=e.a/\(lv1 h e).d=e.d/\(lv1 h e).q=e.q/\(lv1 h e).c=e.c:=by unfold lv1;split<;>exact{(rfl),rfl,rfl,rfl,rfl}
theorem C6:Zc t h (ci t.held h)=ci t.held h:=by unfold Zc;split<;>rfl
inductive Yc (bad:List Tu) (H0 H:Hp):List V->List (VA×Int×List (Int×Int))->Prop
 |nil:Yc bad H0 H [] []
 |cons {p r:Tu} {nm:VA} {b:Int} {sv vs:List V} {its:List (Int×Int)} {l:List (VA×Int×List (Int×Int))}:H p=!(.tup [.str nm,.int b,.ref r])->H r=!(.lst sv)->r∉bad->H0 r=none->X8 "takes" H sv its->Yc bad H0 H vs l->Yc bad H0 H (.ref p::vs) ((nm,b,its)::l)
theorem Yc.mono(g:∀c xs,H c=!(.tup xs)->H' c=!(.tup xs))(b:∀c xs,c∉bad->H c=!(.lst xs)->H' c=!(.lst xs))(t:Yc bad H0 H vs l):Yc bad H0 H' vs l:=by
 induction t with
 |nil=>exact .nil
 |cons d e a f h _ i=>exact .cons (g _ _ d) (b _ _ a e) a f (h.mono g) i
def Yc.snoc(a:H p=!(.tup [.str nm,.int b,.ref r]))(c:H r=!(.lst sv))(d:r∉bad)(e:H0 r=none)(f:X8 "takes" H sv its):∀{vs:List V} {l:List (VA×Int×List (Int×Int))},Yc bad H0 H vs l->Yc bad H0 H (vs++[.ref p]) (l++[(nm,b,its)]):=by
 intro v x h;induction h with
 |nil=>exact .cons a c d e f .nil
 |cons i j n o q r u=>exact .cons i j n o q u
theorem Yc.length:∀{vs:List V} {l:List (VA×Int×List (Int×Int))},Yc bad H0 H vs l->vs.length=l.length:=by
 intro c d a;induction a with
 |nil=>exact rfl
 |cons _ _ _ _ _ r b=>rw[QP,QP,b]
theorem xk.kt(G:xk CG CT CS H g dt ds es ss)(f:Nz (ml es) H H'):∀c xs,H c=!(.tup xs)->H' c=!(.tup xs):=λc xs hc=>f c _ (λz=>by
 let{_,_,_,a,_}:=G;let{e,b,z}:=qX z;have:=(a e b).ne c xs hc;rcases z with rfl|rfl|rfl
 .exact this.1 rfl
 .exact this.2.1 rfl
 .exact this.2.2 rfl) hc
theorem xk.has(G:xk CG CT CS H g dt ds es ss):∀c∈g::dt::ds::(ml es++nj ss),∃u,H c=!u:=λc hc=>by
 let{{h,a},b,d,e,f,_}:=G;rcases Xi hc with rfl|hc
 .exact{_,a}
 rcases Xi hc with rfl|hc;.exact{_,b}
 rcases Xi hc with rfl|hc;.exact{_,d}
 rcases Xk hc with hc|hc;.exact gv e c hc
 .exact qY f c hc
def xk.grow(G:xk CG CT CS H g dt ds es ss)(k:∀c u,(c∈g::dt::ds::(ml es++nj ss)\/∃xs,u=HO.tup xs)->H c=!u->H' c=!u):xk CG CT CS H' g dt ds es ss:=by
 let{{j,n},o,p,q,r,v}:=G;have d:∀{c},c∈ml es->c∈g::dt::ds::(ml es++nj ss):=λh=>QM _ (QM _ (QM _ (Q9 _ h)));have f:∀{c},c∈nj ss->c∈g::dt::ds::(ml es++nj ss):=λh=>QM _ (QM _ (QM _ (QS _ h)));refine{{j,k _ _ (.inl eq) n},k _ _ (.inl eq) o,k _ _ (.inl eq) p,λe b=>(q e b).grow λc u hc i=>k c u ?_ i,λe b=>(r e b).grow λc u hc i=>k c u ?_ i,v}
 .have a:=jS b;rcases hc with rfl|rfl|rfl|hc;.exact .inl (d a.1)
  .exact .inl (d a.2.1)
  .exact .inl (d a.2.2)
  .exact .inr hc
 .have a:=i8 b;rcases hc with rfl|rfl|rfl|hc;.exact .inl (f a.1)
  .exact .inl (f a.2.1)
  .exact .inl (f a.2.2)
  .exact .inr hc
theorem qZ:∀es:List R4,ml (es.map (lv1 h))=ml es
 |[]=>rfl
 |e::es=>by let{_,a,b,c,_}:=C5;have:=qZ (h:=h) es;unfold ml at this⊢;rw[QU,Re,Re,this,a,b,c]
theorem xC:ml (l1++l2)=ml l1++ml l2:=by unfold ml;rw[Rm]
#print a
def _X(d e CS g f ds b:Tu)(h:Int)(es:List R4)(j:List cU)(H:Hp)(i:Nat)(σ:St)(a:Hp):Prop:=∃(c:List V) (n o p q:Option V),σ= [!(.ref g),!(.int h),!(.ref b),n,o,p,q]/\Nz (ml es) H a/\xk d e CS a g f ds ((es.take i).map (lv1 h)++es.drop i) j/\a b=!(.lst c)/\Yc (b::ml es) H a c ((es.take i).filterMap (YN h))
def re(d e CS:Tu):Sp:=λc H Q _=>∃(g f i:Tu) (es:List R4) (j:List cU) (h:Int),c= [.ref g,.int h]/\xk d e CS H g f i es j/\h∈hs/\es.length<=10/\
 ∀(a:Hp) (b:Tu) (c:List V),Nz (ml es) H a->H b=none->xk d e CS a g f i (es.map (lv1 h)) j->a b=!(.lst c)->Yc (b::ml es) H a c (es.filterMap (YN h))->Q (.ref b) a
def C7(D:eH K CG "leave" "Goods.leave" kP ["self","hand"])(X:jp K CG)(NM:cD K CG "by_tool")(NR:jp K CT)(NX:cD K CT "held")(OD:%[3,CG,"give",["hand","name","n"]|md CG CT])(N5:mg "list" =none):%[4,CG,"leave",["hand"]|re CG CT CS]:=by
 exists D.ok X cO;let{g,dt,ds,es,ss,h,rfl,G,hh,le,q}:=h;have b:=bA hr;have big:=_bg
 exists _,(aa (aT 2 cO (aQ bJ)) (aa (cE Tl.never rfl (bC (cn yL N5 (aD (ah X NM (pv 0))))) (aZ 3 cO) (aa (aT 4 cO (lH b (ah NR NX (bY b (ah X NM (pv 0)) (pv 3) (λ_ _=>rfl))) (pv 1) ac {(rfl),rfl,rfl,rfl})) (ae (aH (aK gB (pv 4) ac) (aa (bW (aO OD hr (pv 0) (aW (pv 1) (pv 3) (pv 4))) (bG 2 rfl (aC (aZ 5 cO) (aC (aZ 6 cO) bB)))) (ae (av (a8 (pv 2) (am (aW (pv 3) (pv 5) (pv 6))))))) aE)))) (ae (aw (pv 2)))));walk_at "rd";intro M H1 B g1 Y;have Z:=G.same g1;let{{dx,e1},e2,_}:=id Z;apply ce;simp only[cC];walk_at "rd";have lk:(XD es).length=es.length:=by unfold XD;rw[QL]
 refine{by ext,λl H2 hl g2 S=>?_};have ek:(XD es).map (λkv=>kV kv.1)=es.map (λe=>V.str e.name):=by unfold XD;rw[Rb];rfl
 rw[ek]at S;clear e1 e2;refine{{_,ip.of S},?_};have G2:=Z.same g2;have a0:∀{c:Tu},H1 c=none->c∉ml es:=λ{c} hc z=>by let{_,_,_,F,_}:=Z;let{u,b}:=gv F c z;rw[hc]at b;cases b
 have N:M∉ml es:=λz=>by let{_,_,_,F,_}:=G;let{u,b}:=gv F M z;rw[B]at b;cases b
 have a1:=(ax Y hl).symm;refine cQ (xs:=es.map (λe=>V.str e.name)) (λi σ H'=>_X CG CT CS g dt ds M h es ss H i σ H'/\H' l=!(.lst (es.map λe=>V.str e.name))) ?_ ?_ ?_ ?_;.refine{?_,S};unfold _X;exact{[],_,_,_,_,rfl,λc u _ hc=>g2 _ _ (g1 _ _ hc),G2,g2 _ _ Y,.nil}
 .rintro i σ H3 hi ⟨_,T⟩;exact ip.of T
 .rintro i x σ H3 O ⟨z,T⟩;unfold _X at z;let{vs,v3,v4,v5,v6,rfl,U,C,v,d}:=z;obtain⟨e,W,rfl⟩:∃e,es[i]? =!e/\V.str e.name=x:=by
   rw[QY]at O;cases z:es[i]? with
   |none=>rw[z]at O;cases O
   |some e=>rw[z]at O;cases O;exact{(e),rfl,rfl}
  have hi:=(Xj W).1;have ed:es.drop i=e::es.drop (i+1):=by let{l,e'}:=Xj W;rw[<-e'];exact List.drop_eq_getElem_cons l
  rw[ed]at C;let{{dx,e1},e2,_,e4,_,_,n1,_}:=id C;have me:e∈(es.take i).map (lv1 h)++e::es.drop (i+1):=QS _ QO;have vE:=mP n1;let{ag,ak,k1,k2,k3,k4,k5,k6,k7}:=id (e4 e me);clear Y S;walk_at "rd";rw[qi];have ea:ml ((es.take i).map (lv1 h)++e::es.drop (i+1))=ml es:=by rw[xC,qZ,<-ed,<-xC,Ry]
  have et:(es.take (i+1)).map (lv1 h)++es.drop (i+1)=(es.take i).map (lv1 h)++lv1 h e::es.drop (i+1):=by rw[bj W,QT,QQ];rfl
  have ef:(es.take (i+1)).filterMap (YN h)=(es.take i).filterMap (YN h)++(YN h e).toList:=by rw[bj W,List.filterMap_append];congr 1
  refine{{_,rfl},_,rfl,cR (λc=>?_) λc=>?_}
  .refine xB C hh λH4 pr r sv I j F a2 a3 G4=>?_;have a4:=C.kt I;rw[ea]at I;rw[C6]at F;have n:=I M _ N v;have lv:=d.length;have a5:=List.length_filterMap_le (YN h) (es.take i);rw[Rv]at a5;refine{pr,rfl,_,F,rfl,_,_,rfl,_,_,rfl,rfl,vs,n,λp5 H5 a9 o h5=>{vs,o _ _ n,by ext,λH6 mu=>{?_,?_}}}
   .unfold _X;have nr:r∉M::ml es:=λz=>by
     rcases Xi z with z|z;.rw [z,v]at j;cases j
     .rw [<-ea]at z;let{u,b}:=gv e4 r z;rw[j]at b;cases b
    have ab:H r=none:=by
     cases z:H r with
     |none=>rfl
     |some u=>rw[U r u (λy=>nr (QM _ y)) z]at j;cases j
    have al:=(ax n a9).symm;have af:=λc xs hc=>o _ _ (a4 c xs hc);refine{vs++[.ref p5],_,_,_,_,rfl,λc u J hc=>mu.old (o _ _ (I c u J (U c u J hc))) (ax hc B),?_,mu.at_,?_}
    .rw [et];have e1:lv1 h e={e with t:=(cq e.t h (ci e.t.held h)).2}:=(by unfold lv1;rw[Xf c]);rw[e1];refine(G4.same o).grow λc u hc b=>mu.old b (λz=>?_);rcases hc with hc|⟨xs,rfl⟩
     .have ad:ml ((es.take i).map (lv1 h)++{e with t:=(cq e.t h (ci e.t.held h)).2}::es.drop (i+1))=ml es:=by rw[fG,<-ea,fG]
      rw[ad]at hc;let{u0,R}:=G.has c hc;rw[z,B]at R;cases R
     .rw [z,o _ _ n]at b;cases b
    .rw [ef];have e2:YN h e=!(e.name,ci e.t.held h,(cq e.t h (ci e.t.held h)).1):=(by unfold YN;rw[Xf c]);rw[e2];refine Yc.mono (λc xs hc=>mu.old hc (λz=>by rw[z,o _ _ n]at hc;cases hc)) (λc xs J hc=>mu.old hc (λz=>J (by rw[z];exact QO))) (Yc.snoc h5 (o _ _ a2) nr ab (a3.mono λc xs hc=>o _ _ hc) (d.mono af λc xs J hc=>o _ _ (I c _ (λz=>J (QM _ z)) hc)))
   .exact mu.old (o _ _ (I l _ (a0 hl) T)) a1
  .unfold _X;refine{vs,_,_,_,_,rfl,U,?_,v,?_};.rw [et];have e1:lv1 h e=e:=(by unfold lv1;rw[Xe c]);rw[e1];exact C
   .rw [ef];have e2:YN h e=none:=(by unfold YN;rw[Xe c]);rw[e2];show Yc _ _ _ _ (_++[]);rw[Rf];exact d
 .rintro σ H3 ⟨z,T⟩;let{vs,v3,v4,v5,v6,rfl,U,C,v,d}:=z;rw[QL,QZ (Xm _),List.drop_of_length_le (Xm _),Rf]at C;rw[QL,QZ (Xm _)]at d;walk_at "rd"
end
end _K
namespace _K.Ag
open PySem _L
abbrev It:=Tu×List Int
def kf(a:List It)(i:Nat):List Int:=(a.getD i (0,[])).2
def le(a b:List Int):Prop:=_T.aL b a=false
def le_refl(a:List Int):le a a:=kx a
def vi(h:_T.aL a b=true):_T.aL b a=false:=by
 cases z:_T.aL b a with
 |false=>rfl
 |true=>have:=gP h z;rw[kx]at this;cases this
def le_of_lt(h:_T.aL a b=true):le a b:=vi h
def le_trans(h:le a b)(h':le b c):le a c:=by
 unfold le at *;cases z:_T.aL c a with
 |false=>rfl
 |true=>
  by_cases e:a=b;.grind
  .rcases ji e with y|y
   .rw [gP z y]at h';cases h'
   .lia
def C8(h:_T.aL a b=true)(h':le b c):_T.aL a c=true:=by
 by_cases e:b=c;.simp_all
 .rcases ji e with y|y
  .exact gP h y
  .unfold le at h';rw[h']at y;cases y
def sw(a:List It)(i j:Nat):List It:=(a.set i (a.getD j (0,[]))).set j (a.getD i (0,[]))
theorem jT(a:List It)(i j:Nat):(sw a i j).length=a.length:=by unfold sw;rw[RZ,RZ]
theorem JE(b:i<ps.length)(d:j<ps.length)(x:Nat):(sw ps i j).getD x (0,[])=if x=j then ps.getD i (0,[])else if x=i then ps.getD j (0,[])else ps.getD x (0,[]):=by
 unfold sw;simp only[Rg];rw[List.getElem?_set,List.getElem?_set];by_cases c:j=x;.simp_all
 .rw [Xe c,Xe (Ne.symm c)];by_cases a:i=x;.simp_all
  .rw [Xe a,Xe (Ne.symm a)]
def ED(a:i<ps.length)(b:j<ps.length)(x:Nat):kf (sw ps i j) x=if x=j then kf ps i else if x=i then kf ps j else kf ps x:=by
 unfold kf;rw[JE a b];split;.rfl
 .split<;>rfl
def rf(a:i<ps.length)(b:j<ps.length):(sw ps i j).Perm ps:=by have:=List.set_set_perm a b;unfold sw;simpa[Rg,a,b]using this
def HP(a:List It):Prop:=∀i,0<i->i<a.length->le (kf a ((i-1)/2)) (kf a i)
def RI(a:List It)(k:Nat):Prop:=(∀i,0<i->i<a.length->i≠k->le (kf a ((i-1)/2)) (kf a i))/\(0<k->∀c,0<c->c<a.length->(c-1)/2=k->le (kf a ((k-1)/2)) (kf a c))
theorem RI.step(h:RI ps k)(r:0<k)(hk:k<ps.length)(hl:_T.aL (kf ps k) (kf ps ((k-1)/2))=true):RI (sw ps k ((k-1)/2)) ((k-1)/2):=by
 have n:(k-1)/2<ps.length:=by ext
 have g:=ED hk n;rw[RI,jT];generalize a:(k-1)/2=p at *;refine{λi d e o=>?_,λu c v x y=>?_}
 .rw [g,g];by_cases b:i=k;.subst b;rw[a,Xf rfl,Xe o,Xf rfl];exact le_of_lt hl
  .rw [Xe o,Xe b];by_cases f:(i-1)/2=p;.rw [Xf f];have:=h.1 i d e b;rw[f]at this;exact le_trans (le_of_lt hl) this
   .rw [Xe f];by_cases j:(i-1)/2=k;.rw [Xf j];have:=h.2 r i d e j;rw[a]at this;exact this
    .rw [Xe j];exact h.1 i d e b
 .rw [g,g];have z:(p-1)/2≠p:=by ext
  have A:(p-1)/2≠k:=by ext
  rw[Xe z,Xe A];have B:=h.1 p u n Xu;by_cases q:c=k;.grind
  .rw [Xe Xu,Xe q];have:=h.1 c v x q;rw[y]at this;exact le_trans B this
theorem RI.done(h:RI ps k)(hk:k<ps.length)(hl:k=0\/le (kf ps ((k-1)/2)) (kf ps k)):HP ps:=λi a b=>by
 by_cases c:i=k;.grind
 .exact h.1 i a b c
def RI.snoc(h:HP ps):RI (ps++[q]) ps.length:=by
 have g:∀i,i<ps.length->kf (ps++[q]) i=kf ps i:=λi a=>by unfold kf;simp only[Rg];rw[List.getElem?_append_left a]
 refine{λi b d e=>?_,λf c j n o=>?_};.rw [QN,Q0]at d;rw[g _ Xu,g _ Xu];exact h i b Xu
 .grind
def bZ(b:List It)(k:Nat):Nat:=
 let a:=if 2*k+1<b.length/\_T.aL (kf b (2*k+1)) (kf b k)=true then 2*k+1 else k
 if 2*k+2<b.length/\_T.aL (kf b (2*k+2)) (kf b a)=true then 2*k+2 else a
def mf(hk:k<ps.length):bZ ps k<ps.length/\(bZ ps k=k\/((bZ ps k=2*k+1\/bZ ps k=2*k+2)/\_T.aL (kf ps (bZ ps k)) (kf ps k)=true))/\∀c,0<c->c<ps.length->(c-1)/2=k->le (kf ps (bZ ps k)) (kf ps c):=by
 have b:∀a,(a=k\/(a=2*k+1/\2*k+1<ps.length/\_T.aL (kf ps (2*k+1)) (kf ps k)=true))->(2*k+1<ps.length->le (kf ps a) (kf ps (2*k+1)))->
  let m:=if 2*k+2<ps.length/\_T.aL (kf ps (2*k+2)) (kf ps a)=true then 2*k+2 else a
  m<ps.length/\(m=k\/((m=2*k+1\/m=2*k+2)/\_T.aL (kf ps m) (kf ps k)=true))/\∀c,0<c->c<ps.length->(c-1)/2=k->le (kf ps m) (kf ps c):=by
  intro a d f;have h:a<ps.length:=by rcases d with z|z<;>ext
  have i:le (kf ps a) (kf ps k):=by
   rcases d with z|⟨z,_,y⟩;.rw [z];exact le_refl _
   .rw [z];exact le_of_lt y
  by_cases c:2*k+2<ps.length/\_T.aL (kf ps (2*k+2)) (kf ps a)=true
  .simp only[Xf c];refine{c.1,.inr {by simp,C8 c.2 i},λx j n o=>?_};by_cases e:x=2*k+2;.rw [e];exact le_refl _
   .have e:x=2*k+1:=by ext
    rw[e];exact le_trans (le_of_lt c.2) (f Xu)
  .simp only[Xe c];refine{h,?_,λx j n o=>?_}
   .rcases d with z|⟨z,_,y⟩
    .exact .inl z
    .simp_all
   .by_cases e:x=2*k+2
    .rw [e];unfold le;cases z:_T.aL (kf ps (2*k+2)) (kf ps a)with
     |false=>rfl
     |true=>grind
    .have e:x=2*k+1:=by ext
     rw[e];exact f Xu
 unfold bZ;by_cases c:2*k+1<ps.length/\_T.aL (kf ps (2*k+1)) (kf ps k)=true;.simp only[Xf c];exact b (2*k+1) (.inr {(rfl),c}) λ_=>le_refl _
 .simp only[Xe c];refine b k (.inl rfl) λhl=>?_;unfold le;cases z:_T.aL (kf ps (2*k+1)) (kf ps k)with
  |false=>rfl
  |true=>simp_all
def SI(a:List It)(k:Nat):Prop:=(∀i,0<i->i<a.length->(i-1)/2≠k->le (kf a ((i-1)/2)) (kf a i))/\(0<k->∀c,0<c->c<a.length->(c-1)/2=k->le (kf a ((k-1)/2)) (kf a c))
theorem SI.step(h:SI ps k)(hk:k<ps.length)(j:bZ ps k≠k):SI (sw ps k (bZ ps k)) (bZ ps k)/\k<bZ ps k:=by
 let{d,a,x}:=mf hk;have a:=a.resolve_left j;generalize bZ ps k=m at *;have g:=ED hk d;have f:(m-1)/2=k:=by ext
 refine{?_,by ext};rw[SI,jT];refine{λi n o p=>?_,λy c q r u=>?_}
 .rw [g,g,Xe p];by_cases b:(i-1)/2=k
  .rw [Xf b];by_cases v:i=m;.rw [Xf v];exact le_of_lt a.2
   .grind
  .rw [Xe b,Xe Xu];by_cases e:i=k;.rw [Xf e,e];exact h.2 Xu m Xu d f
   .rw [Xe e];exact h.1 i n o b
 .rw [g,g,f,Xe Xu,Xf rfl,Xe Xu,Xe Xu];have:=h.1 c q r Xu;rw[u]at this;exact this
theorem SI.done(h:SI ps k)(hk:k<ps.length)(d:bZ ps k=k):HP ps:=λi a b=>by
 by_cases c:(i-1)/2=k;.rw [c];have:=(mf hk).2.2 i a b c;rw[d]at this;exact this
 .exact h.1 i a b c
def SI.root(h:HP ps):SI (ps.set 0 q) 0:=by
 refine{λi b a c=>?_,λd=>absurd d Xu};rw[RZ]at a;have g:∀x,x≠0->kf (ps.set 0 q) x=kf ps x:=λx e=>by unfold kf;simp only[Rg];rw[List.getElem?_set_ne (Ne.symm e)]
 rw[g _ c,g _ Xu];exact h i b a
theorem HP.min(h:HP ps):∀i,i<ps.length->le (kf ps 0) (kf ps i):=by
 intro i;induction i using Nat.strongRecOn with
 |ind i a=>
  intro b;by_cases c:i=0;.rw [c];exact le_refl _
  .exact le_trans (a ((i-1)/2) Xu Xu) (h i Xu b)
def HP.init(h:HP ps):HP ps.dropLast:=by
 intro i b a;rw[List.length_dropLast]at a;have g:∀x,x<ps.length-1->kf ps.dropLast x=kf ps x:=λx c=>by unfold kf;simp only[Rg];rw[List.getElem?_dropLast,Xf c]
 rw[g _ Xu,g _ a];exact h i b Xu
def HL(H:Hp)(l:Tu)(a:List It):Prop:=H l=!(.lst (a.map λq=>V.ref q.1))/\∀q∈a,H q.1=!(.tup (q.2.map V.int))
def Ye(l:Tu)(H a:Hp):Prop:=∀c u,c≠l->H c=!u->a c=!u
theorem Ye.trans(g:Ye l H H')(a:Ye l H' H''):Ye l H H'':=λc u n h=>a c u n (g c u n h)
def Ye.refl:Ye l H H:=λ_ _ _ h=>h
theorem Ye.same(g:dA H H'):Ye l H H':=λc u _ h=>g c u h
theorem HL.same(h:HL H l ps)(g:dA H H'):HL H' l ps:={g _ _ h.1,λq a=>g _ _ (h.2 q a)}
def cV{a:List It}(b:i<a.length):NB (a.map λq=>V.ref q.1) (i:Int)=!(.ref (a.getD i (0,[])).1):=by apply fq;simp[b]
def vj(h:i<n):YM n (i:Int)=!i:=by unfold YM;simp;ext
def oP{a:List It}(b:i<a.length):a.getD i (0,[])∈a:=by simp_all
#print a
def C9:Sp:=λc H Q _=>∃(l:Tu) (a:List It) (i j:Nat),c= [.ref l,.int i,.int j]/\HL H l a/\i<a.length/\j<a.length/\∀b,Ye l H b->HL b l (sw a i j)->Q .non b
def ZF(D:hW K mg "swap" A3 ["heap","one","other"]):%[1,"swap",["heap","one","other"]|C9]:=by
 exists D.ok xt;let{l,B,i,j,rfl,{x,v},b,d,q}:=h;have C:=cV b;have F:=cV d;exists _,(aa (aT 3 xt (ar (pv 0) (pv 1))) (aa (bW (ar (pv 0) (pv 2)) (iH (pv 0) (pv 1) dR)) (ae (bW (pv 3) (iH (pv 0) (pv 2) dR)))));walk_at "rz";refine{i,vj (by rw[QL];exact b),λG e=>?_};have I:=e.at_;walk_at "rz";refine{j,vj (by rw[RZ,QL];exact d),λy o=>?_};refine q y (λc u n hc=>o.old (e.old hc n) n) {?_,λr hr=>?_};.rw [o.at_];unfold sw;rw[S0,S0]
 .have hr:=(rf b d).mem_iff.mp hr;have n:r.1≠l:=λz=>by have:=v r hr;rw[z,x]at this;cases this
  exact o.old (e.old (v r hr) n) n
def sp3:Sp:=λc H Q _=>∃(l:Tu) (a:List It) (k:Nat),c= [.ref l,.int k]/\HL H l a/\k<a.length/\∀b,dA H b->Q (.int (bZ a k)) b
def Zo(D:hW K mg "least_of_three" iV ["heap","at"])(I:mg "len" =none):%[1,"least_of_three",["heap","at"]|sp3]:=by
 exists D.ok du;let{l,b,k,rfl,{J,M},hk,q}:=h;have v:=hr.units;exists _,(aa (aT 2 du (pv 1)) (aa (Fr Tl.never rfl (am (ay (aM bE (aM jF ac (pv 1)) ac) (aM bE (aM jF ac (pv 1)) ac))) (aZ 3 du) (ae (aH (PW.pt (jE (aK jd (pv 3) (fL cF rfl I TV (aD (pv 0)))) (iD (aK (Al (Rq (RN _ 64) v)) (ar (pv 0) (pv 3)) (ar (pv 0) (pv 2)))))) (ae (aT 2 du (pv 3))) aE))) (ae (aw (pv 2)))));walk_at "rz";intro p o U e N;have x:=e _ _ J;walk_at "rz";exists _,.inl (ip.of x);walk_at "rz";have r:∀i,i<b.length->qu K o (b.getD i (0,[])).1 ((kf b i).map V.int):=λi O=>qu.of (e _ _ (M _ (oP O)));have R:(b.map λq=>V.ref q.1).length=b.length:=QL _;have e1:(2*(k:Int)+1)=((2*k+1:Nat):Int):=by ext
 have e2:(2*(k:Int)+2)=((2*k+2:Nat):Int):=by ext
 rw[R];refine cR (λc=>?_) λc=>?_
 .have B:2*k+1<b.length:=by ext
  have S:=cV B;have T:=cV hk;rw[e1];walk_at "rz";exists _,r _ B,_,r _ hk;walk_at "rz";refine cR (λC=>?_) λC=>?_
  .have j:bZ b k=if 2*k+2<b.length/\_T.aL (kf b (2*k+2)) (kf b (2*k+1))=true then 2*k+2 else 2*k+1:=by
    unfold bZ
    simp only[Xf (show 2*k+1<b.length/\_T.aL (kf b (2*k+1)) (kf b k)=true from{(B),C})]
   clear S T
   have u:=B
   walk_at "rz"
   exists _,.inl (ip.of x)
   walk_at "rz"
   refine cR (λd=>?_) λd=>?_
   .have n:2*k+2<b.length:=by ext
    have F:=cV n;have G:=cV u
    try rw[e2]
    walk_at "rz";exists _,r _ n,_,r _ u;walk_at "rz";refine cR (λz=>?_) λz=>?_;.walk_at "rz";have:=q o e;rw[j,Xf {(n),z}]at this;exact this
    .walk_at "rz";have:=q o e;rw[j,Xe (λy=>z y.2)]at this;exact this
   .walk_at "rz";have:=q o e;rw[j,Xe (λy=>d (by have:=y.1;ext))]at this;exact this
  .have j:bZ b k=if 2*k+2<b.length/\_T.aL (kf b (2*k+2)) (kf b k)=true then 2*k+2 else k:=by
    unfold bZ
    simp only[Xe (show ¬(2*k+1<b.length/\_T.aL (kf b (2*k+1)) (kf b k)=true)from λy=>C y.2)]
   have u:=hk
   walk_at "rz"
   exists _,.inl (ip.of x)
   walk_at "rz"
   refine cR (λd=>?_) λd=>?_
   .have n:2*k+2<b.length:=by ext
    have F:=cV n;have G:=cV u;walk_at "rz";exists _,r _ n,_,r _ u;walk_at "rz";refine cR (λz=>?_) λz=>?_;.walk_at "rz";have:=q o e;rw[j,Xf {(n),z}]at this;exact this
    .walk_at "rz";have:=q o e;rw[j,Xe (λy=>z y.2)]at this;exact this
   .walk_at "rz";have:=q o e;rw[j,Xe (λy=>d (by have:=y.1;ext))]at this;exact this
 .have j:bZ b k=if 2*k+2<b.length/\_T.aL (kf b (2*k+2)) (kf b k)=true then 2*k+2 else k:=by
   unfold bZ
   simp only[Xe (show ¬(2*k+1<b.length/\_T.aL (kf b (2*k+1)) (kf b k)=true)from λy=>c (by have:=y.1;ext))]
  have u:=hk
  walk_at "rz"
  exists _,.inl (ip.of x)
  walk_at "rz"
  refine cR (λd=>?_) λd=>?_
  .have n:2*k+2<b.length:=by ext
   have F:=cV n;have G:=cV u;walk_at "rz";exists _,r _ n,_,r _ u;walk_at "rz";refine cR (λz=>?_) λz=>?_;.walk_at "rz";have:=q o e;rw[j,Xf {(n),z}]at this;exact this
   .walk_at "rz";have:=q o e;rw[j,Xe (λy=>z y.2)]at this;exact this
  .walk_at "rz";have:=q o e;rw[j,Xe (λy=>d (by have:=y.1;ext))]at this;exact this
def RsI(l:Tu)(c:List It)(H:Hp)(m:Nat)(σ:St)(b:Hp):Prop:=∃(k:Nat) (a:List It),σ= [!(.ref l),!(.int k)]/\Ye l H b/\HL b l a/\a.Perm c/\k<a.length/\RI a k/\m=k
def RsZ(l:Tu)(c:List It)(H:Hp)(σ:St)(b:Hp):Prop:=∃(v:Option V) (a:List It),σ= [!(.ref l),v]/\Ye l H b/\HL b l a/\a.Perm c/\HP a
def A9:Sp:=λd H Q _=>∃(l:Tu) (b:List It),d= [.ref l]/\HL H l b/\0<b.length/\RI b (b.length-1)/\∀c a,Ye l H c->HL c l a->a.Perm b->HP a->Q .non c
def ZG(D:hW K mg "rise" A1 ["heap"])(C:%[1,"swap",["heap","one","other"]|C9])(F:mg "len" =none):%[2,"rise",["heap"]|A9]:=by
 exists D.ok qV;let{l,e,rfl,hl,R,G,q}:=h;have n:=hr.units;have I:(e.map λq=>V.ref q.1).length=e.length:=QL _;exists _,(aa (aT 1 qV (aM dF (fL cF rfl F TV (aD (pv 0))) ac)) (ae (jf (ga Tl.never (PW.pt (jE (aK gB (pv 1) ac) (iD (aK (Al (Rq (RN _ 64) n)) (ar (pv 0) (pv 1)) (ar (pv 0) (aM jG (aM dF (pv 1) ac) ac)))))) (aa (av (aB C hr rfl (aW (pv 0) (pv 1) (aM jG (aM dF (pv 1) ac) ac)))) (ae (aT 1 qV (aM jG (aM dF (pv 1) ac) ac))))))));walk_at "rz";exists _,.inl (ip.of hl.1);walk_at "rz";refine{RsZ l e H,?_,?_}
 .refine{RsI l e H,{e.length-1,?_},?_}
  .unfold RsI;exact{e.length-1,e,by rw[show((e.length:Int)-1)=((e.length-1:Nat):Int) by ext],Ye.refl,hl,List.Perm.refl _,by ext,G,rfl}
  .intro m σ x z;let{k,d,rfl,o,b,r,hk,i,rfl}:=z;clear I;have S:=b.1;walk_at "rz";refine cR (λc=>?_) λc=>?_
   .have J:((m:Int)-1)/2=(((m-1)/2:Nat):Int):=by ext
    have j:(m-1)/2<d.length:=(by ext);have T:=cV hk;have U:=cV j;walk_at "rz";exists _,qu.of (b.2 _ (oP hk)),_,qu.of (b.2 _ (oP j));walk_at "rz";refine cR (λz=>?_) λz=>?_;.refine{λM N=>∃B,B<m/\RsI l e H B M N,λ_ _ y=>y,?_};walk_at "rz";refine{l,d,m,(m-1)/2,rfl,b,hk,j,λW O u=>?_};refine{(m-1)/2,by ext,?_};exact{(m-1)/2,sw d m ((m-1)/2),(by show [!(V.ref l),!(V.int (((m:Int)-1)/2))]=_;rw[J]),o.trans O,u,(rf hk j).trans r,by rw[jT];exact j,i.step Xu hk z,rfl}
    .unfold RsZ;exact{_,d,rfl,o,b,r,i.done hk (.inr (by unfold le;exact Bool.eq_false_iff.mpr z))}
   .unfold RsZ;exact{_,d,rfl,o,b,r,i.done hk (.inl Xu)}
 .intro σ x z;let{v,d,rfl,o,b,r,j}:=z;exact q x d o b r j
def SkI(l:Tu)(c:List It)(H:Hp)(m:Nat)(σ:St)(b:Hp):Prop:=∃(k:Nat) (a:List It),σ= [!(.ref l),!(.int k),!(.int (bZ a k))]/\Ye l H b/\HL b l a/\a.Perm c/\k<a.length/\SI a k/\m=a.length-k
def Ba:Sp:=λd H Q _=>∃(l:Tu) (b:List It),d= [.ref l]/\HL H l b/\0<b.length/\SI b 0/\∀c a,Ye l H c->HL c l a->a.Perm b->HP a->Q .non c
def ZM(D:hW K mg "sink" A2 ["heap"])(F:%[1,"swap",["heap","one","other"]|C9])(o:%[1,"least_of_three",["heap","at"]|sp3]):%[2,"sink",["heap"]|Ba]:=by
 exists D.ok jM;let{l,d,rfl,hl,r,G,q}:=h;exists _,(aa (aT 1 jM ac) (aa (aT 2 jM (aB o hr rfl (ay (pv 0) (pv 1)))) (ae (ga Tl.never (aK Lg (pv 2) (pv 1)) (aa (av (aB F hr rfl (aW (pv 0) (pv 1) (pv 2)))) (aa (aT 1 jM (pv 2)) (ae (aT 2 jM (aB o hr rfl (ay (pv 0) (pv 1)))))))))));walk_at "rz";refine{l,d,0,rfl,hl,r,λO u=>?_};refine{SkI l d H,{d.length-0,?_},?_};.unfold SkI;exact{0,d,rfl,Ye.same u,hl.same u,List.Perm.refl _,r,G,rfl}
 .intro m σ I z;let{k,b,rfl,v,e,x,hk,i,rfl}:=z;walk_at "rz";have n:=mf hk;refine cR (λc=>?_) λc=>?_
  .have c:bZ b k≠k:=λz=>by rw[z]at c;simp at c
   have st:=i.step hk c;refine{λJ M=>∃B,B<b.length-k/\SkI l d H B J M,λ_ _ y=>y,?_};walk_at "rz";refine{l,b,k,bZ b k,rfl,e,hk,n.1,λR N j=>?_};refine{l,_,bZ b k,rfl,j,by rw[jT];exact n.1,λS C=>?_};refine{b.length-bZ b k,by have:=st.2;ext,?_};exact{bZ b k,sw b k (bZ b k),rfl,(v.trans N).trans (Ye.same C),j.same C,(rf hk n.1).trans x,by rw[jT];exact n.1,st.1,by rw[jT]}
  .have c:bZ b k=k:=by
    have:((bZ b k:Int))=k:= ~~~c
    ext
   exact q I b v e x (i.done hk c)
end
structure Kt where
 m:Int
 t:Int
 x:Int
def cB(e:Kt):List Int:=[e.m,e.t,e.x]
def Yg(e:Kt):List Int:=[e.m,e.x]
def YC(a b:Kt):Prop:=a.m<b.m\/(a.m=b.m/\a.t<b.t)
def Yf(kt:List Kt):Prop:=kt.Pairwise λa b=>a.t<b.t
def Xx(kt ok:List Kt):Prop:=ok.Perm kt/\ok.Pairwise YC
def X9(kt:List Kt)(i:Nat)(e:Kt):Prop:=kt[i]? =!e/\(∀(j:Nat) a,kt[j]? =!a->e.m<=a.m)/\(∀(j:Nat) a,j<i->kt[j]? =!a->e.m<a.m)
def Bb(h:YC a b):¬YC b a:=λc=>by rcases h with h|⟨h,d⟩<;>rcases c with g|⟨g,e⟩<;>ext
theorem vk(h:YC a b):_T.aL (cB a) (cB b)=true:=by
 unfold cB;rcases h with h|⟨h,c⟩
 .rw [_T.bM,Xe Xu];exact decide_eq_true h
 .rw [_T.bM,Xf h,_T.bM,Xe Xu];exact decide_eq_true c
theorem vm(h:cB a=cB b):a=b:=by cases a;unfold cB at h;simp at h;let{rfl,rfl,rfl}:=h;rfl
theorem Yf.at(h:Yf kt){j:Nat}(d:kt[i]? =!a)(e:kt[j]? =!b)(c:i<j):a.t<b.t:=by let{f,e1}:=Xj d;let{n,e2}:=Xj e;have:=List.pairwise_iff_getElem.mp h i j f n c;rw[e1,e2]at this;exact this
theorem X9.min(h:X9 kt i e)(f:Yf kt)(n:e'∈kt):e=e'\/YC e e':=by
 let{j,d}:=List.mem_iff_getElem?.mp n;rcases Nat.lt_trichotomy j i with c|c|c
 .exact .inr (.inl (h.2.2 j e' c d))
 .subst c;rw[h.1]at d;exact .inl (Xr d)
 .have a:=h.2.1 j e' d;have b:=f.at h.1 d c;right;unfold YC;ext
theorem xD:∀{l:List Kt} {i:Nat} (h:i<l.length),(l[i]::l.eraseIdx i).Perm l
 |a::l,0,_=>List.Perm.refl _
 |a::l,i+1,h=>by have:=xD (i:=i) (~~~h);exact(List.Perm.swap _ _ _).trans (this.cons a)
def X9.perm(h:X9 kt i e):(e::kt.eraseIdx i).Perm kt:=by let{a,e1}:=Xj h.1;rw[<-e1];exact xD a
theorem Xx.take(s:Xx kt ok)(c:Yf kt)(h:X9 kt i e):∃r,ok=e::r/\Xx (kt.eraseIdx i) r:=by
 have a:=QW h.1;cases ok with
 |nil=>have:=s.1.mem_iff.mpr a;cases this
 |cons o r=>
  have d:=s.1.mem_iff.mp QO;have b:=List.pairwise_cons.mp s.2;have f:e=o:=by
   rcases h.min c d with z|z;.exact z
   .rcases Xi (s.1.mem_iff.mpr a)with y|y
    .exact y
    .exact absurd (b.1 e y) (Bb z)
  subst f;exact{r,rfl,(s.1.trans h.perm.symm).cons_inv,b.2}
theorem xE:∀{l m:List (List Int)},l.Perm m->l.Pairwise (λa b=>_T.aL a b=true)->m.Pairwise (λa b=>_T.aL a b=true)->l=m
 |[],m,p,_,_=>(List.nil_perm.mp p).symm
 |a::l,[],p,_,_=>by have:=p.length_eq;simp at this
 |a::l,b::m,p,h,c=>by
  have h:=List.pairwise_cons.mp h;have c:=List.pairwise_cons.mp c;have e:a=b:=by
   rcases Xi (p.mem_iff.mp QO)with z|z;.exact z
   .rcases Xi (p.mem_iff.mpr (QO))with y|y
    .exact y.symm
    .have d:=c.1 a z;have f:=h.1 b y;have:=vi d;rw[f]at this;cases this
  subst e;rw[xE p.cons_inv h.2 c.2]
theorem Xx.keys(s:Xx kt ok):(ok.map cB).Pairwise λa b=>_T.aL a b=true:=by rw[RL];exact s.2.imp λh=>vk h
theorem xF:∀{l m:List Kt},l.map cB=m.map cB->l=m
 |[],[],_=>rfl
 |[],_::_,h=>by cases h
 |_::_,[],h=>by cases h
 |a::l,b::m,h=>by injection h with h1 h2;rw[vm h1,xF h2]
theorem Xx.uniq(s:Xx kt ok)(s':Xx kt ok'):ok=ok':=
 xF (xE ((s.1.trans s'.1.symm).map cB) s.keys s'.keys)
theorem Xx.put(s:Xx kt ok)(i:∀a∈kt,a.t<e.t)(hk:k<=ok.length)(n:∀(j:Nat) a,j<k->ok[j]? =!a->a.m<=e.m)(o:∀(j:Nat) a,k<=j->ok[j]? =!a->e.m<a.m):Xx (kt++[e]) (ok.take k++[e]++ok.drop k):=by
 refine{?_,?_}
 .have:(ok.take k++[e]++ok.drop k).Perm (ok.take k++ok.drop k++[e]):=by
   rw[QQ,QQ]
   exact List.Perm.append_left _ List.perm_append_comm
  rw[Ry]at this
  exact this.trans (s.1.append_right _)
 .have p:∀a∈ok.take k,YC a e:=λa c=>by
   let{j,d}:=List.mem_iff_getElem?.mp c
   have h:j<k:=by have:=(Xj d).1;rw[Rv]at this;ext
   rw[List.getElem?_take_of_lt h]at d
   have u:=n j a h d
   have v:=i a (s.1.mem_iff.mp (QW d))
   unfold YC;ext
  have q:∀a∈ok.drop k,YC e a:=λa c=>by let{j,d}:=List.mem_iff_getElem?.mp c;rw[Rw]at d;exact .inl (o _ a Xu d)
  have f:=s.2
  rw[<-Ry k ok,RF]at f
  rw[QQ,RF]
  refine{f.1,List.pairwise_cons.mpr {λa c=>q a c,f.2.1},λa c b r=>?_}
  rcases Xi r with z|z
  .rw [z];exact p a c
  .exact f.2.2 a c b z
def Yf.snoc(h:Yf kt)(c:∀a∈kt,a.t<e.t):Yf (kt++[e]):=by unfold Yf;rw[RF];exact{h,List.pairwise_singleton _ _,λa d b f=>by rw[Xh f];exact c a d}
theorem Xx.mono(s:Xx kt ok){j:Nat}(d:ok[i]? =!a)(e:ok[j]? =!b)(f:i<=j):a.m<=b.m:=by
 by_cases c:i=j;.simp_all
 .let{h,e1}:=Xj d;let{n,e2}:=Xj e;have:=List.pairwise_iff_getElem.mp s.2 i j h n Xu;rw[e1,e2]at this;unfold YC at this;ext
def root(p:HP ps)(a:(ps.map (·.2)).Perm (kt.map cB))(u:Yf kt)(h:X9 kt i e):∃q r,ps=q::r/\q.2=cB e/\(r.map (·.2)).Perm ((kt.eraseIdx i).map cB):=by
 have v:=QW h.1;cases ps with
 |nil=>simp_all
 |cons q r=>
  let{n,x,b}:=Xl (a.mem_iff.mp (Rj QO));have e1:e=n:=by
   rcases h.min u x with z|z;.exact z
   .let{A,c,d}:=Xl (a.mem_iff.mpr (Rj v));let{j,o}:=List.mem_iff_getElem?.mp c;have:=p.min j (Xj o).1;have y:kf (q::r) j=cB e:=(by unfold kf;rw[Rg,o];exact d);have f:kf (q::r) 0=cB n:=(by rw[b];rfl);rw[y,f]at this;unfold le at this;rw[vk z]at this;cases this
  subst e1;exists q,r,rfl,b.symm;have:=a.trans (h.perm.map cB).symm;rw[QU,<-b]at this;exact this.cons_inv
def _M(c:Tu)(H:Hp)(a l:Tu)(kt:List Kt):Prop:=∃d b ok,H a=!(.ins c d [("things",.ref l)])/\HL H l b/\Xx kt ok/\b.map (·.2)=ok.map Yg
def _s(a l:Tu)(H b:Hp):Prop:=∀c u,c≠a->c≠l->H c=!u->b c=!u
theorem rl:Xx [] []:={List.Perm.refl _,.nil}
theorem _M.fr(h:_M CL H a l kt)(g:∀c u,(c=a\/c=l\/∃xs,u=HO.tup xs)->H c=!u->H' c=!u):_M CL H' a l kt:=by let{b,d,ok,e,{f,i},j}:=h;exact{b,d,ok,g _ _ (.inl rfl) e,{g _ _ (.inr (.inl rfl)) f,λq n=>g _ _ (.inr (.inr {_,rfl})) (i q n)},j}
def zc{α:Type}{f:α->List Int}{ok:List α}(hl:HL H l ps)(a:ps.map (·.2)=ok.map f){i:Nat}{e:α}(b:ok[i]? =!e):∃p,NB (ps.map λq=>V.ref q.1) (i:Int)=!(.ref p)/\H p=!(.tup ((f e).map V.int))/\ps[i]? =!(p,f e):=by
 have h:=congrArg (λl=>l[i]?) a;simp only[QY,b]at h;cases z:ps[i]? with
 |none=>simp_all
 |some q=>rw[z]at h;let{p,k}:=q;cases h;refine{p,fq (by rw[QY,z];rfl),hl.2 _ (QW z),rfl}
#print a
def _6(d:Tu):Sp:=λf H Q _=>∃(a e:Tu),f= [.ref a]/\H a=!(.ins d e [])/\∀(l:Tu) (b:Hp),H l=none->(∀c u,c≠a->H c=!u->b c=!u)->_M d b a l []->Q .non b
def _9(D:oD K mg "ListAgenda" CL "ListAgenda.__init__" fw ["self"])(i:jp K CL)(j:cD K CL "things"):%[1,"ListAgenda",CL,[]|_6 CL]:=by exists D.ok jy;let{a,n,rfl,d,q}:=h;exists _,(ae (aG i j (pv 0) (aQ bJ)));walk_at "rz";intro l z hl e o;have B:=e _ _ d;walk_at "rz";intro r b;have v:=(ax d hl).symm;exact q l r hl (λc u x hc=>b.old (e _ _ hc) x) {n,[],[],b.at_,{b.old o v,λq y=>absurd y Q7},rl,rfl}
def LpI(a l:Tu)(m x:Int)(ok:List Kt)(H:Hp)(n:Nat)(σ:St)(b:Hp):Prop:=∃k:Nat,σ= [!(.ref a),!(.int m),!(.int x),!(.int k)]/\b=H/\k<=ok.length/\(∀(j:Nat) e,k<=j->ok[j]? =!e->m<e.m)/\n=k
def LpZ(a l:Tu)(m x:Int)(ok:List Kt)(H:Hp)(σ:St)(b:Hp):Prop:=∃k:Nat,σ= [!(.ref a),!(.int m),!(.int x),!(.int k)]/\b=H/\k<=ok.length/\(∀(j:Nat) e,k<=j->ok[j]? =!e->m<e.m)/\(∀(j:Nat) e,j<k->ok[j]? =!e->e.m<=m)
def Q1(c:Tu):Sp:=λd H Q _=>∃(a l:Tu) (m x t:Int) (kt:List Kt),d= [.ref a,.int m,.int x]/\_M c H a l kt/\(∀e∈kt,e.t<t)/\kt.length<=900/\∀b,_s a l H b->_M c b a l (kt++[{(m),t,x}])->Q .non b
def ZN(D:eH K CL "put" "ListAgenda.put" iT ["self","moment","thing"])(C:jp K CL)(N:cD K CL "things")(NO:mg "len" =none):%[1,CL,"put",["moment","thing"]|Q1 CL]:=by
 exists D.ok C eV;let{a,l,m,x,t,kt,rfl,{dx,F,ok,O,hl,R,G},ht,hn,q}:=h;have big:=_bg
 have lp:F.length=ok.length:=by have:=congrArg List.length G;rw[QL,QL]at this;exact this
 have X:(F.map λq=>V.ref q.1).length=ok.length:=by rw[QL];exact lp
 have d:=hl.1;exists _,(aa (aT 3 eV (fL cF rfl NO TV (aD (ah C N (pv 0))))) (aa (jf (ga Tl.never (PW.pt (jE (aK gB (pv 3) ac) (iD (aK gB (ar (ar (ah C N (pv 0)) (aM dF (pv 3) ac)) ac) (pv 1))))) (ae (aT 3 eV (aM dF (pv 3) ac))))) (ae (av (pD Tb PySem.F.slot_list_insert PySem.F.type_list_insert Fw (ah C N (pv 0)) (ay (pv 3) (am (ay (pv 1) (pv 2)))))))));walk_at "rz";exists _,.inl (ip.of d);walk_at "rz";refine{LpZ a l m x ok H,?_,?_}
 .refine{LpI a l m x ok H,{ok.length,?_},?_}
  .unfold LpI;exact{ok.length,rfl,rfl,Xm _,λj e I i=>absurd (Xj i).1 Xu,rfl}
  .intro n σ J z;let{k,rfl,rfl,hk,o,rfl}:=z;walk_at "rz";refine cR (λc=>?_) λc=>?_
   .have p0:((n:Int)-1)=((n-1:Nat):Int):=by ext
    obtain⟨e,i⟩:∃e,ok[n-1]? =!e:={_,QV Xu}
    let{p,a1,v,_}:=zc hl G i;have a2:J p=!(.tup [.int e.m,.int e.x]):=v;clear G v;walk_at "rz";refine cR (λz=>?_) λz=>?_
    .refine{λσ' H'=>∃Y,Y<n/\LpI a l m x ok J Y σ' H',λ_ _ y=>y,?_};walk_at "rz";refine{n-1,by ext,?_};refine{n-1,(by show [!(V.ref a),!(V.int m),!(V.int x),!(V.int ((n:Int)-1))]=_;rw[p0]),rfl,by ext,λj S I b=>?_,rfl};by_cases cj:j=n-1;.subst cj;rw[i]at b;cases b;exact z
     .exact o j S Xu b
    .unfold LpZ;refine{n,rfl,rfl,hk,o,λj S I b=>?_};have:=R.mono b i Xu;ext
   .unfold LpZ;exact{n,rfl,rfl,hk,o,λj S I b=>absurd I Xu}
 .intro σ J z;let{k,rfl,rfl,hk,o,be}:=z;walk_at "rz";refine{{_,ip.of d},?_};walk_at "rz";intro p H2 hp M h2;have l2:=M _ _ d;walk_at "rz";have lo:=R.1.length_eq;refine{by ext,by rw[X];ext,by rw[X];ext,λZ B=>?_};have T:a≠l:=λz=>by rw[z,d]at O;cases O
  have U:=(ax d hp).symm;have tk:∀c W,J c=!(.tup W)->Z c=!(.tup W):=λc W hc=>B.old (M _ _ hc) (λz=>by rw[z,d]at hc;cases hc);refine q Z (λc u n1 n2 hc=>B.old (M _ _ hc) n2) {dx,F.take k++[(p,[m,x])]++F.drop k,ok.take k++[{(m),t,x}]++ok.drop k,B.old (M _ _ O) T,{?_,λr hr=>?_},R.put ht hk be o,?_};.rw [B.at_];unfold Cr;simp[Sw,Sx]
  .rcases Xk hr with hr|hr
   .rcases Xk hr with hr|hr
    .exact tk _ _ (hl.2 r (List.mem_of_mem_take hr))
    .rw [Xh hr];exact B.old h2 U
   .exact tk _ _ (hl.2 r (List.mem_of_mem_drop hr))
  .rw [QT,QT,QT,QT,Sw,Sx,G,<-Sw,<-Sx];rfl
end
theorem bj{α:Type}{xs:List α}{x:α}(h:xs[i]? =!x):xs.take (i+1)=xs.take i++[x]:=by let{a,b}:=Xj h;rw[<-List.take_append_getElem a,b]
#print a
def Z9(ok:List Kt):V:=match ok with|[]=>.non | e::_=>.int e.m
def XN(b:Tu):Sp:=λc H Q _=>∃(a l:Tu) (kt:List Kt),c= [.ref a]/\_M b H a l kt/\∀ok,Xx kt ok->Q (Z9 ok) H
def ZO(D:eH K CL "first" "ListAgenda.first" gQ ["self"])(j:jp K CL)(n:cD K CL "things"):%[1,CL,"first",[]|XN CL]:=by
 exists D.ok j kT;let{a,l,kt,rfl,{x,c,ok,y,hl,u,d},q}:=h;have q:=q ok u;have v:=hl.1;exists _,(aa (aH (zY (dz (ah j n (pv 0)) (λ_=>rfl))) (ae (aw cv)) aE) (ae (aw (ar (ar (ah j n (pv 0)) ac) ac))));walk_at "rz";exists _,.inl {_,ip.of v,rfl};cases ok with
 |nil=>
  cases c with
  |cons _ _=>cases d
  |nil=>exact q
 |cons e r=>
  let{p,o,b,_}:=zc hl d (i:=0) rfl;have z:H p=!(.tup [.int e.m,.int e.x]):=b;have o:NB (c.map λq=>V.ref q.1) 0=!(.ref p):=o;have ne:(not (not (c.map λq=>V.ref q.1).isEmpty))=false:=by
   cases c with
   |nil=>cases d
   |cons _ _=>rfl
  clear d b;walk_at "rz";exact q
def XA(c:Tu):Sp:=λd H Q _=>∃(a l:Tu) (kt:List Kt) (i:Nat) (e:Kt),d= [.ref a]/\_M c H a l kt/\Yf kt/\X9 kt i e/\kt.length<=900/\∀b p,_s a l H b->_M c b a l (kt.eraseIdx i)->b p=!(.tup [.int e.m,.int e.x])->Q (.ref p) b
def YX(D:eH K CL "take" "ListAgenda.take" iq ["self"])(B:jp K CL)(M:cD K CL "things"):%[1,CL,"take",[]|XA CL]:=by
 exists D.ok B lP;let{a,l,kt,i,e,rfl,{N,F,ok,n,hl,G,d},O,R,hn,q}:=h;have S:=G.1.length_eq;have T:F.length=ok.length:=by have:=congrArg List.length d;rw[QL,QL]at this;exact this
 let{r,rfl,U}:=G.take O R;have v:=hl.1;exists _,(ae (aw (pD Tb TB TC jh (ah B M (pv 0)) (aD ac))));cases F with
 |nil=>cases d
 |cons x I=>
  have d:x.2::I.map (·.2)=Yg e::r.map Yg:=d;injection d with e1 e2;simp only[QP]at T S;walk_at "rz";refine{{_,ip.of v},?_};walk_at "rz";have y:a≠l:=λz=>by rw[z,v]at n;cases n
  have J:∀{j:Hp} {C:List V} {o:HO},Mu H l o j->∀c,H c=!(.tup C)->j c=!(.tup C):=λb c hc=>b.old hc (λz=>by rw[z,v]at hc;cases hc);refine{by ext,_,by rw[QP,QL];ext,rfl,λj b=>?_};exact q j x.1 (λc u Y W hc=>b.old hc W) {N,I,r,b.old n y,{b.at_,λp X=>J b _ (hl.2 p (QM _ X))},U,e2} (J b _ (by have:=hl.2 x QO;rw[e1]at this;exact this))
def Ya(d:Tu):Sp:=λe H Q _=>∃(a l:Tu) (kt:List Kt),e= [.ref a]/\_M d H a l kt/\∀r c b ok,Xx kt ok->H r=none->dA H c->HL c r b->b.map (·.2)=ok.map Yg->Q (.ref r) c
def ZQ(D:eH K CL "in_order" "ListAgenda.in_order" fB ["self"])(c:jp K CL)(e:cD K CL "things")(i:mg "list" =none):%[1,CL,"in_order",[]|Ya CL]:=by exists D.ok c jA;let{a,l,kt,rfl,{y,j,ok,z,hl,n,o},q}:=h;have B:=hl.1;exists _,(ae (aw (cn d9 i (aD (ah c e (pv 0))))));walk_at "rz";intro r u b d v;exact q r u j ok n b d {v,λp x=>d _ _ (hl.2 p x)} o
end
def HA(d:Tu)(H:Hp)(b l:Tu)(c:Int)(kt:List Kt):Prop:=∃f a,H b=!(.ins d f [("heap",.ref l),("turn",.int c)])/\HL H l a/\(a.map (·.2)).Perm (kt.map cB)/\HP a/\∀e∈kt,e.t<=c
theorem HA.fr(h:HA CH H b l tn kt)(g:∀c u,(c=b\/c=l\/∃xs,u=HO.tup xs)->H c=!u->H' c=!u):HA CH H' b l tn kt:=by let{a,d,e,{f,i},j}:=h;exact{a,d,g _ _ (.inl rfl) e,{g _ _ (.inr (.inl rfl)) f,λq n=>g _ _ (.inr (.inr {_,rfl})) (i q n)},j}
theorem HP.nil:HP []:=λi _ h=>absurd h eq
def LI(p:HP ps)(i:(ps.map (·.2)).Perm (kt.map cB))(a:Xx kt ok)(h:ok=e::r):∃q r,ps=q::r/\q.2=cB e:=by
 subst h;have u:=a.1.mem_iff.mp QO;cases ps with
 |nil=>simp_all
 |cons q b=>
  let{n,v,x}:=Xl (i.mem_iff.mp (Rj QO));exists q,b,rfl;rcases Xi (a.1.mem_iff.mpr v)with z|z
  .simp_all
  .have y:=(List.pairwise_cons.mp a.2).1 n z;let{B,c,d}:=Xl (i.mem_iff.mpr (Rj u));let{j,o}:=List.mem_iff_getElem?.mp c;have:=p.min j (Xj o).1;have A:kf (q::b) j=cB e:=(by unfold kf;rw[Rg,o];exact d);have f:kf (q::b) 0=cB n:=(by rw[x];rfl);rw[A,f]at this;unfold le at this;rw[vk y]at this;cases this
#print a
def _5(d:Tu):Sp:=λf H Q _=>∃(b e:Tu),f= [.ref b]/\H b=!(.ins d e [])/\∀(l:Tu) (a:Hp),H l=none->(∀c u,c≠b->H c=!u->a c=!u)->HA d a b l 0 []->Q .non a
def _7(D:oD K mg "HeapAgenda" CH "HeapAgenda.__init__" fC ["self"])(i:jp K CH)(v:cD K CH "heap")(x:cD K CH "turn"):%[1,"HeapAgenda",CH,[]|_5 CH]:=by exists D.ok jB;let{a,y,rfl,j,q}:=h;exists _,(aa (aG i v (pv 0) (aQ bJ)) (ae (aG i x (pv 0) ac)));walk_at "rz";intro l G hl n z;have I:=n _ _ j;walk_at "rz";intro J b;have o:=(ax j hl).symm;have M:=b.at_;walk_at "rz";intro B d;exact q l B hl (λc u r hc=>d.old (b.old (n _ _ hc) r) r) {y,[],d.at_,{d.old (b.old z o) o,λq C=>absurd C Q7},List.Perm.refl _,HP.nil,λe F=>absurd F Q7}
def QF(d:Tu):Sp:=λe H Q _=>∃(b l:Tu) (m x a:Int) (kt:List Kt),e= [.ref b,.int m,.int x]/\HA d H b l a kt/\kt.length<=900/\∀c,_s b l H c->HA d c b l (a+1) (kt++[{m,a+1,x}])->Q .non c
def ZP(D:eH K CH "put" "HeapAgenda.put" iU ["self","moment","thing"])(i:jp K CH)(T:cD K CH "heap")(I:cD K CH "turn")(P5:%[2,"rise",["heap"]|A9]):%[3,CH,"put",["moment","thing"]|QF CH]:=by
 exists D.ok i nC;let{b,l,m,x,C,kt,rfl,{dx,j,U,hl,W,hp,ht},hn,q}:=h;have big:=_bg
 have lp:j.length=kt.length:=by have:=W.length_eq;rw[QL,QL]at this;exact this
 have F:=hl.1;have d:l≠b:=λz=>by rw[z,U]at F;cases F
 have X:∀c n,H c=!(.tup n)->c≠b/\c≠l:=λc n hc=>{λz=>(by rw[z,U]at hc;cases hc),λz=>(by rw[z,F]at hc;cases hc)}
 exists _,(aa (aG i I (pv 0) (aM bE (ah i I (pv 0)) ac)) (aa (av (a8 (ah i T (pv 0)) (am (aW (pv 1) (ah i I (pv 0)) (pv 2))))) (ae (av (aB P5 hr rfl (aD (ah i T (pv 0))))))));walk_at "rz";intro H1 o;have b1:=o.at_;have l2:=o.old F d;walk_at "rz";intro p H2 v G h2;have l3:=G _ _ l2;have b2:=G _ _ b1;walk_at "rz";refine{by rw[QL];ext,λH3 y=>?_};have J:p≠l:=λz=>by rw[z,o.old hl.1 d]at v;cases v
 have b3:=y.old b2 (Ne.symm d);walk_at "rz";have tk:=λc n hc=>y.old (G _ _ (o.old hc (X c n hc).1)) (X c n hc).2;have M:HL H3 l (j++[(p,[m,C+1,x])]):=by
  refine{by rw[y.at_,QT];rfl,λr hr=>?_};rcases Xk hr with hr|hr
  .exact tk _ _ (hl.2 r hr)
  .rw [Xh hr];exact y.old h2 J
 refine{l,j++[(p,[m,C+1,x])],rfl,M,by simp,?_,λH4 N Y O R S=>?_};.have:=RI.snoc (q:=(p,[m,C+1,x])) hp;rw[show(j++[(p,[m,C+1,x])]).length-1=j.length by simp];exact this
 .walk_at "rz";refine q H4 (λc u n1 Z hc=>Y c u Z (y.old (G _ _ (o.old hc n1)) Z)) {dx,N,Y _ _ (Ne.symm d) b3,O,?_,S,λe B=>?_};.have:=R.map (λx:It=>x.2);rw[QT]at this;apply this.trans;rw[QT];exact W.append_right _
  .rcases Xk B with B|B
   .have:=ht e B;ext
   .rw [Xh B];exact Int.le_refl _
def XI(a:Tu):Sp:=λd H Q _=>∃(b l:Tu) (c:Int) (kt ok:List Kt),d= [.ref b]/\HA a H b l c kt/\Xx kt ok/\Q (Z9 ok) H
def ZR(D:eH K CH "first" "HeapAgenda.first" gW ["self"])(c:jp K CH)(i:cD K CH "heap"):%[1,CH,"first",[]|XI CH]:=by
 exists D.ok c kU;let{b,l,z,kt,ok,rfl,{B,o,C,hl,u,v,F},j,q}:=h;have x:=hl.1;exists _,(aa (aH (zY (dz (ah c i (pv 0)) (λ_=>rfl))) (ae (aw cv)) aE) (ae (aw (ar (ar (ah c i (pv 0)) ac) ac))));walk_at "rz";exists _,.inl {_,ip.of x,rfl};cases ok with
 |nil=>
  have y:=List.nil_perm.mp j.1;subst y;cases o with
  |cons _ _=>simp_all
  |nil=>exact q
 |cons e r=>
  let{n,G,rfl,d}:=LI v u j rfl;have I:H n.1=!(.tup [.int e.m,.int e.t,.int e.x]):=by have:=hl.2 n QO;rw[d]at this;exact this
  rw[Xe eq];walk_at "rz";exact q
def XC(c:Tu):Sp:=λf H Q _=>∃(b l:Tu) (d:Int) (kt:List Kt) (i:Nat) (e:Kt),f= [.ref b]/\HA c H b l d kt/\Yf kt/\X9 kt i e/\kt.length<=900/\∀a p,_s b l H a->HA c a b l d (kt.eraseIdx i)->a p=!(.tup [.int e.m,.int e.x])->Q (.ref p) a
def Zf(D:eH K CH "take" "HeapAgenda.take" ir ["self"])(v:jp K CH)(F:cD K CH "heap")(P6:%[2,"sink",["heap"]|Ba]):%[3,CH,"take",[]|XC CH]:=by
 exists D.ok v cG;let{b,l,tn,kt,i,e,rfl,{dx,G,h1,hl,pm,hp,ht},ic,im,hn,q}:=h;have big:=_bg
 have lp:G.length=kt.length:=by have:=pm.length_eq;rw[QL,QL]at this;exact this
 let{B,O,n,R,pr}:=root hp pm ic im;have a2:H B.1=!(.tup [.int e.m,.int e.t,.int e.x]):=by have:=hl.2 B (by rw[n];exact QO);rw[R]at this;exact this
 have S:b≠l:=λz=>by have:=hl.1;rw[<-z,h1]at this;cases this
 have tl:∀c o,H c=!(.tup o)->c≠l:=λc o hc z=>by have:=hl.1;rw[<-z,hc]at this;cases this
 obtain⟨j,z,C⟩:∃j z,G=j++[z]:=by refine{G.dropLast,G.getLast (by rw[n];simp),(List.dropLast_concat_getLast _).symm}
 have l1:H l=!(.lst ((j.map λq=>V.ref q.1)++[.ref z.1])):=by rw[hl.1,C,QT];rfl
 have T:NB ((j.map λq=>V.ref q.1)++[V.ref z.1]) 0=!(.ref B.1):=by
  have:(j.map λq=>V.ref q.1)++[V.ref z.1]=(B::O).map λq=>V.ref q.1:=by rw[<-n,C,QT];rfl
  rw[this];exact yC
 have I:∀U∈kt.eraseIdx i,U.t<=tn:=λU W=>ht U (List.mem_of_mem_eraseIdx W);exists _,(aa (bW (ar (ah v F (pv 0)) ac) (bG 3 rfl (aC (aZ 1 cG) (aC (aZ 2 cG) (aC (aZ 3 cG) bB))))) (aa (aT 4 cG (eY Tb TB TC qO (ah v F (pv 0)))) (aa (aH (dz (ah v F (pv 0)) (λ_=>rfl)) (aa (bW (pv 4) (iH (ah v F (pv 0)) ac dR)) (ae (av (aB P6 hr rfl (aD (ah v F (pv 0))))))) aE) (ae (aw (am (ay (pv 1) (pv 3))))))));walk_at "rz";refine{{_,ip.of l1},?_};walk_at "rz";refine{_,_,rfl,λH1 J=>?_};have b1:=J.old h1 S;have l2:=J.at_;have X:=λc o hc=>J.old hc (tl c o hc);clear l1 T a2;walk_at "rz";exists _,.inl {_,ip.of l2,rfl};cases j with
 |nil=>
  rw[Xe eq];walk_at "rz";intro p H2 a9 Y h2;have er:O= []:=by rw[C]at n;injection n with x1 x2;exact x2.symm
  subst er;exact q H2 p (λc u n1 M hc=>Y _ _ (J.old hc M)) {dx,[],Y _ _ b1,{Y _ _ l2,λq hq=>absurd hq Q7},pr,HP.nil,I} h2
 |cons y d=>
  have ey:B=y/\O=d++[z]:=by rw[C]at n;injection n with x1 x2;exact{(x1.symm),x2.symm}
  let{rfl,rfl}:=ey;rw[Xf eq];walk_at "rz";refine{0,vj (i:=0) (Nat.succ_pos _),λH2 N=>?_};have b2:=N.old b1 S;have l3:=N.at_;have Z:=λc o hc=>N.old (X c o hc) (tl c o hc);walk_at "rz";have a0:HP (B::d):=by have:=hp.init;rw[C,List.dropLast_concat]at this;exact this
  have hm:∀r∈z::d,r∈G:=λr hr=>by
   rw[C];rcases Xi hr with y|y
   .rw [y];simp
   .simp [y]
  refine{l,z::d,rfl,{l3,λr hr=>Z _ _ (hl.2 r (hm r hr))},by simp,SI.root a0,λH3 a1 o3 a3 a4 a5=>?_};intro p H4 ab g4 h4;refine q H4 p (λc u n1 M hc=>g4 _ _ (o3 c u M (N.old (J.old hc M) M))) {dx,a1,g4 _ _ (o3 _ _ S b2),a3.same g4,?_,a5,I} h4;refine((a4.map (λx:It=>x.2)).trans ?_).trans pr;rw[QU,QT];exact List.perm_append_comm (l₁:=[z.2])
def Bc{α β:Type}{f:α->β}:∀{m:List β} {l:List α},m.Perm (l.map f)->∃i:List α,i.Perm l/\i.map f=m:=by
 intro m l p;generalize h:l.map f=x at p;induction p generalizing l with
 |nil=>simp_all
 |cons a _ o=>
  cases l with
  |nil=>cases h
  |cons b l=>injection h with h1 h2;let{i,q,e}:=o h2;exact{b::i,q.cons b,by rw[QU,e,h1]}
 |swap a b r=>
  cases l with
  |nil=>cases h
  |cons c l=>
   cases l with
   |nil=>simp at h
   |cons d l=>injection h with h1 h2;injection h2 with h2 h3;exact{d::c::l,List.Perm.swap _ _ _,by simp only[QU];rw[h1,h2,h3]}
 |trans _ _ j n=>let{z,u,e2}:=n h;let{v,y,e1}:=j e2;exact{v,y.trans u,e1}
def JF(h:_T.aL (cB a) (cB b)=true)(n:a.t≠b.t):YC a b:=by
 unfold cB at h;rw[_T.bM]at h;by_cases c:a.m=b.m;.rw [Xf c,_T.bM,Xe n]at h;exact .inr {c,of_decide_eq_true h}
 .rw [Xe c]at h;exact .inl (of_decide_eq_true h)
def JG(f:Yf kt)(p:ks.Perm (kt.map cB))(h:ks.Pairwise λa b=>_T.aL a b=true):∃ok,Xx kt ok/\ok.map cB=ks:=by let{ok,c,e}:=Bc p;refine{ok,{c,?_},e};subst e;rw[RL]at h;have d:=(c.pairwise_iff (λ{a b} h=>Ne.symm h)).mpr (f.imp λh=>Int.ne_of_lt h);exact(h.and d).imp λx=>JF x.1 x.2
end
def LJ:SN<=900:=by decide
#print a
def OdP(b:List (List Int))(n:Nat)(i:Nat)(c:List V)(d:St)(e:Hp):Prop:=∃a:List It,c=a.map (λq=>V.ref q.1)/\(∀q∈a,e q.1=!(.tup (q.2.map V.int)))/\a.map (·.2)=b.take i/\d.length=n
theorem OdP.put(h:OdP ks n i ys σ1 H1)(d:H1 D=!(.lst ys))(g:dA H1 H4)(mu:Mu H4 D (.lst (ys++[.ref p])) H5)(b:H4 p=!(.tup (k.map V.int)))(f:ks[i]? =!k)(hs:σ2.length=n):OdP ks n (i+1) (ys++[.ref p]) σ2 H5:=by
 let{c,rfl,e,j,_}:=h;have o:p≠D:=λz=>by rw[z,g _ _ d]at b;cases b
 refine{c++[(p,k)],by rw[QT];rfl,λq a=>?_,by rw[QT,j,bj f];rfl,hs};rcases Xk a with a|a
 .exact mu.old (g _ _ (e q a)) (λz=>by have:=e q a;rw[z,d]at this;cases this)
 .rw [Xh a];exact mu.old b o
def X5(d:Tu):Sp:=λf H Q _=>∃(b l:Tu) (e:Int) (kt:List Kt),f= [.ref b]/\HA d H b l e kt/\Yf kt/\kt.length<SN/\∀r c a ok,Xx kt ok->H r=none->dA H c->HL c r a->a.map (·.2)=ok.map Yg->Q (.ref r) c
def ZK{o:Tu}(D:eH K o "in_order" "HeapAgenda.in_order" fE ["self"])(W:jp K o)(NC:cD K o "heap")(OJ:mg "sorted" =none):%[1,o,"in_order",[]|X5 o]:=by
 exists D.ok W jC;let{b,l,tn,kt,rfl,{dx,v,h1,hl,y,hp,ht},X,a0,q}:=h;have big:=_bg
 have a1:=LJ;have lp:v.length=kt.length:=by have:=y.length_eq;rw[QL,QL]at this;exact this
 have l1:=hl.1;have l3:∀r∈v,r.2.length=3:=λr hr=>by let{e,_,B}:=Xl (y.mem_iff.mp (Rj (f:=λx:It=>x.2) hr));rw[<-B];rfl
 have nd:v.Pairwise λa b=>a.2≠b.2:=by
  have d:(kt.map cB).Pairwise λa b=>a≠b:=by rw[RL];exact X.imp λ{a b} h z=>by rw[vm z]at h;ext
  have:=(y.pairwise_iff (λ{a b} h=>Ne.symm h)).mpr d;rwa[RL]at this
 refine{_,(ae (aw (dv 3 ["moment","turn","thing"] [] (bC (jx (lJ rfl) OJ (aD (ah W NC (pv 0))))) (λn _ _ _ _=>(bG 3 rfl (aC (dq 0 n) (aC (dq 1 n) (aC (dq 2 n) bB))))) (λ_ _ _ _=>cc) (λ_ _ _ _=>(am (ay (pv 0) (pv 2))))))),?_};walk_at "rz";refine bD ?_;simp only[cC];walk_at "rz";refine{v,rfl,3,hl.2,by decide,l3,nd,by ext,λS H1 qs hS J c M po=>?_};let{ok,Y,Z}:=JG X ((M.map (λx:It=>x.2)).trans y) (by rw[RL];exact po);have lo:ok.length=kt.length:=Y.1.length_eq;have N:HL H1 S qs:={c,λr hr=>J _ _ (hl.2 r (M.mem_iff.mp hr))}
 have O:=M.length_eq;clear l1;walk_at "rz";refine{{_,ip.of c},iy c (by rw[QL,O];ext) (OdP (ok.map Yg) 3) (λC _=>{[],rfl,λq hq=>absurd hq Q7,rfl,rfl}) ?_ ?_}
 .rintro D i x ys R C T j pv;have il:i<ok.length:=by have:=(Xj T).1;rw[QL,O]at this;ext
  obtain⟨e,B⟩:∃e,ok[i]? =!e:={_,QV il}
  let{p,p1,u,p3}:=zc N Z.symm B;rw[QY,p3]at T;cases T;have p2:C p=!(.tup [.int e.m,.int e.t,.int e.x]):=j.same _ _ u;obtain⟨F,G,I,rfl⟩:∃F G I,R= [F,G,I]:=by let{_,_,_,_,h}:=pv;exact _L._8 R h λF G I=>{(F),G,I,rfl}
  clear u p1 p3 c Z;walk_at "rz";intro p5 H4 a2 g4 h4;exact j.put g4 λH5 mu=>pv.put (k:=Yg e) j.lst g4 mu h4 (by rw[QY,B];rfl) rfl
 .rintro D ys R C hD g2 hy a3 ⟨U,rfl,h2,h3,_⟩;rw[QL,O,lp,<-lo,QZ (by rw[QL];exact Xm _)]at h3;exact q D C U ok Y (J.free hD) (J.trans g2) {(hy),h2} h3
end
end _K.Ag
#print z
end _K
namespace _K.Ag
open PySem _L
theorem _s.g{a l:Tu}{H b:Hp}(f:_s a l H b):Nz [a,l] H b:=λc u n hc=>f c u (λz=>n (by rw[z];simp)) (λz=>n (by rw[z];simp)) hc
def Zg(p:Int×Int):List Int:=[p.1,p.2]
def prO(e:Kt):Int×Int:=(e.m,e.x)
def AO(b d:Tu)(H:Hp)(c:Bool)(a l:Tu)(O:List (Int×Int)):Prop:=∃kt ok,((c=true/\_M b H a l kt)\/(c=false/\∃e,HA d H a l e kt))/\Yf kt/\Xx kt ok/\ok.map prO=O
def XV(O:List (Int×Int))(m x:Int):List (Int×Int):=O.takeWhile (λp=>decide (p.1<=m))++(m,x)::O.dropWhile (λp=>decide (p.1<=m))
def AO.ins(h:AO CL CH H c a l O):(∃b fs,H a=!(.ins (if c then CL else CH) b fs))/\∃xs,H l=!(.lst xs):=by
 obtain⟨kt,ok,⟨rfl,b,f,i,d,e,_⟩|⟨rfl,j,b,f,d,e,_⟩,n⟩:=h;.exact{{b,_,d},_,e.1}
 .exact{{b,_,d},_,e.1}
theorem AO.put(h:(c=true/\_M CL H a l (kt++[{(m),t,x}]))\/(c=false/\∃C,HA CH H a l C (kt++[{(m),t,x}])))(B:Yf kt)(v:Xx kt ok)(y:∀e∈kt,e.t<t):AO CL CH H c a l (XV (ok.map prO) m x):=by
 have b:=List.takeWhile_append_dropWhile (p:=λe:Kt=>decide (e.m<=m)) (l:=ok);have e1:ok.take (ok.takeWhile λe=>decide (e.m<=m)).length=ok.takeWhile λe=>decide (e.m<=m):=by
  conv=>lhs;rw[<-b]
  rw[b];have:=List.take_left (l₁:=ok.takeWhile λe=>decide (e.m<=m)) (l₂:=ok.dropWhile λe=>decide (e.m<=m));rwa[b]at this
 have e2:ok.drop (ok.takeWhile λe=>decide (e.m<=m)).length=ok.dropWhile λe=>decide (e.m<=m):=by have:=SA (l₁:=ok.takeWhile λe=>decide (e.m<=m)) (l₂:=ok.dropWhile λe=>decide (e.m<=m));rwa[b]at this
 have E:(ok.takeWhile λe=>decide (e.m<=m)).length<=ok.length:=by have:=congrArg List.length b;rw[QN]at this;ext
 have q:=v.put (e:={(m),t,x}) (k:=(ok.takeWhile λe=>decide (e.m<=m)).length) y E (λj e u n=>?_) (λj e u n=>?_);.refine{_,_,h,B.snoc y,q,?_};rw[e1,e2];unfold XV;rw[List.takeWhile_map,List.dropWhile_map,QT,QT,QQ];rfl
 .have F:e∈ok.takeWhile λe=>decide (e.m<=m):=by
   rw[<-e1]
   exact QW (i:=j) (by rw[List.getElem?_take_of_lt u];exact n)
  have:=List.all_takeWhile (p:=λe:Kt=>decide (e.m<=m)) (l:=ok)
  rw[List.all_eq_true]at this
  exact of_decide_eq_true (this e F)
 .have G:=(Xj n).1;have I:(ok.takeWhile λe=>decide (e.m<=m)).length<ok.length:=by ext
  obtain⟨o,d⟩:∃o,ok[(ok.takeWhile λe=>decide (e.m<=m)).length]? =!o:={_,QV I}
  have J:=v.mono d n u;have K:¬o.m<=m:=λz=>by
   have A:(ok.dropWhile λe=>decide (e.m<=m))[0]? =!o:=(by rw[<-e2,Rw];exact d);cases w:ok.dropWhile λe=>decide (e.m<=m)with
   |nil=>simp_all
   |cons f r=>rw[w]at A;cases A;have:=List.head?_dropWhile_not (λe:Kt=>decide (e.m<=m)) ok;rw[w]at this;simp at this;ext
  show m<e.m;ext
def _M.ao(h:_M CL H a l []):AO CL CH H true a l []:={[],[],.inl {(rfl),h},.nil,rl,rfl}
def HA.ao(h:HA CH H a l tn []):AO CL CH H false a l []:={[],[],.inr {(rfl),tn,h},.nil,rl,rfl}
def Zi(h:Yf kt)(s:Xx kt (e::r)):∃i,X9 kt i e:=by
 have n:=s.1.mem_iff.mp QO;let{i,f}:=List.mem_iff_getElem?.mp n;have o:=List.pairwise_cons.mp s.2;have all:∀a∈kt,a=e\/YC e a:=λa c=>by
  rcases Xi (s.1.mem_iff.mpr c)with z|z;.exact .inl z
  .simp_all
 refine{i,f,λj a b=>?_,λj a d b=>?_}
 .rcases all a (QW b)with z|z
  .simp_all
  .unfold YC at z;ext
 .have t:=h.at b f d;rcases all a (QW b)with z|z;.grind
  .unfold YC at z;ext
end _K.Ag
namespace _K.Wo
open PySem _L
inductive Op | add | sub | mul
def Op.sg:Op->VA | .add=>"+" | .sub=>"-" | .mul=>"*"
def Op.ap:Op->Int->Int->Int | .add,a,b=>a+b | .sub,a,b=>a-b | .mul,a,b=>a*b
inductive Tr | name (x:VA) | num (n:Int) | now | own | bin (o:Op) (l r:Tr)
def Tr.toD:Tr->Ta
 |.name x=>.tuple [.str "name",.str x]
 |.num n=>.tuple [.str "number",.int n]
 |.now=>.tuple [.str "now"]
 |.own=>.tuple [.str "own"]
 |.bin o l r=>.tuple [.str o.sg,l.toD,r.toD]
def Tr.depth:Tr->Nat
 |.bin _ l r=>max l.depth r.depth+1
 |_=>0
def Bd(n:Int):Prop:= -(2^64)<n/\n<2^64
inductive ZL | val (n:Int) | unk (x:VA) | big
def ZL.toD:ZL->Ta
 |.val n=>.tuple [.int n,.none]
 |.unk x=>.tuple [.none,.tuple [.str "unknown",.str x]]
 |.big=>.tuple [.none,.tuple [.str "big"]]
def _t(n:Int):ZL:=if 1000000<(if n<0 then -n else n)then .big else .val n
def look(kvs:List (hH×V))(x:VA):ZL:=match bc kvs (.inr x)with
 |some (.int n)=>.val n
 |_=>.unk x
def _m(kvs:List (hH×V)):Prop:=∀a∈kvs,∃n,a.2=.int n/\Bd n
#print a
def Zq:Sp:=λc H Q _=>∃(o:Op) (a b:Int),c= [.str o.sg,.int a,.int b]/\Bd a/\Q (.int (o.ap a b)) H
def ZB(D:hW K mg "reckoned" pV ["sign","left","right"]):%[1,"reckoned",["sign","left","right"]|Zq]:=by exists D.ok wF;let{o,a,b,rfl,c,q}:=h;exists _,(aa (aH (aK a7 (pv 0) aq) (ae (aw (aM bE (pv 1) (pv 2)))) aE) (aa (aH (aK a7 (pv 0) aq) (ae (aw (aM dF (pv 1) (pv 2)))) aE) (ae (aw (aM jF (pv 1) (pv 2))))));cases o<;>simp only[Op.sg,Op.ap]at q⊢<;>walk_at "rd";unfold Bd at c;ext
def ZS(K:RP):Sp:=λb H Q _=>∃n:Int,b= [.int n]/\∀r a,dA H a->Rp K a r (_t n).toD->Q r a
def XL(h:H p=!(.tup [.int n,.non])):Rp K H (.ref p) (ZL.val n).toD:=.tup h (.cons (.int n) (.cons .non .nil))
def JH(h:H p=!(.tup [.non,.ref r]))(a:H r=!(.tup [.str "big"])):Rp K H (.ref p) ZL.big.toD:=.tup h (.cons .non (.cons (.tup a (.cons (.str _) .nil)) .nil))
theorem JI(h:H p=!(.tup [.non,.ref r]))(a:H r=!(.tup [.str "unknown",.str x])):Rp K H (.ref p) (ZL.unk x).toD:=.tup h (.cons .non (.cons (.tup a (.cons (.str _) (.cons (.str _) .nil))) .nil))
def Ym(D:hW K mg "bounded" sJ ["n"])(i:mg "MOST_WORTH" =!(.int 1000000 tk))(j:mg "abs" =none):%[1,"bounded",["n"]|ZS K]:=by
 exists D.ok y6;let{n,rfl,q}:=h;exists _,(aa (aH (aK gB (jx BX j (aD (pv 0))) (iC (v:=.int 1000000) rfl i {_,rfl})) (ae (aw (am (ay cv (am (aD aq)))))) aE) (ae (aw (am (ay (pv 0) cv)))));walk_at "rd";refine cR (λc=>?_) (λc=>?_);.intro p o u b d r y hr e x;exact q _ _ (b.trans e) (by rw[_t,Xf c];exact JH x (e _ _ d))
 .intro p o u b d;exact q _ _ b (by rw[_t,Xe c];exact XL d)
def Zl(K:RP):Sp:=λc H Q _=>∃(x:VA) (d:Tu) (a:List (hH×V)),c= [.str x,.ref d]/\H d=!(.dK a)/\_m a/\∀r b,dA H b->Rp K b r (look a x).toD->Q r b
def Be(hk:_m kvs)(e:bc kvs (.inr x)=!v):∃n,v=.int n/\look kvs x=.val n:=by let{a,b,e2}:=uw e;let{n,e3,_}:=hk a b;rw[e3]at e2;subst e2;exact{n,rfl,by unfold look;rw[e]}
def ZH(D:hW K mg "worth_of_name" jo ["name","values"]):%[1,"worth_of_name",["name","values"]|Zl K]:=by
 exists D.ok oJ;let{x,d,b,rfl,C,hk,q}:=h;have j:=bA hr;exists _,(aa (aH (zX (Ff j (pv 0) (pv 1)) (by with_unfolding_all rfl)) (ae (aw (am (ay (bY j (pv 1) (pv 0) (λ_ _=>rfl)) cv)))) aE) (ae (aw (am (ay cv (am (ay aq (pv 0))))))));walk_at "rd";cases e:bc b (Sum.inr x)with
 |some v=>let{n,rfl,u}:=Be hk e;exact lC {_,rfl,λp y z c i=>q _ _ c (by rw[u];exact XL i)}
 |none=>refine lB λp y z c i r F hr o B=>?_;exact q _ _ (c.trans o) (by unfold look;rw[e];exact JI B (o _ _ i))
end
end _K.Wo
#print z
inductive Cs where
 |jmp (n:Nat)
 |unl (sg:VA) (n:Nat)
 |beg (k:Int)
 |deed (w:VA) (ns:List VA)
 |num (n:Int)
 |nam (x:VA)
 |now
 |own
 |op (o:Wo.Op)
def Cs.L:Cs->List Ta
 |.jmp n=>[.str "jump",.int n]
 |.unl sg n=>[.str "unless",.str sg,.int n]
 |.beg k=>[.str "begin",.int k]
 |.deed w ns=>[.str "deed",.str w,.tuple (ns.map .str)]
 |.num n=>[.str "number",.int n]
 |.nam x=>[.str "name",.str x]
 |.now=>[.str "now"]
 |.own=>[.str "own"]
 |.op o=>[.str o.sg]
abbrev Cd:=List Cs×List (Int×Nat)
inductive Ot where
 |start (m:Int) (nm:VA) (xs:List Int)
 |bring (m:Int) (nm:VA) (n:Int)
def Ot.m:Ot->Int
 |.start m _ _=>m
 |.bring m _ _=>m
def Ot.D:Ot->Ta
 |.start m a b=>.tuple [.int m,.str "start",.str a,.tuple (b.map .int)]
 |.bring m a n=>.tuple [.int m,.str "bring",.str a,.int n]
structure Pr where
 nms:List (VA×List VA)
 drw:List (VA×List Int)
 cds:List (VA×Cd)
 out:List Ot
structure Hd where
 nm:VA
 row:Int
 kn:List (VA×Int)
structure YS where
 done:Nat
 beg:Nat
 now:Int
 hap:Int
 stm:Int
 pl:List (VA×Int)
 ag:List (Int×Int)
 ts:List (VA×TS)
 ss:List (VA×SS)
 hd:List (Int×Hd)
 lg:List Ta
 st:Option (List Ta)
def YS.S(s:YS)(n:Nat):YS:={s with done:=n}
def YS.az(s:YS)(n:Nat):YS:={s with beg:=n}
def YS.a0(s:YS)(n:Int):YS:={s with now:=n}
def YS.ac(s:YS)(n:Int):YS:={s with hap:=n}
def YS.Q(s:YS)(n:Int):YS:={s with stm:=n}
def YS.b2(s:YS)(l:List (VA×Int)):YS:={s with pl:=l}
def YS.ad(s:YS)(l:List (Int×Int)):YS:={s with ag:=l}
def YS.X(s:YS)(l:List (VA×TS)):YS:={s with ts:=l}
def YS.ae(s:YS)(l:List (VA×SS)):YS:={s with ss:=l}
def YS.R(s:YS)(l:List (Int×Hd)):YS:={s with hd:=l}
def YS.sLg(s:YS)(l:List Ta):YS:={s with lg:=l}
def YS.af(s:YS)(o:Option (List Ta)):YS:={s with st:=o}
def Hd.Y(d:Hd)(r:Int):Hd:={d with row:=r}
def Hd.cf(d:Hd)(l:List (VA×Int)):Hd:={d with kn:=l}
def aJ{α:Type}(nm:VA):List (VA×α)->Option α
 |[]=>none
 |p::r=>if p.1=nm then some p.2 else aJ nm r
def bi{α:Type}(nm:VA)(x:α):List (VA×α)->List (VA×α)
 |[]=>[]
 |p::r=>if p.1=nm then(p.1,x)::r else p::bi nm x r
def setH(n:Int)(x:Hd):List (Int×Hd)->List (Int×Hd)
 |[]=>[]
 |p::r=>if p.1=n then(p.1,x)::r else p::setH n x r
def fT(n:Int):List (Int×Hd)->Option Hd
 |[]=>none
 |p::r=>if p.1=n then some p.2 else fT n r
def mj(kn:List (VA×Int))(x:VA)(n:Int):List (VA×Int):=if x∈kn.map (·.1)then kn.map (λp=>if p.1=x then(x,n)else p)else kn++[(x,n)]
def YS.lay(s:YS)(n:Int)(ws:List Ta):YS:=s.sLg (s.lg++[.tuple (.int s.now::.int n::ws)])
def YS.put(s:YS)(m x:Int):YS:=s.ad (Ag.XV s.ag m x)
abbrev Sv:=Int×VA×Int
def YS.wk(nm:VA)(s:YS)(i:Sv):YS:=(s.lay i.1 [.str i.2.1,.str nm,.int i.2.2]).put s.now i.1
def YS.wake(s:YS)(nm:VA)(a:List Sv):YS:=a.foldl (YS.wk nm) s
def YS.begin(P:Pr)(s:YS)(nm:VA)(xs:List Int):YS:=
 if s.beg=60 then s.af (some [.str "many"])
 else(((s.az (s.beg+1)).R (s.hd++[((s.beg:Int)+1,Hd.mk nm 0 (((aJ nm P.nms).getD []).zip xs))])).lay ((s.beg:Int)+1) [.str "begins",.str nm]).put s.now ((s.beg:Int)+1)
def YS.given(s:YS)(h:Int)(nm:VA)(n:Int)(a:List Sv):YS:=(if 0<n then s.lay h [.str "gives",.str nm,.int n]else s).wake nm a
def Y0(a:List (Int×Int)):List Sv:=a.map λp=>(p.1,"takes",p.2)
def _u(a:List (Int×Bool×Int)):List Sv:=a.map λp=>(p.1,u9 p.2.1,p.2.2)
def cH(h:Int)(t:TS):TS:=if 0<ci t.held h then(cq t h (ci t.held h)).2 else t
def cZ(h:Int)(a:List (VA×TS)):List (VA×Int×List Sv):=a.filterMap λp=>if 0<ci p.2.held h then some (p.1,ci p.2.held h,Y0 (cq p.2 h (ci p.2.held h)).1)else none
def YS.gone(s:YS)(h:Int)(l:List (VA×Int×List Sv)):YS:=l.foldl (λs i=>s.given h i.1 i.2.1 i.2.2) s
def YS.ah(s:YS)(h:Int):YS:=(((s.R (s.hd.filter λp=>decide (p.1≠h))).lay h [.str "ends"]).X (s.ts.map λp=>(p.1,cH h p.2))).gone h (cZ h s.ts)
def h9:Nat->SS->List (Int×Bool×Int)×SS
 |0,s=>([],s)
 |n+1,s=>match YD s with
  |none=>([],s)
  |some (i,a)=>(i::(h9 n a).1,(h9 n a).2)
def bS(s:SS):List Sv×SS:=(_u (h9 (s.gets.length+s.puts.length) s).1,(h9 (s.gets.length+s.puts.length) s).2)
def YS.bring(s:YS)(nm:VA)(n:Int):YS:=match aJ nm s.ss with
 |none=>s
 |some st=>((s.ae (bi nm (bS {st with level:=st.level+Yt st n}).2 s.ss)).lay 0 [.str "brings",.str nm,.int (Yt st n)]).wake nm (bS {st with level:=st.level+Yt st n}).1
def YS.M(s:YS)(h:Int)(w nm:VA)(n:Int):Bool×List Sv×YS:=
 if w= "take" then match aJ nm s.ts with
  |none=>(false,[],s)
  |some t=>((dE t h n).1,[],s.X (bi nm (dE t h n).2 s.ts))
 else match aJ nm s.ss with
  |none=>(false,[],s)
  |some t=>if w= "put" then
   (if t.puts≠[]\/t.most<t.level+n then(false,[],s.ae (bi nm {t with puts:=t.puts++[(h,n)]} s.ss))else(true,(bS {t with level:=t.level+n}).1,s.ae (bi nm (bS {t with level:=t.level+n}).2 s.ss)))
   else(if t.gets≠[]\/t.level<n then(false,[],s.ae (bi nm {t with gets:=t.gets++[(h,n)]} s.ss))else(true,(bS {t with level:=t.level-n}).1,s.ae (bi nm (bS {t with level:=t.level-n}).2 s.ss)))
def vp(w:VA):VA:=if w= "take" then "takes" else if w= "put" then "puts" else "gets"
def YS.ask(s:YS)(h:Int)(w nm:VA)(n:Int):Bool×YS:=
 let r:=s.M h w nm n
 if r.1=true then(true,(r.2.2.lay h [.str (vp w),.str nm,.int n]).wake nm r.2.1)else(false,r.2.2.lay h [.str "queues",.str w,.str nm,.int n])
def YS.give(s:YS)(h:Int)(nm:VA)(n:Int):YS:=if 0<n then(match aJ nm s.ts with
 |none=>s
 | some t=>(s.X (bi nm (cq t h n).2 s.ts)).given h nm (Zc t h n) (Y0 (cq t h n).1))else s
def YS.wait(s:YS)(h n:Int):YS:=(s.lay h [.str "waits",.int n]).put (s.now+n) h
def YS.O(s:YS)(h:Int)(x:VA)(n:Int):YS:=match fT h s.hd with
 |none=>s
 |some d=>s.R (setH h (d.cf (mj d.kn x n)) s.hd)
def YS.draw(P:Pr)(s:YS)(nm:VA):Int×YS:=match aJ nm P.drw,aJ nm s.pl with
 |some ns,!i=>(ns.getD i.toNat 0,s.b2 (bi nm ((i+1)%ns.length) s.pl))
 |_,_=>(0,s)
def YS.deed(P:Pr)(s:YS)(h:Int)(w:VA)(ns:List VA)(xs:List Int):Bool×YS:=
 let n:=xs.getD 0 0;let a:=ns.getD 0 ""
 if w= "wait" then(false,s.wait h (if 0<n then n else 0))
 else if w= "stop" then(false,s.ah h)
 else if w= "take"\/w= "put"\/w= "get" then(if n<1 then(true,s)else s.ask h w a n)
 else
  let b:=if w= "give" then s.give h a n
   else if w= "let" then s.O h a n
   else if w= "draw" then(s.draw P (ns.getD 1 "")).2.O h a (s.draw P (ns.getD 1 "")).1
   else if w= "say" then s.lay h [.str "says",.str a,.int n]
   else s.begin P a xs
  (b.st.isNone,b)
def jU(sg:VA)(a b:Int):Bool:=if sg= "<" then decide (a<b)else decide (a=b)
def X4(kn:List (VA×Int)):List (hH×V):=kn.map λp=>(Sum.inr p.1,V.int p.2)
def fm(kn:List (VA×Int))(now own:Int):Cs->List Int->Wo.ZL×List Int
 |.num n,st=>(.val n,st)
 |.nam x,st=>(Wo.look (X4 kn) x,st)
 |.now,st=>(.val now,st)
 |.own,st=>(.val own,st)
 |.op o,b::a::st=>(Wo._t (o.ap a b),st)
 |_,st=>(.val 0,st)
def EE(h:Int):Wo.ZL->List Ta
 |.unk x=>[.str "unknown",.int h,.str x]
 |_=>[.str "big",.int h]
def YS.an(s:YS)(h:Int)(kn:List (VA×Int))(c:Cs)(st:List Int):Bool×YS×List Int:=match (fm kn s.now h c st).1 with
 |.val n=>(true,s,n::(fm kn s.now h c st).2)
 |r=>(false,s.af (!(EE h r)),(fm kn s.now h c st).2)
def Z2(b:Bool)(a:Nat):Option Nat:=if b=true then some (a+1)else none
def YS.aq(P:Pr)(s:YS)(h:Int)(d:Hd)(a:Nat)(st:List Int):Cs->Option Nat×YS×List Int
 |.jmp n=>(!n,s,st)
 |.unl sg n=>(!(if jU sg (st.getD 1 0) (st.getD 0 0)=true then a+1 else n),s,[])
 |.beg k=>(Z2 ((not (decide (s.stm=100)))) a,(if s.stm=100 then s.af (some [.str "endless",.int h])else(s.Q (s.stm+1)).R (setH h (d.Y k) s.hd)),st)
 |.deed w ns=>(Z2 (s.deed P h w ns st.reverse).1 a,(s.deed P h w ns st.reverse).2,[])
 |c=>(Z2 (s.an h d.kn c st).1 a,(s.an h d.kn c st).2.1,(s.an h d.kn c st).2.2)
def YS.goOn(P:Pr)(h:Int)(b:List Cs):Nat->YS->Option Nat->List Int->YS
 |_,s,none,_=>s
 |0,s,_,_=>s
 |f+1,s,!a,st=>match b[a]?,fT h s.hd with
  |some c,!d=>let r:=s.aq P h d a st c;YS.goOn P h b f r.2.1 r.1 r.2.2
  |_,_=>s
def YS.first(s:YS):Option Int:=s.ag.head?.map (·.1)
def YS.H(P:Pr)(s:YS):Bool:=match P.out[s.done]? with
 |none=>false
 |some o=>match s.first with
  |none=>true
  |some m=>decide (o.m<=m)
def YS.next(P:Pr)(s:YS):Option Int:=if s.st.isSome=true then none else if s.H P=true then(P.out[s.done]?).map Ot.m else s.first
def YS.U(P:Pr)(s:YS):YS:=match P.out[s.done]? with
 |none=>s
 |some (.start _ a b)=>(s.S (s.done+1)).begin P a b
 |some (.bring _ a n)=>(s.S (s.done+1)).bring a n
def YS.Z(P:Pr)(s:YS)(h:Int):YS:=match fT h s.hd with
 |none=>s
 |some d=>match aJ d.nm P.cds with
  |none=>s
  |some c=>s.goOn P h c.1 4000 (c.2.lookup d.row) []
def YS.step(P:Pr)(s:YS):YS:=match s.next P with
 |none=>s
 |some m=>
  let s:=if s.now<m then(s.a0 m).ac 0 else s
  if s.hap=500 then s.af (some [.str "long"])else
  let s:=s.ac (s.hap+1)
  if s.H P=true then s.U P else
  match s.ag with
  |[]=>s
  |(_,h)::r=>((s.ad r).Q 0).Z P h
def tp(H:Hp):Hp:=λa=>match H a with
 |some (.tup b)=> !(.tup b)
 |_=>none
theorem bP(h:H a=!(.tup xs)):tp H a=!(.tup xs):=by unfold tp;rw[h]
def jV(h:tp H a=!o):∃xs,o=.tup xs/\H a=!(.tup xs):=by
 unfold tp at h;split at h;.rename_i xs e;cases h;exact{(xs),rfl,e}
 .cases h
def Kt(H b:Hp):Prop:=∀c a,H c=!(.tup a)->b c=!(.tup a)
theorem Kt.tp(k:Kt H H'):dA (tp H) (tp H'):=λa o h=>by let{b,rfl,e}:=jV h;exact bP (k _ _ e)
def rm:dA (tp H) H:=λa o h=>by let{b,rfl,e}:=jV h;exact e
theorem Kt.trans(k:Kt H H')(b:Kt H' H''):Kt H H'':=λc a h=>b c a (k c a h)
theorem Kt.of(g:dA H H'):Kt H H':=λ_ _ h=>g _ _ h
section
variable{K:RP}
abbrev Fz(K:RP)(H:Hp)(v:V)(d:Ta):Prop:=Rp K (tp H) v d
abbrev XF(K:RP)(H:Hp)(vs:List V)(ds:List Ta):Prop:=jk K (tp H) vs ds
def cr(k:Kt H H')(h:Fz K H v d):Fz K H' v d:=Rp.mono k.tp h
theorem bO(k:Kt H H')(h:XF K H vs ds):XF K H' vs ds:=jk.mono k.tp h
def eM:∀{vs ws:List V} {ds es:List Ta},jk K H vs ds->jk K H ws es->jk K H (vs++ws) (ds++es):=by
 intro vs;induction vs with
 |nil=>intro ws ds es c d;cases c;exact d
 |cons v vs e=>intro ws ds es c d;cases c with|cons a b=>exact .cons a (e b d)
structure CA where
 l:Tu
 h:Tu
 g:Tu
 t:Tu
 s:Tu
 y:Tu
 d:Tu
structure Ce where
 y:Tu
 dx:Tu
 dn:Tu
 dd:Tu
 dp:Tu
 db:Tu
 to:Tu
 kd:Bool
 ag:Tu
 al:Tu
 g:Tu
 dt:Tu
 ds:Tu
 es:List R4
 ss:List cU
 dh:Tu
 ll:Tu
 hs:List (Int×Tu×Tu)
 sv:V
 pds:List Tu
def Ce.b3(c:Ce)(v:V):Ce:={c with sv:=v}
def Ce.b4(c:Ce)(l:List (Int×Tu×Tu)):Ce:={c with hs:=l}
def Ce.sG(c:Ce)(es:List R4)(ss:List cU):Ce:={c with es:=es,ss:=ss}
def aS(c:Ce)(s:YS):List (VA×V):=[("names",.ref c.dn),("drawn",.ref c.dd),("places",.ref c.dp),("outer",.ref c.to),("outer_done",.int s.done),("agenda",.ref c.ag),("goods",.ref c.g),("hands",.ref c.dh),("begun",.int s.beg),("now",.int s.now),("happenings",.int s.hap),("statements",.int s.stm),("laid",.ref c.ll),("stopped",c.sv),("codes",.ref c.db)]
def stD:Option (List Ta)->Ta
 |none=>.none
 |some a=>.tuple a
def hdF(n:Int)(d:Hd)(a:Tu):List (VA×V):=[("number",.int n),("name",.str d.nm),("row",.int d.row),("known",.ref a)]
def YH(C:CA)(H:Hp)(n:Int)(b a:Tu)(d:Hd):Prop:=(∃c,H b=!(.ins C.d c (hdF n d a)))/\H a=!(.dK (X4 d.kn))
inductive Xw (C:CA) (H:Hp):List (Int×Tu×Tu)->List (Int×Hd)->Prop
 |nil:Xw C H [] []
 |cons {n:Int} {ho kd:Tu} {d:Hd} {hs:List (Int×Tu×Tu)} {ds:List (Int×Hd)}:YH C H n ho kd d->Xw C H hs ds->Xw C H ((n,ho,kd)::hs) ((n,d)::ds)
inductive XE {α:Type} (K:RP) (H:Hp) (F:α->List Ta):List (hH×V)->List (VA×α)->Prop
 |nil:XE K H F [] []
 |cons {x:VA} {a:α} {v:V} {kv:List (hH×V)} {l:List (VA×α)}:Fz K H v (.tuple (F a))->XE K H F kv l->XE K H F ((Sum.inr x,v)::kv) ((x,a)::l)
theorem XE.kt{F:α->List Ta}{l:List (VA×α)}(k:Kt H H')(h:XE K H F kv l):XE K H' F kv l:=by
 induction h with
 |nil=>exact .nil
 |cons a _ b=>exact .cons (cr k a) b
inductive XW (K:RP) (H:Hp):List (hH×V)->List Tu->List (VA×Cd)->Prop
 |nil:XW K H [] [] []
 |cons {x:VA} {t st pd:Tu} {cd:Cd} {kv:List (hH×V)} {l:List Tu} {r:List (VA×Cd)}:H t=!(.tup [.ref st,.ref pd])->Fz K H (.ref st) (.tuple (cd.1.map λc=>.tuple c.L))->H pd=!(.dK (cd.2.map λp=>(Sum.inl p.1,.int p.2)))->XW K H kv l r->XW K H ((Sum.inr x,.ref t)::kv) (pd::l) ((x,cd)::r)
theorem XW.fr(k:Kt H H')(h:XW K H kv l r)(f:∀a∈l,∀o,H a=!o->H' a=!o):XW K H' kv l r:=by
 induction h with
 |nil=>exact .nil
 |cons a b c _ d=>exact .cons (k _ _ a) (cr k b) (f _ (QO ..) _ c) (d λx e=>f x (QM _ e))
def F3(n:Int):Nat:=8+2*n.toNat
def QG(n:Int):Nat:=9+2*n.toNat
def nt:HO->Prop
 |.tup _=>False
 |_=>True
def gcs(c:Ce):List Tu:=c.g::c.dt::c.ds::(ml c.es++nj c.ss)
structure Tg(H:Hp)(c:Ce)(tg:Tu->Nat):Prop where
 y:tg c.y=1
 st:tg c.dn=2/\tg c.dd=2/\tg c.db=2/\∀a∈c.pds,tg a=2
 p:tg c.dp=3
 l:tg c.ll=4
 a:tg c.ag=5/\tg c.al=5
 g:∀a∈gcs c,tg a=6
 dh:tg c.dh=7
 hd:∀h∈c.hs,tg h.2.1=F3 h.1/\tg h.2.2=QG h.1
 own:∀a,tg a≠0->∃o,H a=!o/\nt o
structure Yd(C:CA)(K:RP)(P:Pr)(H:Hp)(c:Ce)(s:YS)(tg:Tu->Nat):Prop where
 obj:H c.y=!(.ins C.y c.dx (aS c s))
 nm:∃kv,H c.dn=!(.dK kv)/\XE K H (λl:List VA=>l.map .str) kv P.nms
 dr:∃kv,H c.dd=!(.dK kv)/\XE K H (λl:List Int=>l.map .int) kv P.drw
 bd:∃kv,H c.db=!(.dK kv)/\XW K H kv c.pds P.cds
 to:∃vs,H c.to=!(.tup vs)/\XF K H vs (P.out.map Ot.D)
 pl:H c.dp=!(.dK (s.pl.map λp=>(Sum.inr p.1,.int p.2)))
 ag:Ag.AO C.l C.h H c.kd c.ag c.al s.ag
 go:xk C.g C.t C.s H c.g c.dt c.ds c.es c.ss
 ts:c.es.map (λe=>(e.name,e.t))=s.ts
 se:c.ss.map (λe=>(e.name,e.s))=s.ss
 dh:H c.dh=!(.dK (c.hs.map λh=>(Sum.inl h.1,.ref h.2.1)))
 hd:Xw C H c.hs s.hd
 lg:∃vs,H c.ll=!(.lst vs)/\XF K H vs s.lg
 sv:Fz K H c.sv (stD s.st)
 tg:Tg H c tg
def Gr(H:Hp)(tg:Tu->Nat)(c:Hp)(b:Tu->Nat):Prop:=(∀a o,tg a=0->H a=!o->c a=!o)/\∀a,b a≠0->tg a≠0\/H a=none
def Gr.refl:Gr H tg H tg:={λ_ _ _ h=>h,λ_ h=>.inl h}
theorem Gr.trans(g:Gr H tg H' tg')(b:Gr H' tg' H'' tg''):Gr H tg H'' tg'':=by
 refine{λa o h e=>b.1 a o ?_ (g.1 a o h e),λa h=>?_}
 .rcases Q6 (tg' a)with z|z
  .exact z
  .rcases g.2 a (Ri z)with q|q
   .simp_all
   .simp_all
 .rcases b.2 a h with q|q
  .exact g.2 a q
  .rcases Q6 (tg a)with z|z
   .cases e:H a with
    |none=>exact .inr rfl
    |some o=>rw[g.1 a o z e]at q;cases q
   .exact .inl (Ri z)
theorem Gr.same(g:Gr H tg H' tg')(k:dA H' H''):Gr H tg H'' tg':={λa o h e=>k _ _ (g.1 a o h e),g.2}
def XU(T:Nat->Prop)(tg:Tu->Nat)(H b:Hp):Prop:=∀a o,¬T (tg a)->H a=!o->b a=!o
variable{C:CA}{P:Pr}{H H':Hp}{c:Ce}{s:YS}{tg:Tu->Nat}{T:Nat->Prop}
theorem Tg.tup(g:Tg H c tg){a:Tu}(h:H a=!(.tup xs)):tg a=0:=by
 rcases Q6 (tg a)with z|z;.exact z
 .let{o,e,n}:=g.own a (Ri z);rw[h]at e;cases e;exact n.elim
def Tg.off(g:Tg H c tg){a:Tu}(h:H a=none):tg a=0:=by
 rcases Q6 (tg a)with z|z;.exact z
 .let{o,e,n}:=g.own a (Ri z);rw[h]at e;cases e
theorem XU.kt(f:XU T tg H H')(g:Tg H c tg)(z:¬T 0):Kt H H':=λa b h=>f a _ (by rw[g.tup h];exact z) h
def XU.gr(f:XU T tg H H')(z:¬T 0):Gr H tg H' tg:={λa o h e=>f a o (by rw[h];exact z) e,λa h=>.inl h}
theorem XU.same(k:dA H H'):XU T tg H H':=λ_ _ _ e=>k _ _ e
theorem YH.fr(h:YH C H n ho kd d)(k:∀o,H ho=!o->H' ho=!o)(a:∀o,H kd=!o->H' kd=!o):YH C H' n ho kd d:=by let{{b,e},f}:=h;exact{{b,k _ e},a _ f}
theorem Xw.fr{hs:List (Int×Tu×Tu)}(h:Xw C H hs ds)(k:∀x∈hs,∀a,a=x.2.1\/a=x.2.2->∀o,H a=!o->H' a=!o):Xw C H' hs ds:=by
 induction h with
 |nil=>exact .nil
 |cons a _ b=>exact .cons (a.fr (k _ (QO ..) _ (.inl rfl)) (k _ (QO ..) _ (.inr rfl))) (b λx d=>k x (QM _ d))
def tY(h:Ag.AO CL CH H b a l O)(g:∀c u,(c=a\/c=l\/∃xs,u=HO.tup xs)->H c=!u->H' c=!u):Ag.AO CL CH H' b a l O:=by let{kt,ok,d,f}:=h;exact{kt,ok,d.imp (λh=>{h.1,h.2.fr g}) (λz=>by let{e,i,h}:=z;exact{e,i,h.fr g}),f}
def Yd.a3(Y:Yd C K P H c s tg)(f:XU T tg H H')(z:¬T 1):H' c.y=!(.ins C.y c.dx (aS c s)):=f _ _ (by rw[Y.tg.y];exact z) Y.obj
def Yd.a7(Y:Yd C K P H c s tg)(f:XU T tg H H')(z:¬T 3):H' c.dp=!(.dK (s.pl.map λp=>(Sum.inr p.1,.int p.2))):=f _ _ (by rw[Y.tg.p];exact z) Y.pl
def Yd.a8(Y:Yd C K P H c s tg)(f:XU T tg H H')(a:¬T 0)(z:¬T 4):∃vs,H' c.ll=!(.lst vs)/\XF K H' vs s.lg:=by let{vs,h,r}:=Y.lg;exact{vs,f _ _ (by rw[Y.tg.l];exact z) h,bO (f.kt Y.tg a) r}
def Yd.a9(Y:Yd C K P H c s tg)(f:XU T tg H H')(b:¬T 0)(z:¬T 5):Ag.AO C.l C.h H' c.kd c.ag c.al s.ag:=tY Y.ag λa u h e=>by
 rcases h with rfl|rfl|⟨d,rfl⟩;.exact f _ _ (by rw[Y.tg.a.1];exact z) e
 .exact f _ _ (by rw[Y.tg.a.2];exact z) e
 .exact f.kt Y.tg b _ _ e
theorem Yd.Z(Y:Yd C K P H c s tg)(f:XU T tg H H')(b:¬T 0)(z:¬T 6):xk C.g C.t C.s H' c.g c.dt c.ds c.es c.ss:=Y.go.grow λa u h e=>by
 rcases h with h|⟨d,rfl⟩;.exact f _ _ (by rw[Y.tg.g a h];exact z) e
 .exact f.kt Y.tg b _ _ e
def Yd.bf(Y:Yd C K P H c s tg)(f:XU T tg H H')(z:¬T 7):H' c.dh=!(.dK (c.hs.map λh=>(Sum.inl h.1,.ref h.2.1))):=f _ _ (by rw[Y.tg.dh];exact z) Y.dh
def Yd.hdF(Y:Yd C K P H c s tg)(f:XU T tg H H')(z:∀n,8<=n->¬T n):Xw C H' c.hs s.hd:=Y.hd.fr λx b a d o e=>by
 let{h,i}:=Y.tg.hd x b;rcases d with rfl|rfl
 .exact f _ _ (by rw[h];exact z _ (by unfold F3;ext)) e
 .exact f _ _ (by rw[i];exact z _ (by unfold QG;ext)) e
structure Sta(K:RP)(P:Pr)(H:Hp)(c:Ce):Prop where
 nm:∃kv,H c.dn=!(.dK kv)/\XE K H (λl:List VA=>l.map .str) kv P.nms
 dr:∃kv,H c.dd=!(.dK kv)/\XE K H (λl:List Int=>l.map .int) kv P.drw
 bd:∃kv,H c.db=!(.dK kv)/\XW K H kv c.pds P.cds
 to:∃vs,H c.to=!(.tup vs)/\XF K H vs (P.out.map Ot.D)
def Yd.am(Y:Yd C K P H c s tg)(f:XU T tg H H')(b:¬T 0)(z:¬T 2):Sta K P H' c:=by have k:=f.kt Y.tg b;let{d,h,i,j}:=Y.tg.st;let{n,p,q}:=Y.nm;let{r,u,v}:=Y.dr;let{x,y,A}:=Y.bd;let{B,E,F}:=Y.to;exact{{n,f _ _ (by rw[d];exact z) p,q.kt k},{r,f _ _ (by rw[h];exact z) u,v.kt k},{x,f _ _ (by rw[i];exact z) y,A.fr k λa G o e=>f _ _ (by rw[j a G];exact z) e},{B,k _ _ E,bO k F}}
theorem Tg.fr(g:Tg H c tg)(f:XU T tg H H')(o:∀a,T (tg a)->tg a≠0->∃o,H' a=!o/\nt o):Tg H' c tg:=⟨g.y,g.st,g.p,g.l,g.a,g.g,g.dh,g.hd,λa h=>by
 by_cases z:T (tg a);.exact o a z h
 .let{u,e,n}:=g.own a h;exact{u,f _ _ z e,n}⟩
end
end _K
namespace _L
open PySem
def G3{A:Type}(b:A->List V)(d:A->Hp->Prop)(c:A->Hp->V->Hp->Prop):Sp:=λf H Q _=>∃a,f=b a/\d a H/\∀v e,c a H v e->Q v e
section
variable{P:S9}{w:Td}{K:RP}{mg:VA->Option S5}{base:Heap}{A:Type}{args:A->List V}{pre:A->Hp->Prop}{post:A->Hp->V->Hp->Prop}{N ps:List VA}{k:Nat}{st:Stmt}
def eH.I(D:eH K C m q st ps)(j:jp K C)(n:au N ps (aj st))(hl:∀a,(args a).length=ps.length) (d:∀(a:A) (f:Tu) (c:S5) (e:Tj) (b:List Env) (s:S8) (H:Hp) (Q:VK) (E:XK),mm k (e.deeper (TR q (aj st) s.heap.objs.size f c))->pre a H->(∀v i,post a H v i->Q v i)->∃t,XM (fJ Yb P w K mg base N q (aj st) f c e b s H E).ay (cw st) t/\t {nx:=λ_ i=>Q V.non i,rt:=Q} (start N (args a)) H):
 Zz P w K mg base (k+1) C m ps (G3 args pre post):=by
 refine D.ok j n (λo H Q E h=>?_) (λf c e b s H o Q E r h=>?_);.let{a,rfl,_}:=h;exact hl a
 .let{a,rfl,p,q}:=h;exact d a f c e b s H Q E r p q
def hW.I(D:hW K mg x st ps)(j:au N ps (aj st))(hl:∀a,(args a).length=ps.length) (d:∀(a:A) (f:Tu) (c:S5) (e:Tj) (b:List Env) (s:S8) (H:Hp) (Q:VK) (E:XK),mm k (e.deeper (TR x (aj st) s.heap.objs.size f c))->pre a H->(∀v i,post a H v i->Q v i)->∃t,XM (fJ Yb P w K mg base N x (aj st) f c e b s H E).ay (cw st) t/\t {nx:=λ_ i=>Q V.non i,rt:=Q} (start N (args a)) H):
 _h P w K mg base (k+1) x ps (G3 args pre post):=by
 refine D.ok j (λn H Q E h=>?_) (λf c e b s H n Q E o h=>?_);.let{a,rfl,_}:=h;exact hl a
 .let{a,rfl,p,q}:=h;exact d a f c e b s H Q E o p q
end
end _L
#print z
section
variable{K:RP}{C:CA}{P:Pr}{H H':Hp}{c:Ce}{s:YS}{tg:Tu->Nat}{T:Nat->Prop}
theorem Da:"names"\(aS c s)=!(.ref c.dn):=rfl
theorem Db:"drawn"\(aS c s)=!(.ref c.dd):=rfl
theorem Bf:"places"\(aS c s)=!(.ref c.dp):=rfl
theorem Dc:"outer"\(aS c s)=!(.ref c.to):=rfl
theorem tH:"outer_done"\(aS c s)=!(.int s.done):=rfl
theorem Bg:"agenda"\(aS c s)=!(.ref c.ag):=rfl
theorem Dd:"goods"\(aS c s)=!(.ref c.g):=rfl
theorem De:"hands"\(aS c s)=!(.ref c.dh):=rfl
theorem Df:"begun"\(aS c s)=!(.int s.beg):=rfl
theorem JJ:"now"\(aS c s)=!(.int s.now):=rfl
theorem tI:"happenings"\(aS c s)=!(.int s.hap):=rfl
theorem tJ:"statements"\(aS c s)=!(.int s.stm):=rfl
theorem FR:"laid"\(aS c s)=!(.ref c.ll):=rfl
theorem zd:"stopped"\(aS c s)=!(c.sv):=rfl
theorem Dg:"codes"\(aS c s)=!(.ref c.db):=rfl
theorem tK{n:Nat}:bX "outer_done" (.int ((n:Nat):Int)) (aS c s)=aS c (s.S n):=rfl
theorem Dh{n:Nat}:bX "begun" (.int ((n:Nat):Int)) (aS c s)=aS c (s.az n):=rfl
theorem JK{n:Int}:bX "now" (.int n) (aS c s)=aS c (s.a0 n):=rfl
theorem tL{n:Int}:bX "happenings" (.int n) (aS c s)=aS c (s.ac n):=rfl
theorem tN{n:Int}:bX "statements" (.int n) (aS c s)=aS c (s.Q n):=rfl
theorem ze{n:V}:bX "stopped" (n) (aS c s)=aS (c.b3 n) s:=rfl
theorem JL:(aS c s).length<1000:=by show 15<1000;decide
theorem rn:"next_moment"\(aS c s)=none:=rfl
theorem oQ:"outer_is_next"\(aS c s)=none:=rfl
theorem FS:"step"\(aS c s)=none:=rfl
theorem wM:"do_outer"\(aS c s)=none:=rfl
theorem Di:"go_on"\(aS c s)=none:=rfl
theorem Bh:"moment"\(aS c s)=none:=rfl
theorem JM:"log"\(aS c s)=none:=rfl
theorem Bi:"logged"\(aS c s)=none:=rfl
theorem JN:"end"\(aS c s)=none:=rfl
theorem FT:"view"\(aS c s)=none:=rfl
theorem FU:"kept"\(aS c s)=none:=rfl
theorem Dj:"stand"\(aS c s)=none:=rfl
theorem JO:"lay"\(aS c s)=none:=rfl
theorem FV:"wake"\(aS c s)=none:=rfl
theorem Dk:"begin"\(aS c s)=none:=rfl
theorem wN:"end_hand"\(aS c s)=none:=rfl
theorem vt:"lay_given"\(aS c s)=none:=rfl
theorem mn:"enter_statement"\(aS c s)=none:=rfl
theorem zf:"stop_by"\(aS c s)=none:=rfl
theorem FW:"deed"\(aS c s)=none:=rfl
theorem FX:"wait"\(aS c s)=none:=rfl
theorem JP:"ask"\(aS c s)=none:=rfl
theorem FY:"give"\(aS c s)=none:=rfl
theorem FZ:"draw"\(aS c s)=none:=rfl
theorem LK:"do"\(aS c s)=none:=rfl
theorem oR:"worth_of_step"\(aS c s)=none:=rfl
theorem vv:"lay_worth"\(aS c s)=none:=rfl
theorem Dl:bX "outer_done" (.int ((s.done:Int)+1)) (aS c s)=aS c (s.S (s.done+1)):=rfl
theorem F0:bX "begun" (.int ((s.beg:Int)+1)) (aS c s)=aS c (s.az (s.beg+1)):=rfl
theorem JQ:(hdF n d kd).length<1000:=by show 4<1000;decide
theorem Bj{n:Int}{d:Hd}{a:Tu}:"number"\(hdF n d a)=!(.int n):=rfl
theorem F1{n:Int}{d:Hd}{a:Tu}:"name"\(hdF n d a)=!(.str d.nm):=rfl
theorem JR{n:Int}{d:Hd}{a:Tu}:"row"\(hdF n d a)=!(.int d.row):=rfl
theorem Dm{n:Int}{d:Hd}{a:Tu}:"known"\(hdF n d a)=!(.ref a):=rfl
theorem JS{n r:Int}{d:Hd}{a:Tu}:bX "row" (.int r) (hdF n d a)=hdF n (d.Y r) a:=rfl
def Tg.ba(g:Tg H c tg)(f:Nz cs H H')(n:∀a∈cs,∃o,H' a=!o/\nt o):Tg H' c tg:=⟨g.y,g.st,g.p,g.l,g.a,g.g,g.dh,g.hd,λa h=>by
 by_cases z:a∈cs;.exact n a z
 .let{u,e,q}:=g.own a h;exact{u,f _ _ z e,q}⟩
theorem Nz.t(f:Nz cs H H')(h:∀a∈cs,T (tg a)):XU T tg H H':=λa o n e=>f a o (λz=>n (h a z)) e
def oS(m:Mu H a o H'):Nz [a] H H':=λb u n e=>m.old e λz=>n (by rw[z];exact QX _)
def mT(m:Mu H a o H')(h:nt o):∀b∈[a],∃o,H' b=!o/\nt o:=λb d=>by rw[Xh d];exact{(o),m.at_,h}
def rA(m:Mu H a o H')(h:tg a=t):XU (· =t) tg H H':=(oS m).t λb d=>by rw[Xh d];exact h
theorem Yd.same(Y:Yd C K P H c s tg)(k:dA H H'):Yd C K P H' c s tg:=by have f:XU (λ_=>False) tg H H':=.same k;have z:∀n,¬(λ_:Nat=>False) n:=λ_ h=>h;have S:=Y.am f (z 0) (z 2);exact{Y.a3 f (z 1),S.nm,S.dr,S.bd,S.to,Y.a7 f (z 3),Y.a9 f (z 0) (z 5),Y.Z f (z 0) (z 6),Y.ts,Y.se,Y.bf f (z 7),Y.hdF f (λn _=>z n),Y.a8 f (z 0) (z 4),cr (Kt.of k) Y.sv,Y.tg.fr f λ_ h=>h.elim}
def cP(k:dA H H'):Gr H tg H' tg:=Gr.refl.same k
def Yd.a5(Y:Yd C K P H c s tg)(m:Mu H c.y (.ins C.y c.dx (aS c s')) H')(e:s'.pl=s.pl/\s'.ag=s.ag/\s'.ts=s.ts/\s'.ss=s.ss/\s'.hd=s.hd/\s'.lg=s.lg/\s'.st=s.st):Yd C K P H' c s' tg/\Gr H tg H' tg:=by
 have f:=rA m Y.tg.y;have z:¬(0=1):=by decide
 have S:=Y.am f z Xs;let{e1,e2,e3,a,b,d,i}:=e;refine{{m.at_,S.nm,S.dr,S.bd,S.to,?_,?_,Y.Z f z Xs,Y.ts.trans e3.symm,Y.se.trans a.symm,Y.bf f Xs,?_,?_,?_,Y.tg.ba (oS m) (mT m trivial)},f.gr z};.rw [e1];exact Y.a7 f Xs
 .rw [e2];exact Y.a9 f z Xs
 .rw [b];exact Y.hdF f λn h=>by ext
 .rw [d];exact Y.a8 f z Xs
 .rw [i];exact cr (f.kt Y.tg z) Y.sv
def Yd.bi(Y:Yd C K P H c s tg)(m:Mu H c.y (.ins C.y c.dx (aS (c.b3 v) s)) H')(a:Fz K H v (stD o)):Yd C K P H' (c.b3 v) (s.af o) tg/\Gr H tg H' tg:=by
 have f:=rA m Y.tg.y;have z:¬(0=1):=by decide
 have S:=Y.am f z Xs;have g:=Y.tg.ba (oS m) (mT m trivial);exact{{m.at_,S.nm,S.dr,S.bd,S.to,Y.a7 f Xs,Y.a9 f z Xs,Y.Z f z Xs,Y.ts,Y.se,Y.bf f Xs,Y.hdF f (λn h=>by ext),Y.a8 f z Xs,cr (f.kt Y.tg z) a,{(g.y),g.st,g.p,g.l,g.a,g.g,g.dh,g.hd,g.own}},f.gr z}
def Yd.setL(Y:Yd C K P H c s tg)(m:Mu H c.ll (.lst vs) H')(r:XF K H vs l):Yd C K P H' c (s.sLg l) tg/\Gr H tg H' tg:=by
 have f:=rA m Y.tg.l;have z:¬(0=4):=by decide
 have S:=Y.am f z Xs;exact{{Y.a3 f Xs,S.nm,S.dr,S.bd,S.to,Y.a7 f Xs,Y.a9 f z Xs,Y.Z f z Xs,Y.ts,Y.se,Y.bf f Xs,Y.hdF f (λn h=>by ext),{vs,m.at_,bO (f.kt Y.tg z) r},cr (f.kt Y.tg z) Y.sv,Y.tg.ba (oS m) (mT m trivial)},f.gr z}
def Yd.setP(Y:Yd C K P H c s tg)(m:Mu H c.dp (.dK (l.map λp=>(Sum.inr p.1,.int p.2))) H'):Yd C K P H' c (s.b2 l) tg/\Gr H tg H' tg:=by
 have f:=rA m Y.tg.p;have z:¬(0=3):=by decide
 have S:=Y.am f z Xs;exact{{Y.a3 f Xs,S.nm,S.dr,S.bd,S.to,m.at_,Y.a9 f z Xs,Y.Z f z Xs,Y.ts,Y.se,Y.bf f Xs,Y.hdF f (λn h=>by ext),Y.a8 f z Xs,cr (f.kt Y.tg z) Y.sv,Y.tg.ba (oS m) (mT m trivial)},f.gr z}
def zg(h:Ag.AO CL CH H b a l O):∀x∈[a,l],∃o,H x=!o/\nt o:=λx d=>by
 let{{i,fs,e},j,f}:=h.ins;simp only[RH,Q7,or_false]at d;rcases d with rfl|rfl
 .exact{_,e,trivial}
 .exact{_,f,trivial}
def Yd.bt(Y:Yd C K P H c s tg)(d:Nz [c.ag,c.al] H H')(a:Ag.AO C.l C.h H' c.kd c.ag c.al O):Yd C K P H' c (s.ad O) tg/\Gr H tg H' tg:=by
 have f:XU (· =5) tg H H':=d.t λb e=>by
  simp only[RH,Q7,or_false]at e;rcases e with rfl|rfl
  .exact Y.tg.a.1
  .exact Y.tg.a.2
 have z:¬(0=5):=by decide
 have S:=Y.am f z Xs;exact{{Y.a3 f Xs,S.nm,S.dr,S.bd,S.to,Y.a7 f Xs,a,Y.Z f z Xs,Y.ts,Y.se,Y.bf f Xs,Y.hdF f (λn h=>by ext),Y.a8 f z Xs,cr (f.kt Y.tg z) Y.sv,Y.tg.ba d (zg a)},f.gr z}
def EF(G:xk CG CT CS H g dt ds es ss):∀x∈g::dt::ds::(ml es++nj ss),∃o,H x=!o/\nt o:=λx a=>by
 let{{i,j},n,p,r,u,_}:=G;simp only[RH,List.mem_append]at a;rcases a with rfl|rfl|rfl|a|a
 .exact{_,j,trivial}
 .exact{_,n,trivial}
 .exact{_,p,trivial}
 .let{e,b,q}:=qX a;let{i,v,d,f,h,_}:=r e b;rcases q with rfl|rfl|rfl
  .exact{_,d,trivial}
  .exact{_,f,trivial}
  .exact{_,h,trivial}
 .let{e,b,q}:=xz a;let{i,y,z,d,f,_,h,_}:=u e b;rcases q with rfl|rfl|rfl
  .exact{_,d,trivial}
  .exact{_,f,trivial}
  .exact{_,h,trivial}
def Yd.setG(Y:Yd C K P H c s tg)(d:Nz (ml c.es++nj c.ss) H H')(G:xk C.g C.t C.s H' c.g c.dt c.ds es ss)(i:ml es=ml c.es)(j:nj ss=nj c.ss):Yd C K P H' (c.sG es ss) ((s.X (es.map λe=>(e.name,e.t))).ae (ss.map λe=>(e.name,e.s))) tg/\Gr H tg H' tg:=by
 have f:XU (· =6) tg H H':=d.t λb p=>Y.tg.g b (QM _ (QM _ (QM _ p)));have z:¬(0=6):=by decide
 have S:=Y.am f z Xs;have g:=Y.tg.ba d λx q=>EF G x (QM _ (QM _ (QM _ (by rw[i,j];exact q))));refine{{Y.a3 f Xs,S.nm,S.dr,S.bd,S.to,Y.a7 f Xs,Y.a9 f z Xs,G,rfl,rfl,Y.bf f Xs,Y.hdF f (λn h=>by ext),Y.a8 f z Xs,cr (f.kt Y.tg z) Y.sv,{g.y,g.st,g.p,g.l,g.a,λa o=>g.g a ?_,g.dh,g.hd,g.own}},f.gr z};unfold gcs at o⊢;rw[<-i,<-j];exact o
theorem Xw.nums{hs:List (Int×Tu×Tu)}(h:Xw C H hs ds):hs.map (·.1)=ds.map (·.1):=by
 induction h with
 |nil=>rfl
 |cons _ _ a=>simp_all
theorem Xw.get{hs:List (Int×Tu×Tu)}(h:Xw C H hs ds)(e:fT n ds=!d):∃b f,(n,b,f)∈hs/\YH C H n b f d:=by
 induction h with
 |nil=>cases e
 | @cons m b f q hs ds a r i=>
  unfold fT at e;by_cases z:m=n;.rw [Xf z]at e;cases e;subst z;exact{b,f,QO ..,a}
  .rw [Xe z]at e;let{o,k,j,p}:=i e;exact{o,k,QM _ j,p}
def vw:∀{ds:List (Int×Hd)},fT n ds=!d->(n,d)∈ds:=by
 intro ds;induction ds with
 |nil=>intro e;cases e
 |cons p r a=>
  intro e;unfold fT at e;by_cases z:p.1=n;.grind
  .simp_all
def rB:∀{hs:List (Int×Tu×Tu)},(hs.map (·.1)).Nodup->(n,ho,kd)∈hs->bc (hs.map λh=>((Sum.inl h.1:hH),V.ref h.2.1)) (Sum.inl n)=!(.ref ho):=by
 intro hs;induction hs with
 |nil=>simp_all
 |cons p r a=>
  intro nd h;rw[QU]at nd;let{b,d}:=List.nodup_cons.mp nd;unfold bc;rw[QU];by_cases z:p.1=n
  .rw [List.find?_cons_of_pos (~~~z)];rcases Xi h with e|e;.rw [<-e];rfl
   .exact absurd (List.mem_map.mpr {_,e,rfl}) (z▸b)
  .rw [List.find?_cons_of_neg (~~~z)];rcases Xi h with e|e;.rw [<-e]at z;exact absurd rfl z
   .exact a d e
structure HN(ds:List (Int×Hd)):Prop where
 nd:(ds.map (·.1)).Nodup
 ps:∀p∈ds,1<=p.1/\p.1<=60
theorem Bk(a:1<=m)(b:1<=n)(ne:m≠n):F3 m≠F3 n/\QG m≠QG n:=by unfold F3 QG;ext
theorem tZ:F3 m≠QG n/\QG m≠F3 n:=by unfold F3 QG;ext
theorem Xw.set{hs:List (Int×Tu×Tu)}(h:Xw C H hs ds)(nd:(hs.map (·.1)).Nodup)(f:(n,ho,kd)∈hs)(k:∀x∈hs,x.1≠n->∀a,a=x.2.1\/a=x.2.2->∀o,H a=!o->H' a=!o)(q:YH C H' n ho kd d'):Xw C H' hs (setH n d' ds):=by
 induction h with
 |nil=>cases f
 | @cons m u v d hs ds a r j=>
  let{i,p}:=List.nodup_cons.mp nd;unfold setH;by_cases z:m=n
  .rw [Xf z];subst z;rcases Xi f with e|e
   .cases e;exact .cons q (r.fr λx b=>k x (QM _ b) λz=>i (z▸List.mem_map.mpr {(x),b,rfl}))
   .exact absurd (List.mem_map.mpr {_,e,rfl}) i
  .rw [Xe z];rcases Xi f with e|e;.grind
   .exact .cons (a.fr (k _ (QO ..) z _ (.inl rfl)) (k _ (QO ..) z _ (.inr rfl))) (j p e λx b=>k x (QM _ b))
theorem Xw.drop{hs:List (Int×Tu×Tu)}(n:Int)(h:Xw C H hs ds)(k:∀x∈hs,∀a,a=x.2.1\/a=x.2.2->∀o,H a=!o->H' a=!o):Xw C H' (hs.filter λx=>decide (x.1≠n)) (ds.filter λp=>decide (p.1≠n)):=by
 induction h with
 |nil=>exact .nil
 | @cons m f i d hs ds a r b=>
  have b:=b λx e=>k x (QM _ e);by_cases z:m=n;.rw [List.filter_cons_of_neg (~~~z),List.filter_cons_of_neg (~~~z)];exact b
  .rw [List.filter_cons_of_pos (~~~z),List.filter_cons_of_pos (~~~z)];exact .cons (a.fr (k _ (QO ..) _ (.inl rfl)) (k _ (QO ..) _ (.inr rfl))) b
def Xw.snoc{hs:List (Int×Tu×Tu)}(h:Xw C H hs ds)(q:YH C H n ho kd d):Xw C H (hs++[(n,ho,kd)]) (ds++[(n,d)]):=by
 induction h with
 |nil=>exact .cons q .nil
 |cons a _ b=>exact .cons a b
def Yd.num(Y:Yd C K P H c s tg)(N:HN s.hd)(h:x∈c.hs):1<=x.1/\x.1<=60:=by have:x.1∈c.hs.map (·.1):=List.mem_map.mpr {(x),h,rfl};rw[Y.hd.nums]at this;let{p,a,e}:=Xl this;rw[<-e];exact N.ps p a
theorem Yd.nd(Y:Yd C K P H c s tg)(N:HN s.hd):(c.hs.map (·.1)).Nodup:=by rw[Y.hd.nums];exact N.nd
theorem Yd.setH(Y:Yd C K P H c s tg)(N:HN s.hd)(i:(n,ho,kd)∈c.hs)(j:Nz [ho,kd] H H')(q:YH C H' n ho kd d'):Yd C K P H' c (s.R (_K.setH n d' s.hd)) tg/\Gr H tg H' tg:=by
 have t:=Y.tg.hd _ i;have f:XU (λt=>t=F3 n\/t=QG n) tg H H':=j.t λb p=>by
  simp only[RH,Q7,or_false]at p;rcases p with rfl|rfl
  .exact .inl t.1
  .exact .inr t.2
 have z:∀m,m<8->¬(m=F3 n\/m=QG n):=λm h=>by unfold F3 QG;ext
 have S:=Y.am f (z 0 Xs) (z 2 Xs);let{{B,y},A}:=id q;refine{{Y.a3 f (z 1 Xs),S.nm,S.dr,S.bd,S.to,Y.a7 f (z 3 Xs),Y.a9 f (z 0 Xs) (z 5 Xs),Y.Z f (z 0 Xs) (z 6 Xs),Y.ts,Y.se,Y.bf f (z 7 Xs),Y.hd.set (Y.nd N) i (λx r ne a d o e=>?_) q,Y.a8 f (z 0 Xs) (z 4 Xs),cr (f.kt Y.tg (z 0 Xs)) Y.sv,Y.tg.ba j λa d=>?_},f.gr (z 0 Xs)}
 .have u:=Y.tg.hd x r;have v:=Bk (Y.num N r).1 (Y.num N i).1 ne;refine f a o ?_ e;rcases d with rfl|rfl
  .rw [u.1];exact λh=>h.elim v.1 tZ.1
  .rw [u.2];exact λh=>h.elim tZ.2 v.2
 .simp only[RH,Q7,or_false]at d;rcases d with rfl|rfl;.exact{_,y,trivial}
  .exact{_,A,trivial}
def Yd.addH(Y:Yd C K P H c s tg)(k:dA H H1)(q:YH C H1 n ho kd d)(B:H ho=none)(E:H kd=none)(m:Mu H1 c.dh (.dK (c.hs.map (λh=>(Sum.inl h.1,V.ref h.2.1))++[(Sum.inl n,.ref ho)])) H'):Yd C K P H' (c.b4 (c.hs++[(n,ho,kd)])) (s.R (s.hd++[(n,d)])) (λa=>if a=ho then F3 n else if a=kd then QG n else tg a)/\Gr H tg H' (λa=>if a=ho then F3 n else if a=kd then QG n else tg a):=by
 have b:=Y.same k;let{{I,F},G}:=id q;have ne:ho≠kd:=λz=>by rw[z,G]at F;cases F
 have f:=rA m b.tg.dh;have z:¬(0=7):=by decide
 have S:=b.am f z Xs;have g:=b.tg.ba (oS m) (mT m trivial);have o:∀a,tg a≠0->a≠ho/\a≠kd:=λa h=>by let{u,e,_}:=Y.tg.own a h;exact{λz=>(by rw[z,B]at e;cases e),λz=>(by rw[z,E]at e;cases e)}
 have t:∀a v,tg a=v->v≠0->(if a=ho then F3 n else if a=kd then QG n else tg a)=v:=λa v h J=>by have:=o a (by rw[h];exact J);rw[Xe this.1,Xe this.2];exact h
 have j:ho≠c.dh:=λz=>by rw[z,Y.dh]at B;cases B
 have p:kd≠c.dh:=λz=>by rw[z,Y.dh]at E;cases E
 have M:YH C H' n ho kd d:={{I,m.old F j},m.old G p}
 refine{{b.a3 f Xs,S.nm,S.dr,S.bd,S.to,b.a7 f Xs,b.a9 f z Xs,b.Z f z Xs,b.ts,b.se,?_,(b.hdF f (λn h=>by ext)).snoc M,b.a8 f z Xs,cr (f.kt b.tg z) b.sv,{t _ _ g.y Xs,{t _ _ g.st.1 Xs,t _ _ g.st.2.1 Xs,t _ _ g.st.2.2.1 Xs,λa i=>t _ _ (g.st.2.2.2 a i) Xs},t _ _ g.p Xs,t _ _ g.l Xs,{t _ _ g.a.1 Xs,t _ _ g.a.2 Xs},λa i=>t _ _ (g.g a i) Xs,t _ _ g.dh Xs,λx r=>?_,λa i=>?_}},{λa u h e=>m.old (k _ _ e) λz=>(by rw[z,Y.tg.dh]at h;cases h),λa i=>?_}};.show H' c.dh=!(.dK ((c.hs++[(n,ho,kd)]).map λh=>(Sum.inl h.1,V.ref h.2.1)));rw[QT];exact m.at_
 .rcases Xk r with r|r
  .let{N,O}:=g.hd x r;exact{t _ _ N (by unfold F3;ext),t _ _ O (by unfold QG;ext)}
  .rw [Xh r];exact{Xf rfl,by rw[Xe ne.symm,Xf rfl]}
 .by_cases y:a=ho
  .rw [y];exact{_,m.old F j,trivial}
  .by_cases A:a=kd
   .rw [A];exact{_,m.old G p,trivial}
   .rw [Xe y,Xe A]at i;exact g.own a i
 .by_cases y:a=ho
  .exact .inr (y▸B)
  .by_cases A:a=kd
   .exact .inr (A▸E)
   .have i:(if a=ho then F3 n else if a=kd then QG n else tg a)≠0:=i;rw[Xe y,Xe A]at i;exact .inl i
def Yd.delH(Y:Yd C K P H c s tg)(N:HN s.hd)(hn:1<=n)(m:Mu H c.dh (.dK ((c.hs.filter λx=>decide (x.1≠n)).map λh=>(Sum.inl h.1,V.ref h.2.1))) H'):Yd C K P H' (c.b4 (c.hs.filter λx=>decide (x.1≠n))) (s.R (s.hd.filter λp=>decide (p.1≠n))) (λa=>if tg a=F3 n\/tg a=QG n then 0 else tg a)/\Gr H tg H' (λa=>if tg a=F3 n\/tg a=QG n then 0 else tg a):=by
 have f:=rA m Y.tg.dh;have z:¬(0=7):=by decide
 have S:=Y.am f z Xs;have g:=Y.tg.ba (oS m) (mT m trivial);have t:∀a v,tg a=v->v≠F3 n->v≠QG n->(if tg a=F3 n\/tg a=QG n then 0 else tg a)=v:=λa v h i r=>by rw[Xe (λq=>q.elim (λe=>i (h.symm.trans e)) λe=>r (h.symm.trans e))];exact h
 have y:∀v,v<8->v≠F3 n/\v≠QG n:=λv h=>by unfold F3 QG;ext
 have b:=λa v h i=>t a v h (y v i).1 (y v i).2;refine{{Y.a3 f Xs,S.nm,S.dr,S.bd,S.to,Y.a7 f Xs,Y.a9 f z Xs,Y.Z f z Xs,Y.ts,Y.se,m.at_,Y.hd.drop n λx j a d o e=>?_,Y.a8 f z Xs,cr (f.kt Y.tg z) Y.sv,{b _ _ g.y Xs,{b _ _ g.st.1 Xs,b _ _ g.st.2.1 Xs,b _ _ g.st.2.2.1 Xs,λa d=>b _ _ (g.st.2.2.2 a d) Xs},b _ _ g.p Xs,b _ _ g.l Xs,{b _ _ g.a.1 Xs,b _ _ g.a.2 Xs},λa d=>b _ _ (g.g a d) Xs,b _ _ g.dh Xs,λx j=>?_,λa d=>g.own a λe=>d ?_}},{λa u h e=>f a u (by rw[h];decide) e,λa d=>.inl λe=>d ?_}}
 .let{i,r}:=Y.tg.hd x j;rcases d with rfl|rfl;.exact f _ _ (by rw[i];unfold F3;ext) e
  .exact f _ _ (by rw[r];unfold QG;ext) e
 .let{j,ne}:=List.mem_filter.mp j;have ne:x.1≠n:= ~~~ne;let{i,r}:=g.hd x j;have q:=Bk (Y.num N j).1 hn ne;exact{t _ _ i q.1 tZ.1,t _ _ r tZ.2 q.2}
 .lia
 .simp_all
end
end _K
def _L.rdX : String := " _L.xo _L.Ex _L.EA _L.EB _L.Ew _L.Ey _L.Ia _L.uP _L.AV _L.AU _K.Da _K.Db _K.Bf _K.Dc _K.tH _K.Bg _K.Dd _K.De _K.Df _K.JJ _K.tI _K.tJ _K.FR _K.zd _K.Dg _K.tK _K.Dh _K.JK _K.tL _K.tN _K.ze _K.JL _K.rn _K.oQ _K.FS _K.wM _K.Di _K.Bh _K.JM _K.Bi _K.JN _K.FT _K.FU _K.Dj _K.JO _K.FV _K.Dk _K.wN _K.vt _K.mn _K.zf _K.FW _K.FX _K.JP _K.FY _K.FZ _K.LK _K.oR _K.vv _K.Dl _K.F0 _K.JQ _K.Bj _K.F1 _K.JR _K.Dm _K.JS"
local macro_rules
  | `(tactic| walk_at "rz") => _L.wa _L.rdX (_L.YV ++ " lazyAll")
  | `(tactic| walk_at "ry") => _L.wb _L.rdX (_L.Ze ++ " lazyAll")
#print z
structure Gy where
 P:Pr
 c:Ce
 s:YS
 tg:Tu->Nat
def Yp(C:CA)(K:RP)(g:Gy)(H c:Hp)(s':YS):Prop:=∃b a,b.y=g.c.y/\Yd C K g.P c b s' a/\Gr H g.tg c a/\∀x∈g.c.hs,(∃d,(x.1,d)∈s'.hd)->x∈b.hs
def YJ(C:CA)(K:RP){B:Type}(b:B->List V)(c:B->Gy->Hp->Prop)(r:B->Gy->V)(f:B->Gy->YS):Sp:=G3 (A:=B×Gy) (λa=>.ref a.2.c.y::b a.1) (λa H=>Yd C K a.2.P H a.2.c a.2.s a.2.tg/\c a.1 a.2 H) (λa H v d=>v=r a.1 a.2/\Yp C K a.2 H d (f a.1 a.2))
#print c
theorem Yp.one(k:dA H H1)(h:Yd C K g.P H' c' s' g.tg/\Gr H1 g.tg H' g.tg)(e:c'.y=g.c.y)(e2:c'.hs=g.c.hs):Yp C K g H H' s':={c',g.tg,e,h.1,(cP k).trans h.2,λx a _=>by rw[e2];exact a}
theorem Yp.nil(Y:Yd C K g.P H g.c g.s g.tg)(k:dA H H'):Yp C K g H H' g.s:={g.c,g.tg,rfl,Y.same k,cP k,λx a _=>a}
def ai(k:dA H H1)(b:dA H1 H'):dA H H':=λa o h=>b _ _ (k _ _ h)
def eO:16000020<=S6:=by decide
theorem aX(h:jk K H vs ds):vs.length=ds.length:=by
 induction vs generalizing ds with
 |nil=>cases h;rfl
 |cons v vs c=>cases h with|cons a b=>rw[QP,QP,c b]
def bN(h:p)(x:X): @ite Prop p d X Y:=by simp_all
def bp(h:¬p)(y:Y): @ite Prop p d X Y:=by simp_all
def iB(C:CA)(K:RP):Sp:=YJ C K (B:=Int×Tu×List V×List Ta) (λb=>[.int b.1,.ref b.2.1]) (λb g H=>H b.2.1=!(.tup b.2.2.1)/\XF K H b.2.2.1 b.2.2.2/\(b.2.2.1≠[]/\b.2.2.1.length<=20)/\g.s.lg.length<16000000) (λ_ _=>.non) (λb g=>g.s.lay b.1 b.2.2.2)
def JT(D:eH K C.y "lay" "Yard.lay" qc ["self","number","words"])(e:jp K C.y)(u:cD K C.y "now")(v:cD K C.y "laid"):%[1,C.y,"lay",["number","words"]|iB C K]:=by exists D.I e wK;let{{n,wa,x,M},g}:=a;dsimp only at p q⊢;let{Y,y,B,{i,F},N}:=p;let{vs,G,r}:=Y.lg;have O:=aX r;have R:=Y.obj;exists _,(ae (av (a8 (ah e v (pv 0)) (aM wV (am (ay (ah e u (pv 0)) (pv 1))) (pv 2)))));symm;intro I S T c e1;have j:=c _ _ y;have o:=c _ _ G;symm;refine{I,wa,_,_,rfl,rfl,qu.of e1,qu.of j,by simp,Xn (Nat.add_le_add_left F 2) (by unfold S6;decide),λz=>absurd z i,λ_ U J=>?_};have d:=aU J (.tup ([.int g.s.now,.int n]++x));have b:=eO;refine{vs,d _ _ o,by ext,λW m=>q _ _ {rfl,Yp.one (ai c d) ((Y.same (ai c d)).setL m (eM (bO (Kt.of (ai c d)) r) (.cons (.tup (bP aA) (.cons (.int _) (.cons (.int _) (bO (Kt.of (ai c d)) B)))) .nil))) rfl rfl}}
def t7(A:Ag.AO CL CH H b a l O)(f:∀v:V,List.lookup (α:=VA) m [("things",v)]=none)(h:∀v u:V,List.lookup m [("heap",v),("turn",u)]=none)(x:b=true->X)(y:b=false->Y):(∃c fs,H a=!(.ins CL c fs)/\fs.lookup m=none/\X)\/∃c fs,H a=!(.ins CH c fs)/\fs.lookup m=none/\Y:=by
 obtain⟨kt,ok,⟨e,c,i,j,d,_⟩|⟨e,n,c,i,d,_⟩,_⟩:=A;.exact .inl {c,_,d,f _,x e}
 .exact .inr {c,_,d,h _ _,y e}
section
variable{CL CH:Tu}{H:Hp}{b:Bool}{a l:Tu}{O:List (Int×Int)}{Q:VK}{E:XK}{m x:Int}
def JU(kt:List Ag.Kt):∃t,∀e∈kt,e.t<t:=by
 induction kt with
 |nil=>simp_all
 |cons k r c=>
  let{t,h}:=c;refine{if t<k.t+1 then k.t+1 else t,λe d=>?_};rcases Xi d with z|z
  .subst z;split<;>ext
  .have:=h e z;split<;>ext
def gZ(A:Ag.AO CL CH H b a l O):∃kt ok,((b=true/\Ag._M CL H a l kt)\/(b=false/\∃e,Ag.HA CH H a l e kt))/\Ag.Yf kt/\Ag.Xx kt ok/\ok.map Ag.prO=O/\kt.length=O.length:=by let{kt,ok,f,h,c,d}:=A;exact{kt,ok,f,h,c,d,by rw[<-d,QL];exact c.1.length_eq.symm}
def F5(A:Ag.AO CL CH H b a l O)(j:b=true)(hl:O.length<=900)(k:∀c,Nz [a,l] H c->Ag.AO CL CH c b a l (Ag.XV O m x)->Q .non c):Ag.Q1 CL [.ref a,.int m,.int x] H Q E:=by
 let{kt,ok,d,n,o,rfl,e}:=gZ A;subst j;rcases d with ⟨_,d⟩|⟨z,_⟩
 .let{t,i}:=JU kt;exact{a,l,m,x,t,kt,rfl,d,i,by ext,λc f h=>k c f.g (Ag.AO.put (.inl {(rfl),h}) n o i)}
 .cases z
def F6(A:Ag.AO CL CH H b a l O)(i:b=false)(hl:O.length<=900)(k:∀c,Nz [a,l] H c->Ag.AO CL CH c b a l (Ag.XV O m x)->Q .non c):Ag.QF CH [.ref a,.int m,.int x] H Q E:=by
 let{kt,ok,d,j,n,rfl,e}:=gZ A;subst i;rcases d with ⟨z,_⟩|⟨_,o,d⟩
 .cases z
 .let{r,u,_,_,_,_,p}:=id d;exact{a,l,m,x,o,kt,rfl,d,by ext,λc f h=>k c f.g (Ag.AO.put (.inr {rfl,_,h}) j n λe q=>by have:=p e q;ext)}
def mr(O:List (Int×Int)):V:=match O with
 |[]=>.non
 |p::_=>.int p.1
theorem Bl(ok:List Ag.Kt):Ag.Z9 ok=mr (ok.map Ag.prO):=by cases ok<;>rfl
def F7(A:Ag.AO CL CH H b a l O)(d:b=true)(k:Q (mr O) H):Ag.XN CL [.ref a] H Q E:=by
 let{kt,ok,c,j,f,rfl,e}:=gZ A;subst d;rcases c with ⟨_,c⟩|⟨z,_⟩
 .exact{a,l,kt,rfl,c,λh i=>by rw[i.uniq f,Bl];exact k}
 .cases z
def F8(A:Ag.AO CL CH H b a l O)(d:b=false)(k:Q (mr O) H):Ag.XI CH [.ref a] H Q E:=by
 let{kt,ok,c,i,f,rfl,e}:=gZ A;subst d;rcases c with ⟨z,_⟩|⟨_,h,c⟩
 .cases z
 .exact{a,l,h,kt,ok,rfl,c,f,by rw[Bl];exact k}
def Dn(A:Ag.AO CL CH H b a l O)(v:b=true)(y:O=(m,x)::r)(hl:O.length<=900)(k:∀c p,Nz [a,l] H c->Ag.AO CL CH c b a l r->c p=!(.tup [.int m,.int x])->Q (.ref p) c):Ag.XA CL [.ref a] H Q E:=by
 let{kt,ok,j,d,n,q,e}:=gZ A;subst v;cases ok with
 |nil=>simp_all
 |cons o ok=>
  let{i,u}:=Ag.Zi d n;rw[y]at q;injection q with e1 e2;let{J,e3,B}:=n.take d u;injection e3 with _ e3;subst e3;have F:o.m=m:=congrArg Prod.fst e1;have G:o.x=x:=congrArg Prod.snd e1;rcases j with ⟨_,j⟩|⟨z,_⟩
  .exact{a,l,kt,i,o,rfl,j,d,u,by ext,λc p f h I=>k c p f.g {_,_,.inl {(rfl),h},(List.Pairwise.sublist (List.eraseIdx_sublist ..) d),B,e2} (by rw[<-F,<-G];exact I)}
  .cases z
def Do(A:Ag.AO CL CH H b a l O)(v:b=false)(y:O=(m,x)::r)(hl:O.length<=900)(k:∀c p,Nz [a,l] H c->Ag.AO CL CH c b a l r->c p=!(.tup [.int m,.int x])->Q (.ref p) c):Ag.XC CH [.ref a] H Q E:=by
 let{kt,ok,j,d,n,q,e}:=gZ A;subst v;cases ok with
 |nil=>simp_all
 |cons o ok=>
  let{i,u}:=Ag.Zi d n;rw[y]at q;injection q with e1 e2;let{M,e3,B}:=n.take d u;injection e3 with _ e3;subst e3;have F:o.m=m:=congrArg Prod.fst e1;have G:o.x=x:=congrArg Prod.snd e1;rcases j with ⟨z,_⟩|⟨_,I,j⟩
  .cases z
  .exact{a,l,I,kt,i,o,rfl,j,d,u,by ext,λc p f h J=>k c p f.g {_,_,.inr {rfl,_,h},(List.Pairwise.sublist (List.eraseIdx_sublist ..) d),B,e2} (by rw[<-F,<-G];exact J)}
def EG{ok:List Ag.Kt}(h:Ag.HL H' r c)(e:c.map (·.2)=ok.map Ag.Yg):∃vs,H' r=!(.lst vs)/\N0 H' vs (ok.map Ag.prO):=by
 exists _,h.1;have d:=h.2;clear h;induction c generalizing ok with
 |nil=>cases ok with
  |nil=>exact .nil
  |cons o ok=>cases e
 |cons q c f=>cases ok with
  |nil=>cases e
  |cons o ok=>rw[QU]at e;injection e with e1 e2;have:=d q (QO ..);rw[e1]at this;exact .cons this (f e2 λq i=>d q (QM _ i))
def F9(A:Ag.AO CL CH H b a l O)(h:b=true)(k:∀r c vs,H r=none->dA H c->c r=!(.lst vs)->N0 c vs O->Q (.ref r) c):Ag.Ya CL [.ref a] H Q E:=by
 let{kt,ok,d,y,i,rfl,e}:=gZ A;subst h;rcases d with ⟨_,d⟩|⟨z,_⟩
 .refine{a,l,kt,rfl,d,λr c j n o p g q f=>?_};rw[o.uniq i]at f;let{vs,u,v}:=EG q f;exact k r c vs p g u v
 .cases z
def Ga(A:Ag.AO CL CH H b a l O)(h:b=false)(hl:O.length<64)(k:∀r c vs,H r=none->dA H c->c r=!(.lst vs)->N0 c vs O->Q (.ref r) c):Ag.X5 CH [.ref a] H Q E:=by
 let{kt,ok,d,i,j,rfl,e}:=gZ A;subst h;rcases d with ⟨z,_⟩|⟨_,n,d⟩
 .cases z
 .refine{a,l,n,kt,rfl,d,i,Q4 (by (ext):kt.length<64) (by unfold SN;decide),λr c o p q u g v f=>?_};rw[q.uniq j]at f;let{vs,y,B}:=EG v f;exact k r c vs u g y B
variable{E':XK}
def vx(A:Ag.AO CL CH H b a l O)(k:Q (mr O) H):(∃c fs,H a=!(.ins CL c fs)/\List.lookup (α:=VA) "first" fs=none/\Ag.XN CL [.ref a] H Q E)\/∃c fs,H a=!(.ins CH c fs)/\List.lookup (α:=VA) "first" fs=none/\Ag.XI CH [.ref a] H Q E':=t7 A (λ_=>rfl) (λ_ _=>rfl) (λe=>F7 A e k) λe=>F8 A e k
def vy{t:TA}(A:Ag.AO CL CH H b a l O)(f:∀R:List V->Hp->Prop,R [.int m,.int x] H->t σ H R)(hl:O.length<=900)(k:∀c,Nz [a,l] H c->Ag.AO CL CH c b a l (Ag.XV O m x)->Q .non c):(∃d fs,H a=!(.ins CL d fs)/\List.lookup (α:=VA) "put" fs=none/\t σ H λvs H2=>Ag.Q1 CL (.ref a::vs) H2 Q E)\/∃d fs,H a=!(.ins CH d fs)/\List.lookup (α:=VA) "put" fs=none/\t σ H λvs H2=>Ag.QF CH (.ref a::vs) H2 Q E':=t7 A (λ_=>rfl) (λ_ _=>rfl) (λe=>f _ (F5 A e hl k)) λe=>f _ (F6 A e hl k)
def Gc(A:Ag.AO CL CH H b a l O)(f:O=(m,x)::r)(hl:O.length<=900)(k:∀c p,Nz [a,l] H c->Ag.AO CL CH c b a l r->c p=!(.tup [.int m,.int x])->Q (.ref p) c):(∃d fs,H a=!(.ins CL d fs)/\List.lookup (α:=VA) "take" fs=none/\Ag.XA CL [.ref a] H Q E)\/∃d fs,H a=!(.ins CH d fs)/\List.lookup (α:=VA) "take" fs=none/\Ag.XC CH [.ref a] H Q E':=t7 A (λ_=>rfl) (λ_ _=>rfl) (λe=>Dn A e f hl k) λe=>Do A e f hl k
def JV(A:Ag.AO CL CH H b a l O)(hl:O.length<64)(k:∀r c vs,H r=none->dA H c->c r=!(.lst vs)->N0 c vs O->Q (.ref r) c):(∃d fs,H a=!(.ins CL d fs)/\List.lookup (α:=VA) "in_order" fs=none/\Ag.Ya CL [.ref a] H Q E)\/∃d fs,H a=!(.ins CH d fs)/\List.lookup (α:=VA) "in_order" fs=none/\Ag.X5 CH [.ref a] H Q E':=t7 A (λ_=>rfl) (λ_ _=>rfl) (λe=>F9 A e k) λe=>Ga A e hl k
end
def ZU(C:CA)(K:RP)(a:Gy->Prop)(r:Gy->V):Sp:=G3 (A:=Gy) (λg=>[.ref g.c.y]) (λg H=>Yd C K g.P H g.c g.s g.tg/\a g) (λg H v b=>v=r g/\b=H)
def oT:Option Int->V
 |none=>.non
 |some i=>.int i
def vz(h:jk K H vs ds){i:Nat}(e:ds[i]? =!d):∃v,vs[i]? =!v/\Rp K H v d:=by
 induction vs generalizing ds i with
 |nil=>cases h;cases e
 |cons v vs c=>cases h with
  |cons a b=>cases i with
   |zero=>simp_all
   |succ i=>rw[List.getElem?_cons_succ]at e⊢;exact c b e
def atN{xs:List α}{i:Nat}{v:α}(h:xs[i]? =!v):NB xs (i:Int)=!v:=by unfold NB YM;have:=(Xj h).1;rw[Xf Xu,Xf Xu];simpa using h
def Yd.bu{g:Gy}(Y:Yd C K g.P H g.c g.s g.tg)(h:g.P.out[g.s.done]? =!o):∃vs a xs,H g.c.to=!(.tup vs)/\vs[g.s.done]? =!(.ref a)/\H a=!(.tup (.int o.m::xs))/\Rp K (tp H) (.ref a) o.D:=by
 let{vs,d,r}:=Y.to;let{v,f,c}:=vz r (i:=g.s.done) (by rw[QY,h];rfl);have j:=c;cases o with
 |start m p xs=>
  cases c with
  |tup e q=>
   cases q with
   |cons a b=>cases a;let{u,e1,e2}:=jV e;cases e1;exact{vs,_,_,d,f,e2,j}
 |bring m p n=>
  cases c with
  |tup e q=>
   cases q with
   |cons a b=>cases a;let{u,e1,e2}:=jV e;cases e1;exact{vs,_,_,d,f,e2,j}
def zh(D:eH K C.y "outer_is_next" "Yard.outer_is_next" fQ ["self"])(b:jp K C.y)(d:cD K C.y "outer_done")(h:cD K C.y "outer")(v:cD K C.y "agenda")(x:%[1,C.l,"first",[]|Ag.XN C.l])(y:%[1,C.h,"first",[]|Ag.XI C.h])(B:mg "len" =none):%[2,C.y,"outer_is_next",[]|ZU C K (λg=>g.s.done<=g.P.out.length) λg=>.bl (g.s.H g.P)]:=by
 refine D.I b fF (λ_=>rfl) λg f F A c R H Q E G p q=>?_;let{Y,S}:=p;have T:=Y.obj;let{U,I,J}:=Y.to;have M:=aX J;rw[QL]at M;exists _,(aa (aH (aK a7 (ah b d (pv 0)) (fL sB rfl B TV (aD (ah b h (pv 0))))) (ae (aw cX)) aE) (aa (aT 1 fF (iA x y G (ah b v (pv 0)))) (ae (aw (D9 (kC uo (pv 1) cv) (zZ (kC tR (ar (ar (ah b h (pv 0)) (ah b d (pv 0))) ac) (pv 1))))))));symm;by_cases e:(g.s.done:Int)=g.P.out.length;.rw [Xf e];refine q _ _ {?_,rfl};have z:g.P.out[g.s.done]? =none:=List.getElem?_eq_none Xu;show V.bl false=V.bl (g.s.H g.P);unfold YS.H;rw[z]
 obtain⟨o,i⟩:∃o,g.P.out[g.s.done]? =!o:={_,QV Xu}
 let{N,a,W,j,O,X,Z}:=Y.bu i;rw[I]at j;cases j;have oi:=atN O;symm;apply vx Y.ag;have u:g.s.H g.P=(match mr g.s.ag with|.int m=>decide (o.m<=m) | _=>true):=by unfold YS.H YS.first mr;rw[i];cases g.s.ag<;>rfl
 cases n:g.s.ag with
 |nil=>rw[n]at u;symm;exact q _ _ {congrArg V.bl u.symm,rfl}
 |cons p r=>rw[n]at u;symm;rw[Xe (λz=>by cases z),show mr (p::r)=.int p.1 from rfl];symm;exact q _ _ {congrArg V.bl u.symm,rfl}
theorem jW(h:Fz K H v (stD o)):decide (v=.non)=o.isNone:=by
 cases o with
 |none=>cases h;rfl
 |some a=>cases h with|tup e r=>rfl
def Gd(D:eH K C.y "next_moment" "Yard.next_moment" gY ["self"])(b:jp K C.y)(n:cD K C.y "stopped")(r:cD K C.y "outer_done")(x:cD K C.y "outer")(y:cD K C.y "agenda")(B:%[2,C.y,"outer_is_next",[]|ZU C K (λg=>g.s.done<=g.P.out.length) λg=>.bl (g.s.H g.P)])(F:%[1,C.l,"first",[]|Ag.XN C.l])(G:%[1,C.h,"first",[]|Ag.XI C.h]):%[3,C.y,"next_moment",[]|ZU C K (λg=>g.s.done<=g.P.out.length) λg=>oT (g.s.next g.P)]:=by
 refine D.I b kW (λ_=>rfl) λg f I A d O H Q E h p q=>?_;let{Y,J}:=p;have R:=Y.obj;have M:=Y.sv;have u:∀v,oT (g.s.next g.P)=v->Q v H:=λv e=>q _ _ {(e.symm),rfl};exists _,(aa (aH (aK qG (ah b n (pv 0)) cv) (ae (aw cv)) aE) (aa (aH (gK (bL B h (pv 0))) (ae (aw (ar (ar (ah b x (pv 0)) (ah b r (pv 0))) ac))) aE) (ae (aw (iA F G h (ah b y (pv 0)))))));symm;rw[jW M];cases es:g.s.st with
 |some S=>apply bN rfl;exact u _ (by unfold YS.next;rw[es];rfl)
 |none=>
  apply bp eq;symm;refine{g,rfl,{(Y),J},λv T e=>?_};let{rfl,rfl}:=e;symm;have i:g.s.next g.P=if g.s.H g.P=true then(g.P.out[g.s.done]?).map Ot.m else g.s.first:=by unfold YS.next;rw[es];rfl
  cases c:g.s.H g.P with
  |true=>
   obtain⟨o,j⟩:∃o,g.P.out[g.s.done]? =!o:=by
    cases z:g.P.out[g.s.done]? with
    |none=>unfold YS.H at c;rw[z]at c;cases c
    |some o=>grind
   let{U,a,W,X,N,Z,o4}:=Y.bu j;have oi:=atN N;apply bN rfl;symm;exact u _ (by rw[i,c,j];rfl)
  |false=>apply bp eq;symm;apply vx Y.ag;apply u _;rw[i,c,Xe eq];unfold YS.first mr;cases g.s.ag<;>rfl
end
inductive XQ (H:Hp):List V->List Sv->Prop
 |nil:XQ H [] []
 |cons {p:Tu} {i:Sv} {vs:List V} {l:List Sv}:H p=!(.tup [.int i.1,.str i.2.1,.int i.2.2])->XQ H vs l->XQ H (.ref p::vs) (i::l)
theorem XQ.kt(k:Kt H H')(h:XQ H vs l):XQ H' vs l:=by
 induction h with
 |nil=>exact .nil
 |cons a _ b=>exact .cons (k _ _ a) b
theorem XQ.get(h:XQ H vs l){i:Nat}(e:vs[i]? =!v):∃p x,v=.ref p/\l[i]? =!x/\H p=!(.tup [.int x.1,.str x.2.1,.int x.2.2]):=by
 induction h generalizing i with
 |nil=>cases e
 |cons a _ b=>cases i with
  |zero=>cases e;exact{_,_,rfl,rfl,a}
  |succ i=>rw[List.getElem?_cons_succ]at e⊢;exact b e
theorem XQ.len(h:XQ H vs l):vs.length=l.length:=by
 induction h with
 |nil=>rfl
 |cons _ _ a=>simp_all
theorem Gr.kt(Y:Yd C K P H c s tg)(g:Gr H tg H' tg'):Kt H H':=λa b h=>g.1 a _ (Y.tg.tup h) h
theorem Dp(O:List (Int×Int))(m x:Int):(Ag.XV O m x).length=O.length+1:=by unfold Ag.XV;have:=congrArg List.length (List.takeWhile_append_dropWhile (p:=λp:Int×Int=>decide (p.1<=m)) (l:=O));rw[QN]at this;rw[QN,QP];ext
theorem i9(nm:VA)(a:List Sv):∀s:YS,(s.wake nm a).lg.length=s.lg.length+a.length/\(s.wake nm a).ag.length=s.ag.length+a.length/\(s.wake nm a).hd=s.hd/\(s.wake nm a).now=s.now:=by
 induction a with
 |nil=>intro s;exact{(rfl),rfl,rfl,rfl}
 |cons i r b=>
  intro s;let{c,d,e,f}:=b (s.wk nm i);refine{c.trans ?_,d.trans ?_,e,f};.show(s.lg++[_]).length+_=_;rw[QN,QP,QP,Rl];ext
  .show(Ag.XV s.ag s.now i.1).length+_=_;rw[Dp,QP];ext
theorem sO(nm:VA)(s:YS)(a:List Sv)(i:Sv):s.wake nm (a++[i])=(s.wake nm a).wk nm i:=by unfold YS.wake;rw[List.foldl_append];rfl
theorem Yp.then(e1:c1.y=g.c.y)(c:Gr H g.tg H1 tg1)(f:∀x∈g.c.hs,(∃d,(x.1,d)∈s1.hd)->x∈c1.hs)(h:Yp C K {(g.P),c1,s1,tg1} H1 H' s')(k:∀n,(∃d,(n,d)∈s'.hd)->∃d,(n,d)∈s1.hd):Yp C K g H H' s':=by let{i,a,e,Y,gr,j}:=h;exact{i,a,e.trans e1,Y,c.trans gr,λx o b=>j x (f x o (k _ b)) b}
#print c
def qm(C:CA)(K:RP):Sp:=YJ C K (B:=VA×Tu×List V×List Sv) (λb=>[.str b.1,.ref b.2.1]) (λb g H=>H b.2.1=!(.lst b.2.2.1)/\XQ H b.2.2.1 b.2.2.2/\g.tg b.2.1=0/\b.2.2.2.length<=100/\g.s.lg.length+100<16000000/\g.s.ag.length<=700) (λ_ _=>.non) (λb g=>g.s.wake b.1 b.2.2.2)
def WkI(C:CA)(K:RP)(g:Gy)(nm:VA)(r:Tu)(vs:List V)(a:List Sv)(H:Hp)(i:Nat)(σ:St)(b:Hp):Prop:=(∃c d e,σ= [!(.ref g.c.y),!(.str nm),!(.ref r),c,d,e])/\Yp C K g H b (g.s.wake nm (a.take i))/\b r=!(.lst vs)/\XQ b vs a
def Ge(D:eH K C.y "wake" "Yard.wake" nX ["self","name","served"])(j:jp K C.y)(S:cD K C.y "agenda")(T:cD K C.y "now")(U:%[1,C.y,"lay",["number","words"]|iB C K])(W:%[1,C.l,"put",["moment","thing"]|Ag.Q1 C.l])(X:%[3,C.h,"put",["moment","thing"]|Ag.QF C.h]):%[4,C.y,"wake",["name","served"]|qm C K]:=by
 exists D.I j fR;let{{c,r,vs,b},g}:=a;dsimp only at p q⊢;let{Y,n,o,Z,h4,h5,h6}:=p;exists _,(ae (cE Tl.never rfl (bC (pv 2)) (bG 3 rfl (aC (aZ 3 fR) (aC (aZ 4 fR) (aC (aZ 5 fR) bB)))) (aa (av (aO U hr (pv 0) (ay (pv 3) (am (aW (pv 4) (pv 1) (pv 5)))))) (ae (av (lK W X hr (ah j S (pv 0)) (ay (ah j T (pv 0)) (pv 3))))))));apply ce;simp only[cC];symm;refine{{_,ip.of n},?_};refine cQ (WkI C K g c r vs b H) {{_,_,_,rfl},Yp.nil Y λ_ _ e=>e,n,o} (λi σ J _ h=>ip.of h.2.2.1) ?_ ?_
 .rintro i x σ J u ⟨⟨v3,v4,v5,rfl⟩,⟨c1,y,e1,M,g1,k1⟩,l1,s1⟩;let{p,d,rfl,ei,hp}:=s1.get u;have N:=bj ei;let{w1,w2,w3,w4}:=i9 c (b.take i) g.s;rw[Rv]at w1 w2;have h0:=M.obj;rw[e1]at h0;symm;intro p2 H2 n2 O e2;have Y2:=M.same O;refine{{(d.1,p2,_,[.str d.2.1,.str c,.int d.2.2]),{g.P,c1,g.s.wake c (b.take i),y}},by rw[<-e1],{Y2,e2,.cons (.str _) (.cons (.str _) (.cons (.int _) .nil)),{Rx _ _,Q3 rfl},by dsimp only;ext},λv H3 po=>?_};let{rfl,c3,z,e3,B,g3,k3}:=po;have F:=B.obj;rw[e3,e1]at F;symm;refine vy (m:=(g.s.wake c (b.take i)).now) (x:=d.1) B.ag (λR hR=>?_) ?_ λH4 f4 a4=>?_;.symm;exact hR
  .show(g.s.wake c (b.take i)).ag.length<=900;ext
  let{Y4,g4}:=B.bt f4 a4;have G:=(g1.trans ((cP O).trans g3)).trans g4;have kt:=G.kt Y;refine{{_,_,_,rfl},{c3,z,e3.trans e1,?_,G,λx u I=>?_},G.1 _ _ Z n,o.kt kt};.rw [N,sO];exact Y4
  .rw [N,sO]at I;exact k3 x (k1 x u I) I
 .rintro σ J ⟨⟨v3,v4,v5,rfl⟩,h,_⟩;rw[QZ (Sh o.len.symm)]at h;exact q _ _ {(rfl),h}
def Xw.mem{hs:List (Int×Tu×Tu)}(h:Xw C H hs ds)(b:(n,ho,kd)∈hs):∃d,YH C H n ho kd d/\(n,d)∈ds:=by
 induction h with
 |nil=>cases b
 |cons a _ c=>
  rcases Xi b with e|e;.cases e;exact{_,a,QO ..}
  .let{d,f,i}:=c e;exact{d,f,QM _ i}
def Bm(C:CA)(K:RP):Sp:=YJ C K (B:=Int×Tu×Tu×Int) (λb=>[.ref b.2.1,.int b.2.2.2]) (λb g _=>(b.1,b.2.1,b.2.2.1)∈g.c.hs/\g.s.lg.length+1<16000000/\g.s.ag.length<=900) (λ_ _=>.non) (λb g=>g.s.wait b.1 b.2.2.2)
def Gf(D:eH K C.y "wait" "Yard.wait" nZ ["self","hand","moments"])(e:jp K C.y)(F:cD K C.y "agenda")(G:cD K C.y "now")(r:jp K C.d)(u:cD K C.d "number")(I:%[1,C.y,"lay",["number","words"]|iB C K])(J:%[1,C.l,"put",["moment","thing"]|Ag.Q1 C.l])(M:%[3,C.h,"put",["moment","thing"]|Ag.QF C.h]):%[4,C.y,"wait",["hand","moments"]|Bm C K]:=by
 exists D.I e u5;let{{n,ho,kd,m},g}:=a;dsimp only at p q⊢;let{Y,y,h1,N}:=p;have h0:=Y.obj;let{d,{{dx,d1},d2},O}:=Y.hd.mem y;exists _,(aa (av (aO I hr (pv 0) (ay (ah r u (pv 1)) (am (ay aq (pv 2)))))) (ae (av (lK J M hr (ah e F (pv 0)) (ay (aM bE (ah e G (pv 0)) (pv 2)) (ah r u (pv 1)))))));symm;intro S H2 n2 z e2;refine{{(n,S,_,[.str "waits",.int m]),g},rfl,{Y.same z,e2,.cons (.str _) (.cons (.int _) .nil),{Rx _ _,Q3 rfl},by dsimp only;ext},λv H3 T=>?_};let{rfl,U,i,e3,c,B,j}:=T;have b:=c.obj;let{d',{{W,o},_},_}:=c.hd.mem (j _ y {(d),O});dsimp only at e3 B j b o;rw[e3]at b;symm;refine vy (m:=g.s.now+m) (x:=n) c.ag (λR X=>?_) N λH4 Z a4=>?_;.symm;exact X
 let{Y4,g4}:=c.bt Z a4;exact q _ _ {rfl,U,i,e3,Y4,((cP z).trans B).trans g4,λx hx hd=>j x hx hd}
def rC(C:CA)(K:RP):Sp:=YJ C K (B:=Int×Tu×VA×Int×Tu×List V×List Sv) (λb=>[.ref b.2.1,.str b.2.2.1,.int b.2.2.2.1,.ref b.2.2.2.2.1]) (λb g H=>(∃a d c,H b.2.1=!(.ins C.d a (hdF b.1 d c)))/\H b.2.2.2.2.1=!(.lst b.2.2.2.2.2.1)/\XQ H b.2.2.2.2.2.1 b.2.2.2.2.2.2/\g.tg b.2.2.2.2.1=0/\b.2.2.2.2.2.2.length<=100/\g.s.lg.length+101<16000000/\g.s.ag.length<=700) (λ_ _=>.non) (λb g=>g.s.given b.1 b.2.2.1 b.2.2.2.1 b.2.2.2.2.2.2)
def Dq(D:eH K C.y "lay_given" "Yard.lay_given" iZ ["self","hand","name","given","served"])(R:jp K C.y)(S:jp K C.d)(T:cD K C.d "number")(U:%[1,C.y,"lay",["number","words"]|iB C K])(W:%[4,C.y,"wake",["name","served"]|qm C K]):%[5,C.y,"lay_given",["hand","name","given","served"]|rC C K]:=by
 exists D.I R nI;let{{n,ho,e,x,r,vs,c},g}:=a;dsimp only at p q⊢;let{Y,{dx,d,kd,d1},y,F,B,G,h5,I}:=p;have hu:=bA hr;have h0:=Y.obj;unfold YS.given at q;exists _,(aa (aH (aK gB (pv 3) ac) (ae (av (aO U hr (pv 0) (ay (ah S T (pv 1)) (am (aW aq (pv 2) (pv 3))))))) aE) (ae (av (aO W hr (pv 0) (ay (pv 2) (pv 4))))));symm;by_cases o:0<x
 .rw [Xf o]at q;refine bN o ?_;symm;intro X H2 n2 J e2;refine{{(n,X,_,[.str "gives",.str e,.int x]),g},rfl,{Y.same J,e2,.cons (.str _) (.cons (.str _) (.cons (.int _) .nil)),{Rx _ _,Q3 rfl},by dsimp only;ext},λv H3 b=>?_};let{rfl,Z,i,e3,M,N,O}:=b;have j:=M.obj;dsimp only at e3 N O j;rw[e3]at j;symm;have u:=(cP J).trans N;refine{{(e,r,vs,c),{g.P,Z,g.s.lay n [.str "gives",.str e,.int x],i}},by rw[<-e3],{M,u.1 _ _ B y,F.kt (u.kt Y),?_,G,?_,I},λv H4 b=>?_}
  .rcases Q6 (i r)with z|z
   .exact z
   .rcases u.2 r (Ri z)with z|z
    .exact absurd B z
    .rw [y]at z;cases z
  .show(g.s.lg++[_]).length+100<16000000;rw[QN,Q0];ext
  .let{rfl,b}:=b;symm;exact q _ _ {rfl,Yp.then e3 u O b λm h=>by rw[(i9 e c _).2.2.1]at h;exact h}
 .rw [Xe o]at q;refine bp o ?_;symm;refine{{(e,r,vs,c),g},rfl,{Y,y,F,B,G,by dsimp only;ext,I},λv H4 b=>?_};let{rfl,b}:=b;exact q _ _ {(rfl),b}
def YS.enter(s:YS)(n:Int)(k:Int):YS:=match fT n s.hd with
 |none=>s
 |some d=>if s.stm=100 then s.af (some [.str "endless",.int n])else(s.Q (s.stm+1)).R (_K.setH n (d.Y k) s.hd)
def xG(C:CA)(K:RP):Sp:=YJ C K (B:=Int×Tu×Tu×Int) (λb=>[.ref b.2.1,.int b.2.2.2]) (λb g _=>(b.1,b.2.1,b.2.2.1)∈g.c.hs/\HN g.s.hd) (λ_ g=>.bl ((not (decide (g.s.stm=100))))) (λb g=>g.s.enter b.1 b.2.2.2)
theorem cJ:∀{ds:List (Int×Hd)},(ds.map (·.1)).Nodup->(n,d)∈ds->fT n ds=!d:=by
 intro ds;induction ds with
 |nil=>simp_all
 |cons p r a=>
  intro nd h;rw[QU]at nd;let{b,c}:=List.nodup_cons.mp nd;unfold fT;rcases Xi h with e|e
  .rw [<-e];exact Xf rfl
  .have ne:p.1≠n:=λz=>b (z▸List.mem_map.mpr {_,e,rfl});rw[Xe ne];exact a c e
def Dr:∀{ds:List (Int×Hd)},(∃x,(m,x)∈_K.setH n d ds)->∃x,(m,x)∈ds:=by
 intro ds;induction ds with
 |nil=>intro h;exact h
 |cons p r a=>
  rintro⟨x,h⟩;unfold _K.setH at h;by_cases z:p.1=n;.grind
  .rw [Xe z]at h;rcases Xi h with e|e;.exact{x,e▸QO ..}
   .let{y,b}:=a {(x),e};exact{y,QM _ b}
def JW(m:Mu H a o H'):Nz [a,b] H H':=λc u n e=>m.old e λz=>n (by rw[z];exact QO ..)
def JX(m:Mu H b o H'):Nz [a,b] H H':=λc u n e=>m.old e λz=>n (by rw[z];exact QM _ (QX _))
def Ds(D:eH K C.y "enter_statement" "Yard.enter_statement" fb ["self","hand","k"])(e:jp K C.y)(j:cD K C.y "statements")(N:cD K C.y "stopped")(I:jp K C.d)(O:cD K C.d "number")(R:cD K C.d "row")(S:mg "MOST_STATEMENTS" =!(.int 100 tk)):%[1,C.y,"enter_statement",["hand","k"]|xG C K]:=by
 exists D.I e jb;let{{n,ho,kd,k},g}:=a;dsimp only at p q⊢;let{Y,r,hn}:=p;have T:=Y.obj;let{d,{{dx,d1},d2},U}:=Y.hd.mem r;have J:=cJ hn.nd U;unfold YS.enter at q;rw[J]at q;dsimp only at q;exists _,(aa (aH (aK a7 (ah e j (pv 0)) (iC (v:=.int 100) rfl S {_,rfl})) (aa (aG e N (pv 0) (am (ay aq (ah I O (pv 1))))) (ae (aw cX))) aE) (aa (aG e j (pv 0) (aM bE (ah e j (pv 0)) ac)) (aa (aG I R (pv 1) (pv 2)) (ae (aw cX)))));symm;by_cases c:g.s.stm=100;.rw [Xf c,decide_eq_true c]at q;apply bN c;symm;intro W X n2 u e2;have Z:=u _ _ T;symm;intro H3 i;have y:=(Y.same u).bi (v:=.ref W) (o:=some [.str "endless",.int n]) i (.tup (bP e2) (.cons (.str _) (.cons (.int _) .nil)));exact q _ _ {rfl,Yp.one u y rfl rfl}
 .rw [Xe c,decide_eq_false c]at q;apply bp c;symm;intro X m2;let{M,g2}:=Y.a5 (s':=g.s.Q (g.s.stm+1)) m2 {(rfl),rfl,rfl,rfl,rfl,rfl,rfl};let{d',{{B,F},b},G}:=M.hd.mem r;have ed:d'=d:=by have:=cJ hn.nd G;rw[J]at this;cases this;rfl
  subst ed;symm;intro H3 i;let{y,g3}:=M.setH hn r (d':=d'.Y k) (JW i) {{(B),i.at_},i.old b λz=>by rw[z,F]at b;cases b};exact q _ _ {rfl,g.c,g.tg,rfl,y,g2.trans g3,λx hx _=>hx}
theorem Ni:dO (x::xs) (!1) none=xs:=by unfold dO _T.sIx;simp
def vA(C:CA)(K:RP):Sp:=YJ C K (B:=Int×Tu×Tu×Tu×VA×List V×List Ta) (λb=>[.ref b.2.1,.ref b.2.2.2.1]) (λb g H=>(b.1,b.2.1,b.2.2.1)∈g.c.hs/\H b.2.2.2.1=!(.tup (.str b.2.2.2.2.1::b.2.2.2.2.2.1))/\XF K H b.2.2.2.2.2.1 b.2.2.2.2.2.2/\b.2.2.2.2.2.1.length<=20) (λ_ _=>.non) (λb g=>g.s.af (!(.str b.2.2.2.2.1::.int b.1::b.2.2.2.2.2.2)))
def Bo(D:eH K C.y "stop_by" "Yard.stop_by" jP ["self","hand","stop"])(y:jp K C.y)(J:cD K C.y "stopped")(M:jp K C.d)(N:cD K C.d "number"):%[1,C.y,"stop_by",["hand","stop"]|vA C K]:=by
 exists D.I y qe;let{{n,ho,kd,sp,i,O,B},g}:=a;dsimp only at p q⊢;let{Y,R,S,F,T}:=p;have U:=Y.obj;let{d,{{dx,d1},d2},dm}:=Y.hd.mem R;exists _,(ae (aG y J (pv 0) (aM wV (am (ay (ar (pv 2) ac) (ah M N (pv 1)))) (j5 Co (pv 2) (mJ ac) mI))));symm;intro G H2 n2 j e2;have b:=j _ _ U;have W:=j _ _ S;symm;intro X H3 n3 r e3;rw[Ni]at e3;have b:=r _ _ b;have e:=r _ _ e2;have c:=ai j r;refine{G,X,_,_,rfl,rfl,qu.of e,qu.of e3,by simp,Xn (Nat.add_le_add_left T 2) (by unfold S6;decide),λz=>?_,λz Z n4=>?_};.symm;intro H5 u;have x:=(Y.same c).bi (v:=.ref G) (o:=!(.str i::.int n::B)) u (by subst z;cases F;exact .tup (bP e) (.cons (.str _) (.cons (.int _) .nil)));exact q _ _ {rfl,Yp.one c x rfl rfl}
 .have I:=aU n4 (.tup ([.str i,.int n]++O));have b:=I _ _ b;have c:=ai c I;symm;intro H5 u;have x:=(Y.same c).bi (v:=.ref Z) (o:=!(.str i::.int n::B)) u (.tup (bP aA) (.cons (.str _) (.cons (.int _) (bO (Kt.of c) F))));exact q _ _ {rfl,Yp.one c x rfl rfl}
theorem XE.get{F:α->List Ta}{l:List (VA×α)}(h:XE K H F c l){a:α}(e:aJ nm l=!a):∃v,bc c (Sum.inr nm)=!v/\Fz K H v (.tuple (F a)):=by
 induction h with
 |nil=>cases e
 | @cons x b v c l f r d=>
  unfold aJ at e;unfold bc;by_cases z:x=nm;.simp_all
  .rw [Xe z]at e;rw[List.find?_cons_of_neg (~~~z)];exact d e
def cS(h:Fz K H v (.tuple ds)):∃a xs,v=.ref a/\H a=!(.tup xs)/\XF K H xs ds:=by
 cases h with
 |tup e r=>let{b,e1,e2}:=jV e;cases e1;exact{_,_,rfl,e2,r}
def oU:∀{ns:List Int} {xs:List V},jk K H xs (ns.map .int)->xs=ns.map .int:=by
 intro ns;induction ns with
 |nil=>intro xs h;cases h;rfl
 |cons n ns c=>intro xs h;cases h with|cons a b=>cases a;rw[c b];rfl
def oV:∀{ns:List VA} {xs:List V},jk K H xs (ns.map .str)->xs=ns.map .str:=by
 intro ns;induction ns with
 |nil=>intro xs h;cases h;rfl
 |cons n ns c=>intro xs h;cases h with|cons a b=>cases a;rw[c b];rfl
def Zp(l:List (VA×Int)):List (hH×V):=l.map λp=>(Sum.inr p.1,.int p.2)
def xH:∀{l:List (VA×Int)},aJ nm l=!i->bc (Zp l) (Sum.inr nm)=!(.int i):=by
 intro l;induction l with
 |nil=>intro e;cases e
 |cons p r a=>
  intro e;unfold aJ at e;unfold bc Zp;rw[QU];by_cases z:p.1=nm;.simp_all
  .rw [Xe z]at e;rw[List.find?_cons_of_neg (~~~z)];exact a e
def Gg:∀{l:List (VA×Int)},(l.map (·.1)).Nodup->((Zp l).map λa=>if a.1=Sum.inr nm then(a.1,V.int j)else a)=Zp (bi nm j l):=by
 intro l;induction l with
 |nil=>intro _;rfl
 |cons p r b=>
  intro nd;rw[QU]at nd;let{c,d}:=List.nodup_cons.mp nd;unfold bi;by_cases z:p.1=nm;.rw [Xf z];unfold Zp;rw[QU,QU,QU,Xf (by rw[z])];congr 1;.rw [Rb];refine RJ λq f=>?_;have ne:q.1≠nm:=λe=>c (z▸e▸List.mem_map.mpr {(q),f,rfl});show(if(Sum.inr q.1:hH)=Sum.inr nm then _ else _)=_;rw[Xe λe=>ne (Sum.inr.inj e)]
  .rw [Xe z];have:=b d;unfold Zp at this⊢;rw[QU,QU,QU,Xe λe=>z (Sum.inr.inj e),this]
def Gh{kvs:List (hH×V)}(h:bc kvs k=!v):∃a∈kvs,a.1=k:=by
 unfold bc at h;cases z:kvs.find? λa=>decide (a.1=k)with
 |none=>simp_all
 |some a=>exact{a,List.mem_of_find?_eq_some z,of_decide_eq_true (List.find?_some (p:=λa:hH×V=>decide (a.1=k)) z)}
def Gi(nd:(l.map (·.1)).Nodup)(e:aJ nm l=!i):bR (Zp l) (Sum.inr nm) (.int j)=Zp (bi nm j l):=by have:=xH e;let{a,b,c}:=Gh this;unfold bR;rw[Xf (List.any_eq_true.mpr {a,b,decide_eq_true c})];exact Gg nd
def Bp(C:CA)(K:RP):Sp:=YJ C K (B:=VA×List Int×Nat) (λb=>[.str b.1]) (λb g _=>aJ b.1 g.P.drw=!b.2.1/\aJ b.1 g.s.pl=!(b.2.2:Int)/\b.2.2<b.2.1.length/\b.2.1.length<1000/\(g.s.pl.map (·.1)).Nodup/\g.s.pl.length<1000) (λb g=>.int (g.s.draw g.P b.1).1) (λb g=>(g.s.draw g.P b.1).2)
def Gj(D:eH K C.y "draw" "Yard.draw" og ["self","name"])(d:jp K C.y)(y:cD K C.y "drawn")(r:cD K C.y "places")(B:mg "len" =none):%[1,C.y,"draw",["name"]|Bp C K]:=by
 exists D.I d i6;let{{c,ns,i},g}:=a;dsimp only at p q⊢;let{Y,u,j,F,U,G,W}:=p;have n:=bA hr;have X:=Y.obj;let{Z,d1,I}:=Y.dr;let{v,v1,J}:=I.get u;let{a,xs,rfl,o,M}:=cS J;have ex:=oU M;have pl:=Y.pl;have N:=xH j;have i1:=atN (xs:=ns.map V.int) (i:=i) (v:=.int (ns.getD i 0)) (by rw[QY,Rg,QV F];rfl);unfold Zp at N;have b:=eO;exists _,(aa (aT 2 i6 (bY n (ah d y (pv 0)) (pv 1) (λ_ _=>rfl))) (aa (aT 3 i6 (bY n (ah d r (pv 0)) (pv 1) (λ_ _=>rfl))) (aa (gM n (ah d r (pv 0)) (pv 1) (aM eX (aM bE (pv 3) ac) (fL sB rfl B TV (aD (pv 2))))) (ae (aw (ar (pv 2) (pv 3)))))));symm;refine{by rw[QL];ext,?_};symm;refine{by rw[QL];ext,λH4 x=>?_};have O:bR (Zp g.s.pl) (Sum.inr c) (.int (((i:Int)+1)%(ns.map V.int).length))=Zp (bi c (((i:Int)+1)%ns.length) g.s.pl):=by rw[QL];exact Gi G j
 have R:=Y.setP (l:=bi c (((i:Int)+1)%ns.length) g.s.pl) (O▸x);have S:=x.old o λz=>by rw[z,pl]at o;cases o
 symm;have T:g.s.draw g.P c=(ns.getD i 0,g.s.b2 (bi c (((i:Int)+1)%ns.length) g.s.pl)):=by unfold YS.draw;rw[u,j];rfl
 rw[T]at q;exact q _ _ {rfl,Yp.one (λ_ _ e=>e) R rfl rfl}
def rD(C:CA)(K:RP):Sp:=YJ C K (B:=VA×List VA×Tu×List Int) (λb=>[.str b.1,.ref b.2.2.1]) (λb g H=>aJ b.1 g.P.nms=!b.2.1/\b.2.1.Nodup/\b.2.1.length<=1/\(H b.2.2.1=!(.lst (b.2.2.2.map .int))\/H b.2.2.1=!(.tup (b.2.2.2.map .int)))/\g.s.beg<=60/\(∀p∈g.s.hd,p.1<=g.s.beg)/\g.s.hd.length<=1000/\g.s.lg.length+1<16000000/\g.s.ag.length<=900) (λ_ _=>.non) (λb g=>g.s.begin g.P b.1 b.2.2.2)
def xI(C:CA):Sp:=G3 (A:=Tu×Tu×Int×VA×Int×Tu) (λa=>[.ref a.1,.int a.2.2.1,.str a.2.2.2.1,.int a.2.2.2.2.1,.ref a.2.2.2.2.2]) (λa H=>H a.1=!(.ins C.d a.2.1 [])) (λa H v b=>v=.non/\Mu H a.1 (.ins C.d a.2.1 [("number",.int a.2.2.1),("name",.str a.2.2.2.1),("row",.int a.2.2.2.2.1),("known",.ref a.2.2.2.2.2)]) b)
def oD.I{c:A->List V}{i:A->Hp->Prop}{e:A->Hp->V->Hp->Prop}{C:Tu}(D:oD K mg x C q st ps)(r:au N ps (aj st))(hl:∀a,(c a).length=ps.length) (j:∀(a:A) (f:Tu) (d:S5) (n:Tj) (b:List Env) (s:S8) (H:Hp) (Q:VK) (E:XK),mm k (n.deeper (TR q (aj st) s.heap.objs.size f d))->i a H->(∀v o,e a H v o->Q v o)->∃t,XM (fJ Yb P w K mg base N q (aj st) f d n b s H E).ay (cw st) t/\t {nx:=λ_ o=>Q V.non o,rt:=Q} (start N (c a)) H):
 _Q P w K mg base (k+1) x C ps (G3 c i e):=by
 refine D.ok r (λu H Q E h=>?_) (λf d n b s H u Q E y h=>?_);.let{a,rfl,_}:=h;exact hl a
 .let{a,rfl,p,q}:=h;exact j a f d n b s H Q E y p q
def oW(m:Mu H a o H1)(c:Mu H1 a o' H2):Mu H a o' H2:={c.at_,λb h=>by rw[c.else_ b h,m.else_ b h]}
def Gk(D:oD K mg "Hand" C.d "Hand.__init__" jr ["self","number","name","row","known"])(b:jp K C.d)(i:cD K C.d "number")(j:cD K C.d "name")(o:cD K C.d "row")(u:cD K C.d "known"):%[1,"Hand",C.d,["number","name","row","known"]|xI C]:=by refine oD.I D oM (λ_=>rfl) λa f v A c y H Q E z p q=>?_;let{B,F,n,G,r,I}:=a;dsimp only at p q⊢;exists _,(aa (aG b i (pv 0) (pv 1)) (aa (aG b j (pv 0) (pv 2)) (aa (aG b o (pv 0) (pv 3)) (ae (aG b u (pv 0) (pv 4))))));symm;intro J d;have M:=d.at_;symm;intro N e;have O:=e.at_;symm;intro R h;have S:=h.at_;symm;intro T x;exact q _ _ {rfl,oW (oW (oW d e) h) x}
theorem Bq{hs:List (Int×Tu×Tu)}(h:∀x∈hs,x.1≠n):((hs.map λh=>((Sum.inl h.1:hH),V.ref h.2.1)).any λa=>decide (a.1=Sum.inl n))=false:=by rw[List.any_eq_false];intro a hk;let{x,b,rfl}:=Xl hk;simpa using h x b
def Gm{α β:Type}:∀(ns:List α) (xs:List β),((ns.zip xs).map (·.1)).Sublist ns:=by
 intro ns;induction ns with
 |nil=>simp_all
 |cons n ns a=>intro xs;cases xs with
  |nil=>exact List.nil_sublist _
  |cons x xs=>exact(a xs).cons₂ n
theorem zj:∀(ns:List VA) (xs:List Int),ns.Nodup->bU ((ns.map (Sum.inr:VA->hH)).zip (xs.map V.int))=X4 (ns.zip xs):=by
 intro ns xs nd;have e:(ns.map (Sum.inr:VA->hH)).zip (xs.map V.int)=X4 (ns.zip xs):=by rw[List.zip_map];rfl
 rw[e];unfold bU;rw[dX _ []];.rfl
 .rw [RB];have:(X4 (ns.zip xs)).map (·.1)=((ns.zip xs).map (·.1)).map (Sum.inr:VA->hH):=by unfold X4;rw[Rb,Rb];rfl
  rw[this];exact jR (List.Nodup.sublist (Gm ns xs) nd)
def Dt(D:eH K C.y "begin" "Yard.begin" lX ["self","name","numbers"])(c:jp K C.y)(j:cD K C.y "begun")(Nv:cD K C.y "stopped")(NK:cD K C.y "hands")(Oo:cD K C.y "names")(Nw:cD K C.y "agenda")(ND:cD K C.y "now")(P7:%[1,"Hand",C.d,["number","name","row","known"]|xI C])(NE:%[1,C.y,"lay",["number","words"]|iB C K])(N7:%[1,C.l,"put",["moment","thing"]|Ag.Q1 C.l])(N8:%[3,C.h,"put",["moment","thing"]|Ag.QF C.h])(OC:mg "dict" =none)(Qk:mg "zip" =none)(QH:mg "MOST_HANDS" =!(.int 60 tk)):%[4,C.y,"begin",["name","numbers"]|rD C K]:=by
 exists D.I c tG;let{{n,ns,xa,F},g}:=a;dsimp only at p q⊢;let{Y,h1,N,ab,h2,h3,h4,h5,h6,h7}:=p;have hu:=bA hr;have r:=Y.obj;let{kv,O,d2}:=Y.nm;let{v,v1,v2}:=d2.get h1;let{na,nv,rfl,S,a2}:=cS v2;have ex:=oV a2;subst ex;unfold YS.begin at q;rw[show(aJ n g.P.nms).getD []=ns by rw[h1];rfl]at q;exists _,(aa (aH (aK a7 (ah c j (pv 0)) (iC (v:=.int 60) rfl QH {_,rfl})) (aa (aG c Nv (pv 0) (am (aD aq))) (ae qF)) aE) (aa (aG c j (pv 0) (aM bE (ah c j (pv 0)) ac)) (aa (gM hu (ah c NK (pv 0)) (ah c j (pv 0)) (fj P7 hr rfl (bT (ah c j (pv 0)) (pv 1) ac (yN rfl OC rfl Qk (ay (bY hu (ah c Oo (pv 0)) (pv 1) (λ_ _=>rfl)) (pv 2)))))) (aa (av (aO NE hr (pv 0) (ay (ah c j (pv 0)) (am (ay aq (pv 1)))))) (ae (av (lK N7 N8 hr (ah c Nw (pv 0)) (ay (ah c ND (pv 0)) (ah c j (pv 0))))))))));symm;by_cases c0:g.s.beg=60
 .have T:(g.s.beg:Int)=60:=by ext
  rw[Xf c0]at q;apply bN T;symm;intro p2 U n2 W e2;have d:=W _ _ r;symm;intro H3 m3;have Y3:=(Y.same W).bi (v:=.ref p2) (o:=some [.str "many"]) m3 (.tup (bP e2) (.cons (.str _) .nil));symm;exact q _ _ {rfl,Yp.one W Y3 rfl rfl}
 .have T:¬(g.s.beg:Int)=60:=by ext
  rw[Xe c0]at q;apply bp T;symm;intro U y;let{X,g2}:=Y.a5 (s':=g.s.az (g.s.beg+1)) y {(rfl),rfl,rfl,rfl,rfl,rfl,rfl};have d:=X.obj;have ad:=y.old O λz=>by rw[z,r]at O;cases O
  have Z:=y.old S λz=>by rw[z,r]at S;cases S
  have a0:=h2.imp (λe=>y.old e λz=>by rw[z,r]at e;cases e) λe=>y.old e λz=>by rw[z,r]at e;cases e
  have a3:∀x∈g.c.hs,x.1≠(g.s.beg:Int)+1:=λx hx z=>by have:x.1∈g.c.hs.map (·.1):=List.mem_map.mpr {(x),hx,rfl};rw[Y.hd.nums]at this;let{p,hp,e}:=Xl this;have:=h4 p hp;ext
  have hl:g.c.hs.length=g.s.hd.length:=by have:=congrArg List.length Y.hd.nums;rwa[QL,QL]at this
  have b:=eO;symm;refine{ns.map Sum.inr,by rw[Rb];exact qu.of Z,F.map .int,a0.imp (λe=>ip.of e) λe=>qu.of e,by rw[QL];ext,λG H3 n3 k3 e3=>?_};rw[zj ns F N]at e3;intro i dx H4 I af k4 e4 _;refine{(i,dx,(g.s.beg:Int)+1,n,0,G),rfl,e4,λv H5 po=>?_};let{rfl,J}:=po;dsimp only at J;have B:U i=none:=by
   cases z:U i with
   |none=>rfl
   |some u=>rw[k3 _ _ z]at I;cases I
  have kk:=J.same (ai k3 k4) B;have Y5:=X.same kk;have d:=Y5.obj;have ag:=Y5.dh;have q5:YH C H5 ((g.s.beg:Int)+1) i G ⟨n,0,ns.zip F⟩:={{(dx),J.at_},J.old (k4 _ _ e3) λz=>by rw[<-z,e3]at I;cases I}
  refine{rfl,?_};symm;refine{by rw[QL];ext,λH6 m6=>?_};have a4:Mu H5 g.c.dh (.dK (g.c.hs.map (λh=>(Sum.inl h.1,V.ref h.2.1))++[(Sum.inl ((g.s.beg:Int)+1),.ref i)])) H6:=by have e:bR (g.c.hs.map λh=>((Sum.inl h.1:hH),V.ref h.2.1)) (Sum.inl ((g.s.beg:Int)+1)) (.ref i)=g.c.hs.map (λh=>(Sum.inl h.1,V.ref h.2.1))++[(Sum.inl ((g.s.beg:Int)+1),.ref i)]:=(by unfold bR;rw[Bq a3];rfl);rw[<-e];exact m6
  let{Y6,g6}:=X.addH kk q5 B n3 a4;have d:H6 g.c.y=!(.ins C.y g.c.dx (aS _ _)):=Y6.obj;symm;intro p7 H7 n7 k7 e7;refine{{((g.s.beg:Int)+1,p7,_,[.str "begins",.str n]),{g.P,g.c.b4 (g.c.hs++[((g.s.beg:Int)+1,i,G)]),(g.s.az (g.s.beg+1)).R (g.s.hd++[((g.s.beg:Int)+1,Hd.mk n 0 (ns.zip F))]),λa=>if a=i then F3 ((g.s.beg:Int)+1)else if a=G then QG ((g.s.beg:Int)+1)else g.tg a}},rfl,{Y6.same k7,e7,.cons (.str _) (.cons (.str _) .nil),{Rx _ _,Q3 rfl},Nat.lt_of_succ_lt h6},λv H8 po=>?_};let{rfl,c8,a5,M,Y8,g8,k8}:=po;have M:c8.y=g.c.y:=M;have d:=Y8.obj;rw[M]at d;symm;refine vy (m:=g.s.now) (x:=(g.s.beg:Int)+1) Y8.ag (λR hR=>?_) h7 λH9 f9 a9=>?_;.symm;exact hR
  let{Y9,g9}:=Y8.bt f9 a9;refine q _ _ {rfl,c8,a5,M,?_,(((g2.trans g6).trans (cP k7)).trans g8).trans g9,λx hx hd=>k8 x (Q9 _ hx) hd};exact Y9
end
section
variable{C:CA}{K:RP}{P:Pr}{H H':Hp}{c:Ce}{s:YS}{tg:Tu->Nat}{Q:VK}{E:XK}
def vB:∀{es:List R4},aJ nm (es.map λe=>(e.name,e.t))=!t->∃a e b,es=a++e::b/\e.name=nm/\e.t=t/\∀t',(a++{e with t:=t'}::b).map (λe=>(e.name,e.t))=bi nm t' (es.map λe=>(e.name,e.t)):=by
 intro es;induction es with
 |nil=>intro h;cases h
 |cons e r d=>
  intro h;rw[QU]at h;unfold aJ at h;by_cases z:e.name=nm;.rw [Xf z]at h;cases h;refine{[],e,r,rfl,z,rfl,λt'=>?_};rw[QU];unfold bi;rw[Xf z];rfl
  .rw [Xe z]at h;let{a,f,b,i,j,n,o}:=d h;refine{e::a,f,b,by rw[i];rfl,j,n,λt'=>?_};rw[QU];unfold bi;rw[Xe z,<-o t'];rfl
def oX:∀{es:List cU},aJ nm (es.map λe=>(e.name,e.s))=!t->∃a e b,es=a++e::b/\e.name=nm/\e.s=t/\∀t',(a++{e with s:=t'}::b).map (λe=>(e.name,e.s))=bi nm t' (es.map λe=>(e.name,e.s)):=by
 intro es;induction es with
 |nil=>intro h;cases h
 |cons e r d=>
  intro h;rw[QU]at h;unfold aJ at h;by_cases z:e.name=nm;.rw [Xf z]at h;cases h;refine{[],e,r,rfl,z,rfl,λt'=>?_};rw[QU];unfold bi;rw[Xf z];rfl
  .rw [Xe z]at h;let{a,f,b,i,j,n,o}:=d h;refine{e::a,f,b,by rw[i];rfl,j,n,λt'=>?_};rw[QU];unfold bi;rw[Xe z,<-o t'];rfl
theorem Nz.mono(f:Nz cs H H')(h:∀a∈cs,a∈ds):Nz ds H H':=λa o n e=>f a o (λz=>n (h a z)) e
structure Yk(C:CA)(K:RP)(P:Pr)(H H':Hp)(c:Ce)(s':YS)(tg:Tu->Nat):Prop where
 ex:∃es ss,Yd C K P H' (c.sG es ss) s' tg
 gr:Gr H tg H' tg
def Yd.b0{b:List (VA×TS)}(Y:Yd C K P H c s tg)(f:Nz (ml c.es) H H')(G:xk C.g C.t C.s H' c.g c.dt c.ds es c.ss)(i:ml es=ml c.es)(j:es.map (λe=>(e.name,e.t))=b):Yk C K P H H' c (s.X b) tg:=by let{d,g}:=Y.setG (f.mono λa h=>Q9 _ h) G i rfl;rw[j,Y.se]at d;exact{{(es),c.ss,d},g}
def Yd.b1(Y:Yd C K P H c s tg)(f:Nz (nj c.ss) H H')(G:xk C.g C.t C.s H' c.g c.dt c.ds c.es ss)(d:nj ss=nj c.ss)(i:ss.map (λe=>(e.name,e.s))=l):Yk C K P H H' c (s.ae l) tg:=by let{b,g}:=Y.setG (f.mono λa h=>QS _ h) G rfl d;rw[i,Y.ts]at b;exact{{(c.es),ss,b},g}
def Gn(Y:Yd C K P H c s tg)(b:aJ nm s.ts=!t)(d:h∈hs)(i:t.que.length<200)(k:∀H',Yk C K P H H' c (s.X (bi nm (dE t h n).2 s.ts)) tg->Q (.bl (dE t h n).1) H'):qk C.g C.t [.ref c.g,.int h,.str nm,.int n] H Q E:=by rw[<-Y.ts]at b;let{p,e,q,a,rfl,rfl,j}:=vB b;have G:=Y.go;rw[a]at G;refine FQ G d i λH' f o=>k H' (Y.b0 (a▸f) o ?_ (by rw[<-Y.ts];exact j _));rw[a,fG,fG]
def EH(h:X8 w H vs ps):XQ H vs (ps.map λp=>(p.1,w,p.2)):=by
 induction h with
 |nil=>exact .nil
 |cons a _ b=>exact .cons a b
def qo(h:XZ H vs ps):XQ H vs (_u ps):=by
 induction h with
 |nil=>exact .nil
 |cons a _ b=>exact .cons a b
def Gp(Y:Yd C K P H c s tg)(d:aJ nm s.ts=!t)(i:h∈hs)(k:∀H' p r a,Yk C K P H H' c (s.X (bi nm (cq t h n).2 s.ts)) tg->tg r=0->H' p=!(.tup [.int (Zc t h n),.ref r])->H' r=!(.lst a)->XQ H' a (Y0 (cq t h n).1)->Q (.ref p) H'):md C.g C.t [.ref c.g,.int h,.str nm,.int n] H Q E:=by rw[<-Y.ts]at d;let{x,e,y,b,rfl,rfl,j}:=vB d;have G:=Y.go;rw[b]at G;refine xB G i λH' p r a f o q hl u v=>k H' p r a (Y.b0 (b▸f) v ?_ (by rw[<-Y.ts];exact j _)) (Y.tg.off o) q hl (EH u);rw[b,fG,fG]
def Gq{s:SS}(h:YD s=!(i,s1)):s1.gets.length+s1.puts.length+1=s.gets.length+s.puts.length:=by
 unfold YD gw at h;split at h
 .rename_i e;split at h;.cases h
  .rename_i e2;split at h
   .grind
   .cases h
 .rename_i e;split at h;.grind
  .split at h
   .cases h
   .rename_i e2;split at h
    .grind
    .cases h
theorem LL{s:SS}(h:YL s its s'):∀n,s.gets.length+s.puts.length<=n->h9 n s=(its,s'):=by
 induction h with
 |done e=>intro n _;cases n with
  |zero=>rfl
  |succ n=>unfold h9;rw[e]
 |step e _ a=>
  intro n hn;have:=Gq e;cases n with
  |zero=>ext
  |succ n=>unfold h9;rw[e];dsimp only;rw[a n Xu]
theorem zk{s:SS}(h:YL s its s'):bS s=(_u its,s'):=by unfold bS;rw[LL h _ (Xm _)]
theorem Gs(a:aJ nm s.ss=!t):s.M h "put" nm n=(if t.puts≠[]\/t.most<t.level+n then(false,[],s.ae (bi nm {t with puts:=t.puts++[(h,n)]} s.ss))else(true,(bS {t with level:=t.level+n}).1,s.ae (bi nm (bS {t with level:=t.level+n}).2 s.ss))):=by unfold YS.M;rw[Xe Xs,a];dsimp only;rw[Xf rfl]
theorem Gu(a:aJ nm s.ss=!t):s.M h "get" nm n=(if t.gets≠[]\/t.level<n then(false,[],s.ae (bi nm {t with gets:=t.gets++[(h,n)]} s.ss))else(true,(bS {t with level:=t.level-n}).1,s.ae (bi nm (bS {t with level:=t.level-n}).2 s.ss))):=by unfold YS.M;rw[Xe Xs,a];dsimp only;rw[Xe Xs]
def JY(Y:Yd C K P H c s tg)(j:aJ nm s.ss=!t)(A:t.gets.length<200)(B:t.puts.length<200)(k:∀H' p r d,Yk C K P H H' c (s.M h "put" nm n).2.2 tg->tg r=0->H' p=!(.tup [.bl (s.M h "put" nm n).1,.ref r])->H' r=!(.lst d)->XQ H' d (s.M h "put" nm n).2.1->Q (.ref p) H'):tW C.g C.s [.ref c.g,.int h,.str nm,.int n] H Q E:=by
 rw[Gs j]at k;rw[<-Y.se]at j;let{F,e,I,o,rfl,rfl,J}:=oX j;have G:=Y.go;rw[o]at G;refine JC G A B λH' p r d b M q f u v hl x N i=>?_;have a:nj (F++{e with s:=q}::I)=nj c.ss:=by rw[o,fH,fH]
 have y:=Y.b1 (l:=bi e.name q s.ss) (o▸f) N a (by rw[<-Y.se];exact J _);unfold vd at i;by_cases z:e.s.puts≠[]\/e.s.most<e.s.level+n;.rw [Xf z]at i;let{rfl,rfl,rfl}:=i;rw[Xf z]at k;exact k H' p r d y (Y.tg.off u) v hl (qo x)
 .rw [Xe z]at i;let{rfl,O}:=i;rw[Xe z]at k;have e2:=zk O;rw[e2]at k;exact k H' p r d y (Y.tg.off u) v hl (qo x)
def JZ(Y:Yd C K P H c s tg)(j:aJ nm s.ss=!t)(A:t.gets.length<200)(B:t.puts.length<200)(k:∀H' p r d,Yk C K P H H' c (s.M h "get" nm n).2.2 tg->tg r=0->H' p=!(.tup [.bl (s.M h "get" nm n).1,.ref r])->H' r=!(.lst d)->XQ H' d (s.M h "get" nm n).2.1->Q (.ref p) H'):tX C.g C.s [.ref c.g,.int h,.str nm,.int n] H Q E:=by
 rw[Gu j]at k;rw[<-Y.se]at j;let{F,e,I,o,rfl,rfl,J}:=oX j;have G:=Y.go;rw[o]at G;refine JD G A B λH' p r d b M q f u v hl x N i=>?_;have a:nj (F++{e with s:=q}::I)=nj c.ss:=by rw[o,fH,fH]
 have y:=Y.b1 (l:=bi e.name q s.ss) (o▸f) N a (by rw[<-Y.se];exact J _);unfold ve at i;by_cases z:e.s.gets≠[]\/e.s.level<n;.rw [Xf z]at i;let{rfl,rfl,rfl}:=i;rw[Xf z]at k;exact k H' p r d y (Y.tg.off u) v hl (qo x)
 .rw [Xe z]at i;let{rfl,O}:=i;rw[Xe z]at k;have e2:=zk O;rw[e2]at k;exact k H' p r d y (Y.tg.off u) v hl (qo x)
def Du(Y:Yd C K P H c s tg)(i:aJ nm s.ss=!t)(k:∀H' p r d,Yk C K P H H' c (s.ae (bi nm (bS {t with level:=t.level+Yt t n}).2 s.ss)) tg->tg r=0->H' p=!(.tup [.int (Yt t n),.ref r])->H' r=!(.lst d)->XQ H' d (bS {t with level:=t.level+Yt t n}).1->Q (.ref p) H'):mR C.g C.s [.ref c.g,.str nm,.int n] H Q E:=by
 rw[<-Y.se]at i;let{o,e,q,h,rfl,rfl,u}:=oX i;have G:=Y.go;rw[h]at G;refine C4 G λH' p r d b v j f x z hl A B F _ _ _ I=>?_;subst F;have a:nj (o++{e with s:=j}::q)=nj c.ss:=by rw[h,fH,fH]
 have y:=Y.b1 (l:=bi e.name j s.ss) (h▸f) B a (by rw[<-Y.se];exact u _);have e2:=zk I;rw[e2]at k;exact k H' p r d y (Y.tg.off x) z hl (qo A)
inductive Zv (tg:Tu->Nat) (H:Hp):List V->List (VA×Int×List Sv)->Prop
 |nil:Zv tg H [] []
 |cons {p r:Tu} {i:VA×Int×List Sv} {sv vs:List V} {l:List (VA×Int×List Sv)}:H p=!(.tup [.str i.1,.int i.2.1,.ref r])->H r=!(.lst sv)->tg r=0->XQ H sv i.2.2->Zv tg H vs l->Zv tg H (.ref p::vs) (i::l)
def LM(g:∀a,H0 a=none->tg a=0)(h:Yc bad H0 H vs l):Zv tg H vs (l.map λi=>(i.1,i.2.1,Y0 i.2.2)):=by
 induction h with
 |nil=>exact .nil
 |cons a b _ d e _ f=>exact .cons a b (g _ d) (EH e) f
def Dv:∀es:List R4,(es.filterMap (YN h)).map (λi=>(i.1,i.2.1,Y0 i.2.2))=cZ h (es.map λe=>(e.name,e.t))/\(es.map (lv1 h)).map (λe=>(e.name,e.t))=(es.map λe=>(e.name,e.t)).map λp=>(p.1,cH h p.2):=by
 intro es;induction es with
 |nil=>exact{(rfl),rfl}
 |cons e r b=>
  let{a,d}:=b;unfold cZ at a⊢;simp only[QU,Rs,d];unfold YN lv1 cH;by_cases z:0<ci e.t.held h;.simp only[Xf z];exact{congrArg _ a,trivial}
  .simp only[Xe z];exact{(a),trivial}
def Dw(Y:Yd C K P H c s tg)(d:h∈hs)(hl:c.es.length<=10)(k:∀H' b vs,Yk C K P H H' c (s.X (s.ts.map λp=>(p.1,cH h p.2))) tg->tg b=0->H' b=!(.lst vs)->Zv tg H' vs (cZ h s.ts)->Q (.ref b) H'):re C.g C.t C.s [.ref c.g,.int h] H Q E:=by refine{c.g,c.dt,c.ds,c.es,c.ss,h,rfl,Y.go,d,hl,λH' b vs f n i e l=>?_};have q:=Dv (h:=h) c.es;rw[Y.ts]at q;apply k H' b vs (Y.b0 f i (qZ _) (by rw[q.2])) (Y.tg.off n) e;rw[<-q.1];exact LM (λa j=>Y.tg.off j) l
end
#print c
def qp(g:Gr H tg H' tg')(h:H r=!o)(z:tg r=0):tg' r=0:=by
 rcases Q6 (tg' r)with q|q;.exact q
 .rcases g.2 r (Ri q)with q|q
  .simp_all
  .grind
def J0(C:CA)(K:RP):Sp:=YJ C K (B:=Int×Tu×Tu×VA×Int×TS) (λb=>[.ref b.2.1,.str b.2.2.2.1,.int b.2.2.2.2.1]) (λb g _=>(b.1,b.2.1,b.2.2.1)∈g.c.hs/\HN g.s.hd/\aJ b.2.2.2.1 g.s.ts=!b.2.2.2.2.2/\b.2.2.2.2.2.que.length<=100/\g.s.lg.length+101<16000000/\g.s.ag.length<=700) (λ_ _=>.non) (λb g=>g.s.give b.1 b.2.2.2.1 b.2.2.2.2.1)
def qq(a:1<=n)(b:n<=60):n∈hs:=by refine List.mem_map.mpr {(n-1).toNat,List.mem_range.mpr Xu,by ext}
theorem xJ(q:List (Int×Int)):∀t:TS,(XO q t).1.length<=q.length:=by
 induction q with
 |nil=>intro t;exact Xm _
 |cons p r a=>
  intro t;let{h,n}:=p;by_cases c:n<=t.free;.rw [oO c];exact Rh (a _)
  .unfold XO;rw[Xe c];exact Ra _
def LN(D:eH K C.y "give" "Yard.give" oa ["self","hand","name","n"])(y:jp K C.y)(F:cD K C.y "goods")(G:jp K C.d)(I:cD K C.d "number")(J:%[3,C.g,"give",["hand","name","n"]|md C.g C.t])(M:%[5,C.y,"lay_given",["hand","name","given","served"]|rC C K]):%[6,C.y,"give",["hand","name","n"]|J0 C K]:=by
 exists D.I y i4;let{{n,N,O,R,m,t},g}:=a;dsimp only at p q⊢;let{Y,c,hn,z,S,T,U}:=p;have h0:=Y.obj;let{d,{{dx,d1},d2},dm}:=Y.hd.mem c;have B:=Y.num hn c;unfold YS.give at q;rw[z]at q;let{{dg,g0},_}:=id Y.go;exists _,(ae (aH (aK gB (pv 3) ac) (aa (bW (aO J hr (ah y F (pv 0)) (aW (ah G I (pv 1)) (pv 2) (pv 3))) (bG 2 rfl (aC (aZ 4 i4) (aC (aZ 5 i4) bB)))) (ae (av (aO M hr (pv 0) (bT (pv 1) (pv 2) (pv 4) (pv 5)))))) aE));symm;by_cases b:0<m
 .rw [Xf b]at q;apply bN b;symm;refine Gp Y z (qq B.1 B.2) λW p2 X i Z t2 e2 l2 s2=>?_;let{{es,ss,j},g2}:=Z;have a0:W g.c.y=!(.ins C.y g.c.dx (aS _ _)):=j.obj;let{d',{{o,r},_},_}:=j.hd.mem c;symm;refine{{(n,N,R,Zc t n m,X,i,Y0 (cq t n m).1),{g.P,g.c.sG es ss,_,g.tg}},rfl,{j,{(o),d',O,r},l2,s2,t2,?_,T,U},λv H3 po=>?_};.show(List.map _ (XO t.que _).1).length<=100;rw[QL];exact Xn (xJ _ _) S
  .let{rfl,c3,u,e3,Y3,g3,k3}:=po;exact q _ _ {rfl,c3,u,e3,Y3,g2.trans g3,λx hx hd=>k3 x hx hd}
 .rw [Xe b]at q;apply bp b;exact q _ _ {rfl,Yp.nil Y λ_ _ e=>e}
def zm:List (hH×V):=[(Sum.inr "take",.str "takes"),(Sum.inr "put",.str "puts"),(Sum.inr "get",.str "gets")]
def vC{w:VA}(h:w= "take"\/w= "put"\/w= "get"):bc zm (Sum.inr w)=!(.str (vp w)):=by rcases h with rfl|rfl|rfl<;>decide
structure gH(s:YS)(wd nm:VA):Prop where
 w:wd= "take"\/wd= "put"\/wd= "get"
 t:wd= "take"->∃t,aJ nm s.ts=!t/\t.que.length<=100
 u:wd≠"take"->∃t,aJ nm s.ss=!t/\t.gets.length+t.puts.length<=100
def Br(C:CA)(K:RP):Sp:=YJ C K (B:=Int×Tu×Tu×VA×VA×Int) (λb=>[.ref b.2.1,.str b.2.2.2.1,.str b.2.2.2.2.1,.int b.2.2.2.2.2]) (λb g _=>(b.1,b.2.1,b.2.2.1)∈g.c.hs/\HN g.s.hd/\gH g.s b.2.2.2.1 b.2.2.2.2.1/\g.s.lg.length+101<16000000/\g.s.ag.length<=700) (λb g=>.bl (g.s.ask b.1 b.2.2.2.1 b.2.2.2.2.1 b.2.2.2.2.2).1) (λb g=>(g.s.ask b.1 b.2.2.2.1 b.2.2.2.2.1 b.2.2.2.2.2).2)
def AsZ(C:CA)(K:RP)(g:Gy)(H:Hp)(d:Tu)(wd nm:VA)(n:Int)(a:Bool×List Sv×YS)(σ:St)(b:Hp):Prop:=∃r c,σ= [!(.ref g.c.y),!(.ref d),!(.str wd),!(.str nm),!(.int n),!(.bl a.1),!(.ref r)]/\Yk C K g.P H b g.c a.2.2 g.tg/\g.tg r=0/\b r=!(.lst c)/\XQ b c a.2.1
def J1(n:Nat):∀s:SS,(h9 n s).1.length<=n:=by
 induction n with
 |zero=>intro s;exact Xm _
 |succ n a=>
  intro s;unfold h9;cases YD s with
  |none=>exact Ra _
  |some p=>dsimp only;rw[QP];exact Rh (a _)
def kE(s:SS):(bS s).1.length<=s.gets.length+s.puts.length:=by unfold bS _u;dsimp only;rw[QL];exact J1 _ _
def Bs{s:YS}{h n:Int}{wd nm:VA}(a:gH s wd nm):(s.M h wd nm n).2.1.length<=100:=by
 by_cases e:wd= "take";.let{t,b,_}:=a.t e;unfold YS.M;rw[Xf e,b];exact Ra _
 .let{t,b,c}:=a.u e;unfold YS.M;rw[Xe e,b];dsimp only;split
  .split
   .exact Ra _
   .exact Xn (kE _) c
  .split
   .exact Ra _
   .exact Xn (kE _) c
def J2{s:YS}{h n:Int}{wd nm:VA}:(s.M h wd nm n).2.2.hd=s.hd/\(s.M h wd nm n).2.2.lg=s.lg/\(s.M h wd nm n).2.2.ag=s.ag:=by
 unfold YS.M;split;.split<;>exact{(rfl),rfl,rfl}
 .split
  .exact{(rfl),rfl,rfl}
  .split<;>split<;>exact{(rfl),rfl,rfl}
def Gv(D:eH K C.y "ask" "Yard.ask" qf ["self","hand","word","name","n"])(X:jp K C.y)(NG:cD K C.y "goods")(M:jp K C.d)(N:cD K C.d "number")(Ph:%[2,C.g,"take",["hand","name","n"]|qk C.g C.t])(Pn:%[2,C.g,"put",["hand","name","n"]|tW C.g C.s])(Po:%[2,C.g,"get",["hand","name","n"]|tX C.g C.s])(NE:%[1,C.y,"lay",["number","words"]|iB C K])(Od:%[4,C.y,"wake",["name","served"]|qm C K]){P3:Tu}(PP:KD P w K P3 zm)(PQ:mg "HAD" =!(.ref P3)):%[5,C.y,"ask",["hand","word","name","n"]|Br C K]:=by
 exists D.I X nk;let{{n,ho,kd,wd,nm,m},g}:=a;dsimp only at p q⊢;let{Y,hm,hn,O,h3,h4}:=p;have hu:=bA hr;have h0:=Y.obj;let{d,{{dx,d1},d2},dm}:=Y.hd.mem hm;have nn:=Y.num hn hm;let{{dg,g0},_}:=id Y.go;exists _,(aa (jf (aH (aK a7 (pv 2) aq) (ae (Ib (i:=5) (j:=6) rfl nk.nd rfl rfl Xs rfl rfl (ay (aO Ph hr (ah X NG (pv 0)) (aW (ah M N (pv 1)) (pv 3) (pv 4))) (aQ bJ)) rfl)) (ae (jf (aH (aK a7 (pv 2) aq) (ae (bW (aO Pn hr (ah X NG (pv 0)) (aW (ah M N (pv 1)) (pv 3) (pv 4))) (bG 2 rfl (aC (aZ 5 nk) (aC (aZ 6 nk) bB))))) (ae (bW (aO Po hr (ah X NG (pv 0)) (aW (ah M N (pv 1)) (pv 3) (pv 4))) (bG 2 rfl (aC (aZ 5 nk) (aC (aZ 6 nk) bB)))))))))) (aa (jf (aH (gK (pv 5)) (aa (av (aO NE hr (pv 0) (ay (ah M N (pv 1)) (am (aW (CB PP (iC (v:=.ref P3) rfl PQ rfl) (pv 2) (λ_ _=>rfl)) (pv 3) (pv 4)))))) (ae (av (aO Od hr (pv 0) (ay (pv 3) (pv 6)))))) (ae (av (aO NE hr (pv 0) (ay (ah M N (pv 1)) (am (bT aq (pv 2) (pv 3) (pv 4))))))))) (ae (aw (pv 5)))));refine{AsZ C K g H ho wd nm m (g.s.M n wd nm m),?_,?_}
 .symm;by_cases J:wd= "take";.refine bN J ?_;let{t,e,t2}:=O.t J;have eh:g.s.M n wd nm m=((dE t n m).1,[],g.s.X (bi nm (dE t n m).2 g.s.ts)):=(by unfold YS.M;rw[Xf J,e]);rw[eh];symm;refine Gn Y e (qq nn.1 nn.2) Xu λR S=>?_;symm;intro T H3 n3 o e3;symm;let{{es,Z,Y2},g2}:=S;exact{T,[],rfl,{{es,Z,Y2.same o},g2.same o},Y2.tg.off n3,e3,.nil}
  .refine bp J ?_;let{t,e,t2}:=O.u J;refine{AsZ C K g H ho wd nm m (g.s.M n wd nm m),?_,λ_ _ z=>z};symm;by_cases c1:wd= "put";.refine bN c1 ?_;subst c1;symm;refine JY Y e Xu Xu λR p2 r2 u S z2 e2 l2 s2=>?_;symm;exact{(r2),u,rfl,S,z2,l2,s2}
   .refine bp c1 ?_;have c2:wd= "get":=O.w.resolve_left J |>.resolve_left c1
    subst c2;symm;refine JZ Y e Xu Xu λR p2 r2 u S z2 e2 l2 s2=>?_;symm;exact{(r2),u,rfl,S,z2,l2,s2}
 .rintro σ1 H1 ⟨r,sv,rfl,⟨⟨es,Z,U⟩,g1⟩,e,l1,s1⟩;have hl:=Bs (h:=n) (n:=m) O;let{e1,e2,e3}:=J2 (s:=g.s) (h:=n) (n:=m) (wd:=wd) (nm:=nm);have a1:H1 g.c.y=!(.ins C.y g.c.dx (aS _ _)):=U.obj;let{d',{{a2,a3},_},a4}:=U.hd.mem hm;unfold YS.ask at q;generalize g.s.M n wd nm m=r3 at *;let{b,B,c}:=r3;dsimp only at *;have hb:c.lg.length+101<16000000:=by rw[e2];exact h3
  have a0:c.ag.length<=700:=by rw[e3];exact h4
  refine{λσ2 R=>σ2[5]? =!(!(.bl b))/\Yp C K g H R (if b=true then(c.lay n [.str (vp wd),.str nm,.int m]).wake nm B else c.lay n [.str "queues",.str wd,.str nm,.int m]),?_,?_}
  .symm;cases b with
   |true=>
    refine bN rfl ?_;have kg:=vC O.w;symm;intro T H3 n3 o e3;refine{{(n,T,_,[.str (vp wd),.str nm,.int m]),{g.P,g.c.sG es Z,c,g.tg}},rfl,{U.same o,e3,.cons (.str _) (.cons (.str _) (.cons (.int _) .nil)),{Rx _ _,Q3 rfl},by dsimp only;ext},λv H4 F=>?_};let{rfl,c4,G,I,Y4,g4,k4}:=F;have I:c4.y=g.c.y:=I;have W:=Y4.obj;rw[I]at W;have gg:=(cP o).trans g4;symm;refine{{(nm,r,sv,B),{g.P,c4,c.lay n [.str (vp wd),.str nm,.int m],G}},by rw[<-I],{Y4,gg.1 _ _ e l1,s1.kt (gg.kt U),qp gg l1 e,hl,?_,a0},λv H5 F=>?_};.show(c.lg++[_]).length+100<16000000;rw[QN,Q0];ext
    .let{rfl,F}:=F;refine Yp.then (g:=g) I (g1.trans gg) (λx hx hd=>k4 x hx hd) F λk h=>?_;rw[(i9 nm B _).2.2.1]at h;exact h
   |false=>refine bp Xp ?_;symm;intro T H3 n3 o e3;refine{{(n,T,_,[.str "queues",.str wd,.str nm,.int m]),{g.P,g.c.sG es Z,c,g.tg}},rfl,{U.same o,e3,.cons (.str _) (.cons (.str _) (.cons (.str _) (.cons (.int _) .nil))),{Rx _ _,Q3 rfl},by dsimp only;ext},λv H4 F=>?_};let{rfl,c4,G,I,Y4,g4,k4}:=F;exact{rfl,c4,G,I,Y4,g1.trans ((cP o).trans g4),λx hx hd=>k4 x hx hd}
  .rintro σ2 R ⟨hv,y⟩;refine{_,hv,q _ _ {?_,?_}};.cases b<;>rfl
   .cases b<;>exact y
theorem Zv.get(h:Zv tg H vs l){i:Nat}(e:vs[i]? =!v):∃p r x c,v=.ref p/\l[i]? =!x/\H p=!(.tup [.str x.1,.int x.2.1,.ref r])/\H r=!(.lst c)/\tg r=0/\XQ H c x.2.2:=by
 induction h generalizing i with
 |nil=>cases e
 |cons a b z d _ f=>cases i with
  |zero=>cases e;exact{_,_,_,_,rfl,rfl,a,b,z,d}
  |succ i=>rw[List.getElem?_cons_succ]at e⊢;exact f e
theorem Zv.len(h:Zv tg H vs l):vs.length=l.length:=by
 induction h with
 |nil=>rfl
 |cons _ _ _ _ _ a=>simp_all
def Yh(l:List (VA×Int×List Sv)):Nat:=(l.map λi=>i.2.2.length).sum
def nQ(a:List (VA×TS)):Nat:=(a.map λp=>p.2.que.length).sum
def Dx:∀a:List (VA×TS),Yh (cZ h a)<=nQ a/\(cZ h a).length<=a.length:=by
 intro a;induction a with
 |nil=>exact{Xm _,Xm _}
 |cons p r b=>
  let{c,d}:=b;unfold cZ at c d⊢;unfold Yh nQ at *;rw[Rs];by_cases z:0<ci p.2.held h;.simp only[Xf z,QU,R9,QP];have:(Y0 (cq p.2 h (ci p.2.held h)).1).length<=p.2.que.length:=(by unfold Y0;rw[QL];exact xJ _ _);ext
  .simp only[Xe z,QU,R9,QP];ext
theorem sP(s:YS)(h:Int)(nm:VA)(n:Int)(a:List Sv):(s.given h nm n a).lg.length<=s.lg.length+1+a.length/\(s.given h nm n a).ag.length=s.ag.length+a.length/\(s.given h nm n a).hd=s.hd:=by
 unfold YS.given;let{b,c,d,_}:=i9 nm a (if 0<n then s.lay h [.str "gives",.str nm,.int n]else s);rw[b,c,d];split;.refine{?_,rfl,rfl};show(s.lg++[_]).length+_<=_;rw[QN,Q0];ext
 .grind
theorem vD(h:Int)(l:List (VA×Int×List Sv)):∀s:YS,(s.gone h l).lg.length<=s.lg.length+l.length+Yh l/\(s.gone h l).ag.length=s.ag.length+Yh l/\(s.gone h l).hd=s.hd:=by
 induction l with
 |nil=>intro s;exact{Xm _,rfl,rfl}
 |cons i r a=>
  intro s;let{b,c,d}:=a (s.given h i.1 i.2.1 i.2.2);let{j,n,f}:=sP s h i.1 i.2.1 i.2.2;have e:Yh (i::r)=i.2.2.length+Yh r:=by unfold Yh;rw[QU,R9]
  refine{Xn b ?_,c.trans ?_,d.trans f};.grind
  .grind
theorem Bu(s:YS)(h:Int)(l:List (VA×Int×List Sv))(i:VA×Int×List Sv):s.gone h (l++[i])=(s.gone h l).given h i.1 i.2.1 i.2.2:=by unfold YS.gone;rw[List.foldl_append];rfl
def Dy(l:List (VA×Int×List Sv)):∀(i:Nat) (x:VA×Int×List Sv),l[i]? =!x->Yh (l.take i)+x.2.2.length<=Yh l/\x.2.2.length<=Yh l:=by
 induction l with
 |nil=>intro i x h;cases h
 |cons y r a=>
  intro i x h;have e:Yh (y::r)=y.2.2.length+Yh r:=by unfold Yh;rw[QU,R9]
  cases i with
  |zero=>cases h;rw[e];exact{by unfold Yh;simp,by ext}
  |succ i=>let{b,c}:=a i x h;have e2:Yh ((y::r).take (i+1))=y.2.2.length+Yh (r.take i):=(by unfold Yh;rw[List.take_succ_cons,QU,R9]);rw[e];ext
theorem Dz(hs:List (Int×Tu×Tu)):je (hs.map λh=>((Sum.inl h.1:hH),V.ref h.2.1)) (Sum.inl n)=(hs.filter λx=>decide (x.1≠n)).map λh=>(Sum.inl h.1,V.ref h.2.1):=by
 unfold je;rw[List.filter_map];congr 1;refine List.filter_congr λx _=>?_;show decide ((Sum.inl x.1:hH)≠Sum.inl n)=decide (x.1≠n);by_cases z:x.1=n;.rw [z];simp
 .simp [z]
def Bv(C:CA)(K:RP):Sp:=YJ C K (B:=Int×Tu×Tu) (λb=>[.ref b.2.1]) (λb g _=>b∈g.c.hs/\HN g.s.hd/\g.s.ts.length<=10/\nQ g.s.ts<=100/\g.s.lg.length+400<16000000/\g.s.ag.length<=600) (λ_ _=>.non) (λb g=>g.s.ah b.1)
def EnI(C:CA)(K:RP)(a:Gy)(b:Tu)(n:Int)(l:List (VA×Int×List Sv))(H2:Hp)(i:Nat)(σ:St)(c:Hp):Prop:=(∃d e f,σ= [!(.ref a.c.y),!(.ref b),d,e,f])/\Yp C K a H2 c (a.s.gone n (l.take i))
def Gx(D:eH K C.y "end_hand" "Yard.end_hand" ju ["self","hand"])(ge:jp K C.y)(NK:cD K C.y "hands")(NG:cD K C.y "goods")(NA:jp K C.d)(Nu:cD K C.d "number")(NE:%[1,C.y,"lay",["number","words"]|iB C K])(O8:%[4,C.g,"leave",["hand"]|re C.g C.t C.s])(Oe:%[5,C.y,"lay_given",["hand","name","given","served"]|rC C K]):%[6,C.y,"end_hand",["hand"]|Bv C K]:=by
 exists D.I ge dD;let{{n,ho,kd},g}:=a;dsimp only at p q⊢;let{Y,T,hn,h1,h2,h3,h4}:=p;have hu:=bA hr;have h0:=Y.obj;let{d,{{dx,d1},d2},dm}:=Y.hd.mem T;have nn:=Y.num hn T;have dh:=Y.dh;have vh:=rB (Y.nd hn) T;have th:=Y.tg.hd _ T;exists _,(aa (av (Ct (ah ge NK (pv 0)) (ah NA Nu (pv 1)) {(rfl),rfl,rfl,rfl})) (aa (av (aO NE hr (pv 0) (ay (ah NA Nu (pv 1)) (am (aD aq))))) (ae (cE Tl.never rfl (bC (aO O8 hr (ah ge NG (pv 0)) (aD (ah NA Nu (pv 1))))) (bG 3 rfl (aC (aZ 2 dD) (aC (aZ 3 dD) (aC (aZ 4 dD) bB)))) (ae (av (aO Oe hr (pv 0) (bT (pv 1) (pv 2) (pv 3) (pv 4)))))))));symm;refine{{_,rfl},?_};symm;intro H1 m1;rw[Dz]at m1;let{Y1,g1}:=Y.delH hn nn.1 m1;have a0:H1 g.c.y=!(.ins C.y g.c.dx (aS _ _)):=Y1.obj;have j:=m1.old d1 λz=>by rw[z,dh]at d1;cases d1
 have z1:(λa=>if g.tg a=F3 n\/g.tg a=QG n then 0 else g.tg a) ho=0:=Xf (.inl th.1);generalize (λa=>if g.tg a=F3 n\/g.tg a=QG n then 0 else g.tg a)=a3 at *;symm;intro p2 H2 n2 k2 e2;refine{{(n,p2,_,[.str "ends"]),{g.P,g.c.b4 (g.c.hs.filter λx=>decide (x.1≠n)),g.s.R (g.s.hd.filter λp=>decide (p.1≠n)),a3}},rfl,{Y1.same k2,e2,.cons (.str _) .nil,{Rx _ _,Q3 rfl},Rq (RN _ _) h3},λv H3 I=>?_};let{rfl,B,o,e3,U,g3,k3}:=I;have e3:B.y=g.c.y:=e3;have u:=(cP k2).trans g3;have d3:=u.1 _ _ z1 j;have z3:=qp u j z1;have J:=U.obj;rw[e3]at J;let{{dg,g0},_}:=id U.go;have a4:B.es.length=g.s.ts.length:=by have:=congrArg List.length U.ts;rw[QL]at this;exact this
 clear a0 j;symm;apply ce;simp only[cC];symm;refine Dw U (qq nn.1 nn.2) Xu λH4 lf vs y4 z4 e4 W=>?_;let{{es,X,Z},g4}:=y4;exists lf,rfl,{_,ip.of e4};have d4:=g4.1 _ _ z3 d3;let{lv1,a5}:=Dx g.s.ts;have M:(B.sG es X).y=g.c.y:=e3;have hg:g.s.ah n=((((g.s.R (g.s.hd.filter λp=>decide (p.1≠n))).lay n [.str "ends"]).X (g.s.ts.map λp=>(p.1,cH n p.2))).gone n (cZ n g.s.ts)):=rfl;rw[hg]at q;have W:Zv o H4 vs (cZ n g.s.ts):=W;have Z:Yd C K g.P H4 (B.sG es X) (((g.s.R (g.s.hd.filter λp=>decide (p.1≠n))).lay n [.str "ends"]).X (g.s.ts.map λp=>(p.1,cH n p.2))) o:=Z;have b1:(((g.s.R (g.s.hd.filter λp=>decide (p.1≠n))).lay n [.str "ends"]).X (g.s.ts.map λp=>(p.1,cH n p.2))).lg.length=g.s.lg.length+1:=by show(g.s.lg++[_]).length=_;rw[QN,Q0]
 have b2:(((g.s.R (g.s.hd.filter λp=>decide (p.1≠n))).lay n [.str "ends"]).X (g.s.ts.map λp=>(p.1,cH n p.2))).ag.length=g.s.ag.length:=rfl;have b3:(((g.s.R (g.s.hd.filter λp=>decide (p.1≠n))).lay n [.str "ends"]).X (g.s.ts.map λp=>(p.1,cH n p.2))).hd=g.s.hd.filter λp=>decide (p.1≠n):=rfl;have a1:∀x∈g.c.hs,(∃d,(x.1,d)∈g.s.hd.filter λp=>decide (p.1≠n))->x∈(B.sG es X).hs:=λx N F=>k3 x (List.mem_filter.mpr ⟨N,by let{d,h}:=F;exact(List.mem_filter.mp h).2⟩) F;have a2:=(g1.trans u).trans g4;generalize (((g.s.R (g.s.hd.filter λp=>decide (p.1≠n))).lay n [.str "ends"]).X (g.s.ts.map λp=>(p.1,cH n p.2)))=G at *;generalize cZ n g.s.ts=l at *;generalize B.sG es X=c4 at *;refine cQ (xs:=vs) (EnI C K {(g.P),c4,G,o} ho n l H4) {{none,none,none,by rw[M]},Yp.nil Z λ_ _ e=>e} (λi σ H5 _ h=>?_) ?_ ?_;.let{_,c5,b,_,_,c,_}:=h;exact ip.of (c.1 _ _ z4 e4)
 .rintro i x σ H5 N ⟨⟨o2,o3,o4,rfl⟩,c5,b,y,O,c,k5⟩;let{p,r,R,sv,rfl,ei,x1,x2,x3,x4}:=W.get N;have et:=bj ei;let{w1,w2,w3}:=vD n (l.take i) G;let{u1,u2}:=Dy l i R ei;have lt:(l.take i).length<=l.length:=by rw[Rv];ext
  have y:=y.trans M;have hy:=O.obj;rw[y]at hy;have S:=c.kt Z;have a9:=S _ _ x1;have d5:=c.1 _ _ z3 d4;have v1:R.2.2.length<=100:=by ext
  have v2:(G.gone n (l.take i)).lg.length+101<16000000:=by ext
  have v3:(G.gone n (l.take i)).ag.length<=700:=by ext
  symm;refine{{(n,ho,R.1,R.2.1,r,sv,R.2.2),{g.P,c5,G.gone n (l.take i),b}},by rw[<-y],{O,{(dx),d,kd,d5},c.1 _ _ x3 x2,x4.kt S,qp c x2 x3,v1,v2,v3},λv H6 I=>?_};let{rfl,I}:=I;refine{{_,_,_,by rw[M]},?_};rw[et,Bu];refine Yp.then (y.trans M.symm) c k5 I λm h=>?_;rw[(sP _ _ _ _ _).2.2]at h;exact h
 .rintro σ H5 ⟨_,c5,b,y,O,c,k5⟩;rw[QZ (Sh W.len.symm)]at O k5;refine q _ _ {rfl,c5,b,y.trans M,O,a2.trans c,λx N F=>k5 x (a1 x N ?_) F};rw[(vD n l G).2.2,b3]at F;exact F
structure YB(s:YS):Prop where
 hn:HN s.hd
 t1:s.ts.length<=10
 t2:nQ s.ts<=100
 ag:s.ag.length<=600
 bg:s.beg<=60
 nb:∀p∈s.hd,p.1<=s.beg
 pn:(s.pl.map (·.1)).Nodup
 pl:s.pl.length<1000
 kn:∀p∈s.hd,p.2.kn.length<900
inductive dY (P:Pr) (s:YS):VA->List VA->List Int->Prop
 |wait {m:Int}:dY P s "wait" [] [m]
 |stop:dY P s "stop" [] []
 |ask {wd nm:VA} {m:Int}:gH s wd nm->dY P s wd [nm] [m]
 |give {nm:VA} {m:Int} {t:TS}:aJ nm s.ts=!t->t.que.length<=100->dY P s "give" [nm] [m]
 |letS {x:VA} {m:Int}:dY P s "let" [x] [m]
 |draw {x r:VA} {ns:List Int} {i:Nat}:aJ r P.drw=!ns->aJ r s.pl=!(i:Int)->i<ns.length->ns.length<1000->dY P s "draw" [x,r] []
 |say {x:VA} {m:Int}:dY P s "say" [x] [m]
 |start {nm:VA} {ns:List VA} {xs:List Int}:aJ nm P.nms=!ns->ns.Nodup->ns.length<=1->dY P s "start" [nm] xs
theorem Gz(kn:List (VA×Int))(x:VA)(n:Int):bR (X4 kn) (Sum.inr x) (.int n)=X4 (mj kn x n):=by
 unfold bR mj;by_cases z:x∈kn.map (·.1)
 .rw [Xf z,Xf]
  .unfold X4;rw[Rb,Rb];refine RJ λp _=>?_;show(if(Sum.inr p.1:hH)=Sum.inr x then(Sum.inr p.1,V.int n)else(Sum.inr p.1,.int p.2))=(Sum.inr (if p.1=x then(x,n)else p).1,V.int (if p.1=x then(x,n)else p).2)
   by_cases y:p.1=x;.simp_all
   .simp_all
  .let{p,a,e}:=Xl z;exact List.any_eq_true.mpr {(Sum.inr p.1,.int p.2),List.mem_map.mpr {(p),a,rfl},by rw[e];simp}
 .rw [Xe z,Xe]
  .unfold X4;rw[QT];rfl
  .intro h;let{b,hk,e}:=List.any_eq_true.mp h;let{p,a,rfl}:=Xl hk;exact z (List.mem_map.mpr {p,a,Sum.inr.inj (of_decide_eq_true e)})
theorem Yd.O{tg:Tu->Nat}(Y:Yd C K Pp H c s tg)(N:HN s.hd)(f:(n,ho,kd)∈c.hs)(i:(n,d)∈s.hd)(mu:Mu H kd (.dK (bR (X4 d.kn) (Sum.inr x) (.int m))) H'):Yd C K Pp H' c (s.O n x m) tg/\Gr H tg H' tg:=by let{p,{{j,a},o},b}:=Y.hd.mem f;have e:=cJ N.nd i;have h:=cJ N.nd b;rw[e]at h;cases h;rw[Gz]at mu;unfold YS.O;rw[e];exact Y.setH N f (JX mu) {{j,mu.old a λz=>by rw[z,o]at a;cases a},mu.at_}
theorem xK(a:Pr)(s:YS)(r:VA):(s.draw a r).2.hd=s.hd:=by unfold YS.draw;split<;>rfl
def DA{s:YS}(h:∃d,(k,d)∈(s.O n x m).hd):∃d,(k,d)∈s.hd:=by
 unfold YS.O at h;split at h;.exact h
 .exact Dr h
def Bw(B:YB s):s.hd.length<=1000:=by
 have:=tU B.hn.nd λx a=>by let{p,b,e}:=Xl a;have:=B.hn.ps p b;exact e▸qq this.1 this.2
 rw[QL]at this;exact Xn this Xs
section
variable{Pp:Pr}{s:YS}{n m:Int}{nm x r:VA}{xs:List Int}
theorem sQ:s.deed Pp n "wait" [] [m]=(false,s.wait n (if 0<m then m else 0)):=by rfl
theorem Bx:s.deed Pp n "stop" [] []=(false,s.ah n):=by rfl
theorem vF{wd:VA}(h:wd= "take"\/wd= "put"\/wd= "get"):s.deed Pp n wd [nm] [m]=if m<1 then(true,s)else s.ask n wd nm m:=by unfold YS.deed;rw[Xe (by rcases h with rfl|rfl|rfl<;>decide),Xe (by rcases h with rfl|rfl|rfl<;>decide),Xf h];rfl
theorem By:s.deed Pp n "give" [nm] [m]=((s.give n nm m).st.isNone,s.give n nm m):=by rfl
theorem DB:s.deed Pp n "let" [x] [m]=((s.O n x m).st.isNone,s.O n x m):=by rfl
theorem Bz:s.deed Pp n "draw" [x,r] []=(((s.draw Pp r).2.O n x (s.draw Pp r).1).st.isNone,(s.draw Pp r).2.O n x (s.draw Pp r).1):=by rfl
theorem DC:s.deed Pp n "say" [x] [m]=((s.lay n [.str "says",.str x,.int m]).st.isNone,s.lay n [.str "says",.str x,.int m]):=by rfl
theorem zp:s.deed Pp n "start" [nm] xs=((s.begin Pp nm xs).st.isNone,s.begin Pp nm xs):=by rfl
end
def xL(C:CA)(K:RP):Sp:=YJ C K (B:=Int×Tu×Tu×VA×Tu×List VA×Tu×List Int) (λb=>[.ref b.2.1,.str b.2.2.2.1,.ref b.2.2.2.2.1,.ref b.2.2.2.2.2.2.1]) (λb g H=>(b.1,b.2.1,b.2.2.1)∈g.c.hs/\H b.2.2.2.2.1=!(.tup (b.2.2.2.2.2.1.map .str))/\H b.2.2.2.2.2.2.1=!(.lst (b.2.2.2.2.2.2.2.map .int))/\YB g.s/\dY g.P g.s b.2.2.2.1 b.2.2.2.2.2.1 b.2.2.2.2.2.2.2/\g.s.lg.length+500<16000000) (λb g=>.bl (g.s.deed g.P b.1 b.2.2.2.1 b.2.2.2.2.2.1 b.2.2.2.2.2.2.2).1) (λb g=>(g.s.deed g.P b.1 b.2.2.2.1 b.2.2.2.2.2.1 b.2.2.2.2.2.2.2).2)
def DE(D:eH K C.y "deed" "Yard.deed" nY ["self","hand","word","names","numbers"])(ge:jp K C.y)(Nv:cD K C.y "stopped")(NA:jp K C.d)(Nu:cD K C.d "number")(N3:cD K C.d "known")(OY:%[4,C.y,"wait",["hand","moments"]|Bm C K])(OK:%[6,C.y,"end_hand",["hand"]|Bv C K])(O4:%[5,C.y,"ask",["hand","word","name","n"]|Br C K])(OZ:%[6,C.y,"give",["hand","name","n"]|J0 C K])(O0:%[1,C.y,"draw",["name"]|Bp C K])(NE:%[1,C.y,"lay",["number","words"]|iB C K])(Oq:%[4,C.y,"begin",["name","numbers"]|rD C K])(PN:mg "max" =none)(PP:KD P w K P3 zm)(PQ:mg "HAD" =!(.ref P3)):%[7,C.y,"deed",["hand","word","names","numbers"]|xL C K]:=by
 exists D.I ge u4;let{{n,J,Z,wd,T,ns,S,xs},g}:=a;dsimp only at p q⊢;let{Y,O,h1,h2,B,dk,h3}:=p;have hu:=bA hr;have h0:=Y.obj;let{d,{{dx,d1},d2},dm}:=Y.hd.mem O;exists _,(aa (aH (aK a7 (pv 2) aq) (aa (av (aO OY hr (pv 0) (ay (pv 1) (jx (rT rfl) PN (ay ac (ar (pv 4) ac)))))) (ae (aw cX))) aE) (aa (aH (aK a7 (pv 2) aq) (aa (av (aO OK hr (pv 0) (aD (pv 1)))) (ae (aw cX))) aE) (aa (aH (zX (FC PP (pv 2) (iC rfl PQ rfl)) (by with_unfolding_all rfl)) (ae (aw (D9 (kC jd (ar (pv 4) ac) ac) (zZ (aO O4 hr (pv 0) (bT (pv 1) (pv 2) (ar (pv 3) ac) (ar (pv 4) ac))))))) aE) (aa (jf (aH (aK a7 (pv 2) aq) (ae (av (aO OZ hr (pv 0) (aW (pv 1) (ar (pv 3) ac) (ar (pv 4) ac))))) (ae (aH (aK a7 (pv 2) aq) (ae (gM hu (ah NA N3 (pv 1)) (ar (pv 3) ac) (ar (pv 4) ac))) (ae (aH (aK a7 (pv 2) aq) (ae (gM hu (ah NA N3 (pv 1)) (ar (pv 3) ac) (aO O0 hr (pv 0) (aD (ar (pv 3) ac))))) (ae (aH (aK a7 (pv 2) aq) (ae (av (aO NE hr (pv 0) (ay (ah NA Nu (pv 1)) (am (aW aq (ar (pv 3) ac) (ar (pv 4) ac))))))) (ae (av (aO Oq hr (pv 0) (ay (ar (pv 3) ac) (pv 4))))))))))))) (ae (aw (kC uo (ah ge Nv (pv 0)) cv)))))));cases dk with
 | @wait m=>rw[sQ]at q;symm;refine{{(n,J,Z,if 0<m then m else 0),g},rfl,{Y,O,by dsimp only;ext,Xn B.ag Xs},λv F o=>?_};exact q _ _ {(rfl),o.2}
 |stop=>rw[Bx]at q;symm;refine{{(n,J,Z),g},rfl,{Y,O,B.hn,B.t1,B.t2,by dsimp only;ext,B.ag},λv F o=>?_};exact q _ _ {(rfl),o.2}
 | @ask wd R m U=>
  rw[vF U.w]at q;have n1:¬wd= "wait":=by rcases U.w with e|e|e<;>(rw[e];decide)
  have n2:¬wd= "stop":=by rcases U.w with e|e|e<;>(rw[e];decide)
  have kg:=vC U.w;symm;apply bN rfl;symm;by_cases c0:m<1;.rw [Xf c0]at q;apply bN c0;exact q _ _ {rfl,Yp.nil Y λ_ _ e=>e}
  .rw [Xe c0]at q;apply bp c0;symm;refine{{(n,J,Z,wd,R,m),g},rfl,{Y,O,B.hn,U,by dsimp only;ext,Xn B.ag Xs},λv F o=>?_};let{rfl,o}:=o;exact q _ _ {(rfl),o}
 | @give R m t t1 t2=>
  rw[By]at q;symm;apply bp Xs;symm;refine{(λM N=>M= [!(.ref g.c.y),!(.ref J),!(.str "give"),!(.ref T),!(.ref S)]/\Yp C K g H N (g.s.give n R m)),?_,?_}
  rotate_left
  .rintro _ F ⟨rfl,G,c,e2,j,u,z⟩;have I:=j.obj;rw[e2]at I;symm;rw[jW j.sv];exact q _ _ {(rfl),G,c,e2,j,u,z}
  symm;refine{{(n,J,Z,R,m,t),g},rfl,{Y,O,B.hn,t1,t2,by dsimp only;ext,Xn B.ag Xs},λv F o=>?_};exact o.2
 | @letS x m=>
  rw[DB]at q;have hb:(X4 d.kn).length<S6:=by have:=B.kn _ dm;have b:=eO;unfold X4;rw[QL];dsimp only at this;ext
  symm;apply bp Xs;symm;refine{λM N=>M= [!(V.ref g.c.y),!(V.ref J),!(V.str "let"),!(V.ref T),!(V.ref S)]/\Yp C K g H N (g.s.O n x m),λF mu=>{rfl,Yp.one (λ_ _ e=>e) (Y.O B.hn O dm mu) rfl rfl},?_};rintro _ F ⟨rfl,G,c,e2,j,u,z⟩;have I:=j.obj;rw[e2]at I;symm;rw[jW j.sv];exact q _ _ {(rfl),G,c,e2,j,u,z}
 | @draw x r ns i e1 e2 e3 e4=>
  rw[Bz]at q;symm;apply bp Xs;symm;refine{(λM N=>M= [!(.ref g.c.y),!(.ref J),!(.str "draw"),!(.ref T),!(.ref S)]/\Yp C K g H N ((g.s.draw g.P r).2.O n x (g.s.draw g.P r).1)),?_,?_}
  rotate_left
  .rintro _ F ⟨rfl,G,c,e2,j,u,z⟩;have I:=j.obj;rw[e2]at I;symm;rw[jW j.sv];exact q _ _ {(rfl),G,c,e2,j,u,z}
  symm;refine{{(r,ns,i),g},rfl,{(Y),e1,e2,e3,e4,B.pn,B.pl},λv F o=>?_};let{rfl,G,c,e5,j,u,z}:=o;dsimp only at j u z e5;have eh:=xK g.P g.s r;have W:=z _ O {d,by rw[eh];exact dm};have N2:HN (g.s.draw g.P r).2.hd:=by rw[eh];exact B.hn
  let{d',{{a2,a3},a4},X}:=j.hd.mem W;have hb:(X4 d'.kn).length<S6:=by have:=B.kn _ (eh▸X);have b:=eO;unfold X4;rw[QL];dsimp only at this;ext
  have a5:=u.kt Y _ _ h1;clear h0 h1 h2 d1 d2;symm;intro H3 mu;let{Y3,g3}:=j.O N2 W X mu;exact{rfl,G,c,e5,Y3,u.trans g3,λy I hd=>z y I (DA hd)}
 | @say x m=>
  rw[DC]at q;symm;apply bp Xs;symm;refine{(λM N=>M= [!(.ref g.c.y),!(.ref J),!(.str "say"),!(.ref T),!(.ref S)]/\Yp C K g H N (g.s.lay n [.str "says",.str x,.int m])),?_,?_}
  rotate_left
  .rintro _ F ⟨rfl,G,c,e2,j,u,z⟩;have I:=j.obj;rw[e2]at I;symm;rw[jW j.sv];exact q _ _ {(rfl),G,c,e2,j,u,z}
  intro p3 H3 n3 k3 a0;refine{{(n,p3,_,[.str "says",.str x,.int m]),g},rfl,{Y.same k3,a0,.cons (.str _) (.cons (.str _) (.cons (.int _) .nil)),{Rx _ _,Q3 rfl},by dsimp only;ext},λv H4 o=>?_};let{rfl,c4,a1,e4,Y4,g4,k4}:=o;exact{rfl,c4,a1,e4,Y4,(cP k3).trans g4,k4}
 | @start R ns xs e1 e2 e3=>
  symm;apply bp Xs;refine{(λM N=>M= [!(.ref g.c.y),!(.ref J),!(.str "start"),!(.ref T),!(.ref S)]/\Yp C K g H N (g.s.begin g.P R xs)),?_,?_}
  rotate_left
  .rintro _ F ⟨rfl,G,c,e2,j,u,z⟩;have I:=j.obj;rw[e2]at I;symm;rw[jW j.sv];exact q _ _ {(rfl),G,c,e2,j,u,z}
  symm;refine{{(R,ns,S,xs),g},rfl,{Y,e1,e2,e3,.inl h2,B.bg,B.nb,?_,by dsimp only;ext,Xn B.ag Xs},λv F o=>?_};.exact Bw B
  .exact o.2
def zr(P:Pr)(s:YS)(o:Ot):Prop:=match o with
 |.start _ a _=>∃ns,aJ a P.nms=!ns/\ns.Nodup/\ns.length<=1
 |.bring _ a _=>∃t,aJ a s.ss=!t/\t.gets.length+t.puts.length<=100
def xM(C:CA)(K:RP):Sp:=YJ C K (B:=Ot) (λ_=>[]) (λo g _=>g.P.out[g.s.done]? =!o/\zr g.P g.s o/\YB g.s/\g.s.lg.length+500<16000000) (λ_ _=>.non) (λ_ g=>g.s.U g.P)
def DF(D:eH K C.y "do_outer" "Yard.do_outer" jt ["self"])(d:jp K C.y)(NS:cD K C.y "outer")(F:cD K C.y "outer_done")(NG:cD K C.y "goods")(Oq:%[4,C.y,"begin",["name","numbers"]|rD C K])(NE:%[1,C.y,"lay",["number","words"]|iB C K])(Od:%[4,C.y,"wake",["name","served"]|qm C K])(O9:%[2,C.g,"bring",["name","n"]|mR C.g C.s]):%[5,C.y,"do_outer",[]|xM C K]:=by
 exists D.I d dC;let{o,g}:=a;dsimp only at p q⊢;let{Y,ho,oo,B,h3}:=p;have hu:=bA hr;have h0:=Y.obj;let{vs,a,a5,o1,o2,o3,o4}:=Y.bu ho;have oi:=atN o2;unfold YS.U at q;rw[ho]at q;exists _,(aa (aT 1 dC (ar (ah d NS (pv 0)) (ah d F (pv 0)))) (aa (aG d F (pv 0) (aM bE (ah d F (pv 0)) ac)) (ae (aH (aK a7 (ar (pv 1) ac) aq) (ae (av (aO Oq hr (pv 0) (ay (ar (pv 1) ac) (ar (pv 1) ac))))) (aa (bW (aO O9 hr (ah d NG (pv 0)) (ay (ar (pv 1) ac) (ar (pv 1) ac))) (bG 2 rfl (aC (aZ 2 dC) (aC (aZ 3 dC) bB)))) (aa (av (aO NE hr (pv 0) (ay ac (am (aW aq (ar (pv 1) ac) (pv 2)))))) (ae (av (aO Od hr (pv 0) (ay (ar (pv 1) ac) (pv 3)))))))))));symm;intro H1 m1;let{n,G}:=Y.a5 (s':=g.s.S (g.s.done+1)) m1 {(rfl),rfl,rfl,rfl,rfl,rfl,rfl};have I:=n.obj;have r1:=cr (G.kt Y) o4;clear h0 o1 o2 o3 oi;cases o with
 |start m i xs=>
  let{ns,n1,n2,n3}:=oo;let{_,ys,e,J,b}:=cS r1;cases e;cases b with|cons M b=>cases b with|cons N b=>cases b with|cons O b=>cases b with|cons R b=>
  cases b;cases M;cases N;cases O;let{xa,ys,rfl,x1,x2}:=cS R;have ex:=oU x2;subst ex;symm;refine{{(i,ns,xa,xs),{g.P,g.c,g.s.S (g.s.done+1),g.tg}},rfl,{n,n1,n2,n3,.inr x1,B.bg,B.nb,(show g.s.hd.length<=1000 from Bw B),by show g.s.lg.length+1<16000000;ext,Xn B.ag Xs},λv H2 c=>?_};let{_,c2,S,e2,j,z,k2}:=c;exact q _ _ {rfl,c2,S,e2,j,G.trans z,λx U W=>k2 x U W}
 |bring m i k=>
  let{t,t1,t2}:=oo;let{_,ys,e,J,b}:=cS r1;cases e;cases b with|cons M b=>cases b with|cons N b=>cases b with|cons O b=>cases b with|cons R b=>
  cases b;cases M;cases N;cases O;cases R;let{{dg,g0},_}:=id n.go;have hl:=kE {t with level:=t.level+Yt t k};change ∀v H',v=V.non/\Yp C K g H H' ((g.s.S (g.s.done+1)).bring i k)->Q v H' at q;unfold YS.bring at q;rw[show(g.s.S (g.s.done+1)).ss=g.s.ss from rfl,t1]at q;symm;refine Du n t1 λH2 p2 r2 X y2 z2 e2 l2 s2=>?_;let{{es,ss,j},z}:=y2;have a3:H2 g.c.y=!(.ins C.y g.c.dx (aS _ _)):=j.obj;have Z:=z.kt n _ _ J;clear I J;dsimp only at q;generalize hT:bS {t with level:=t.level+Yt t k}=T at *;let{r,t'}:=T;dsimp only at *;symm;intro p3 H3 n3 k3 e3;refine{{(0,p3,_,[.str "brings",.str i,.int (Yt t k)]),{g.P,g.c.sG es ss,_,g.tg}},rfl,{j.same k3,e3,.cons (.str _) (.cons (.str _) (.cons (.int _) .nil)),{Rx _ _,Q3 rfl},by show g.s.lg.length<16000000;ext},λv H4 c=>?_};let{rfl,c4,a0,u,Y4,g4,k4}:=c;have u:c4.y=g.c.y:=u;have hy:=Y4.obj;rw[u]at hy;have y:=(cP k3).trans g4;have a4:=y.kt j _ _ Z;symm;refine{{(i,r2,X,r),{g.P,c4,_,a0}},by rw[<-u],{Y4,y.1 _ _ z2 l2,s2.kt (y.kt j),qp y l2 z2,Xn hl t2,?_,Xn B.ag Xs},λv H5 c=>?_};.show(g.s.lg++[_]).length+100<16000000;rw[QN,Q0];ext
  .let{rfl,c}:=c;refine q _ _ {rfl,Yp.then (g:=g) u ((G.trans z).trans y) (λx U W=>k4 x U W) c λk h=>?_};rw[(i9 i r _).2.2.1]at h;exact h
def J3(D:eH K C.y "end" "Yard.end" qb ["self"])(b:jp K C.y)(c:cD K C.y "stopped"):%[1,C.y,"end",[]|ZU C K (λ_=>True) λg=>g.c.sv]:=by refine D.I b wJ (λ_=>rfl) λg f d A a e H Q E h p q=>?_;have i:=p.1.obj;have j:=q _ _ {(rfl),rfl};exists _,(ae (aw (ah b c (pv 0))));symm
def zt(C:CA)(K:RP):Sp:=G3 (A:=Gy) (λg=>[.ref g.c.y]) (λg H=>Yd C K g.P H g.c g.s g.tg) (λg H v a=>∃r b,v=.ref r/\H r=none/\dA H a/\a r=!(.lst b)/\XF K a b g.s.lg)
def J4(D:eH K C.y "log" "Yard.log" pZ ["self"])(b:jp K C.y)(d:cD K C.y "laid")(e:mg "list" =none):%[1,C.y,"log",[]|zt C K]:=by refine D.I b wI (λ_=>rfl) λg f h A a o H Q E u p q=>?_;have v:=p.obj;let{i,x,j}:=p.lg;exists _,(ae (aw (cn d9 e (aD (ah b d (pv 0))))));symm;intro r y n c e1;exact q _ _ {r,i,rfl,n,c,e1,bO (Kt.of c) j}
end
def pq(l:Tu)(H b:Hp):Prop:=∀a o,a≠l->H a=!o->b a=!o
theorem pq.trans(f:pq l H H')(g:pq l H' H''):pq l H H'':=λa o n h=>g a o n (f a o n h)
def pq.mu(m:Mu H l o H'):pq l H H':=λa o n h=>m.old h n
theorem pq.of(g:dA H H'):pq l H H':=λa o _ h=>g a o h
theorem pq.kt(f:pq l H H')(h:H l=!(.lst xs)):Kt H H':=λc a e=>f c _ (λz=>by rw[z,h]at e;cases e) e
#print c
def Yd.sub{tg:Tu->Nat}(Y:Yd C K Pp H c s tg)(kt:Kt H H')(b:∀a o,tg a≠0->H a=!o->H' a=!o):Yd C K Pp H' c s tg:=by
 let{p,q,r,v}:=Y.tg.st;have S:Sta K Pp H' c:=by let{y,d,A}:=Y.nm;let{B,f,E}:=Y.dr;let{F,G,I}:=Y.bd;let{i,J,M}:=Y.to;exact{{y,b _ _ (by rw[p];decide) d,A.kt kt},{B,b _ _ (by rw[q];decide) f,E.kt kt},{F,b _ _ (by rw[r];decide) G,I.fr kt λa j o e=>b _ _ (by rw[v a j];decide) e},{i,kt _ _ J,bO kt M}}
 refine{b _ _ (by rw[Y.tg.y];decide) Y.obj,S.nm,S.dr,S.bd,S.to,b _ _ (by rw[Y.tg.p];decide) Y.pl,tY Y.ag λa u h e=>?_,Y.go.grow λa u h e=>?_,Y.ts,Y.se,b _ _ (by rw[Y.tg.dh];decide) Y.dh,Y.hd.fr λx N a j o e=>?_,?_,cr kt Y.sv,?_}
 .rcases h with rfl|rfl|⟨O,rfl⟩
  .exact b _ _ (by rw[Y.tg.a.1];decide) e
  .exact b _ _ (by rw[Y.tg.a.2];decide) e
  .exact kt _ _ e
 .rcases h with h|⟨O,rfl⟩
  .exact b _ _ (by rw[Y.tg.g a h];decide) e
  .exact kt _ _ e
 .let{d,f}:=Y.tg.hd x N;rcases j with rfl|rfl;.exact b _ _ (by rw[d];unfold F3;ext) e
  .exact b _ _ (by rw[f];unfold QG;ext) e
 .let{i,d,f}:=Y.lg;exact{i,b _ _ (by rw[Y.tg.l];decide) d,bO kt f}
 .refine{Y.tg.y,Y.tg.st,Y.tg.p,Y.tg.l,Y.tg.a,Y.tg.g,Y.tg.dh,Y.tg.hd,λa z=>?_};let{o,e,n}:=Y.tg.own a z;exact{o,b _ _ z e,n}
def Yd.cg{tg:Tu->Nat}(Y:Yd C K Pp H c s tg)(f:pq l H H')(t:tg l=0)(h:H l=!(.lst xs)):Yd C K Pp H' c s tg:=Y.sub (f.kt h) λa o z e=>f a o (λq=>z (by rw[q];exact t)) e
def J5:Sp:=G3 (A:=Tu×List V) (λa=>[.ref a.1]) (λa H=>H a.1=!(.lst a.2)) (λa H v b=>∃r,v=.ref r/\H r=none/\pq a.1 H b/\b a.1=!(.lst [])/\b r=!(.lst a.2))
def LO(D:hW K mg "emptied" sL ["stack"]):%[1,"emptied",["stack"]|J5]:=by exists D.I qg;let{l,d}:=a;exists _,(aa (aT 1 qg (eY Tb PySem.F.slot_list_copy PySem.F.type_list_copy CJ (pv 0))) (aa (av (eY Tb T9 Ua jj (pv 0))) (ae (aw (pv 1)))));symm;refine{{_,ip.of p},l,d,rfl,rfl,p,λr j b e e1=>?_};have i:=e _ _ p;symm;refine{{_,ip.of i},l,d,rfl,rfl,i,λn c=>?_};symm;exact q _ _ {r,rfl,b,(pq.of e).trans (.mu c),c.at_,c.old e1 λz=>by rw[z,p]at b;cases b}
inductive fU:Cs->List Int->Prop
 |num {n:Int} {st:List Int}:fU (.num n) st
 |nam {x:VA} {st:List Int}:fU (.nam x) st
 |now {st:List Int}:fU .now st
 |own {st:List Int}:fU .own st
 |op {o:Wo.Op} {a b:Int} {st:List Int}:fU (.op o) (b::a::st)
structure Z8 where
 n:Int
 ho:Tu
 kd:Tu
 d:Hd
 sa:Tu
 c:Cs
 l:Tu
 st:List Int
structure WoP(C:CA)(K:RP)(a:Z8)(g:Gy)(H:Hp):Prop where
 y:Yd C K g.P H g.c g.s g.tg
 hm:(a.n,a.ho,a.kd)∈g.c.hs
 hd:(a.n,a.d)∈g.s.hd
 hn:HN g.s.hd
 sa:Fz K H (.ref a.sa) (.tuple a.c.L)
 ok:fU a.c a.st
 li:H a.l=!(.lst (a.st.reverse.map .int))
 tl:g.tg a.l=0
 kb:∀p∈a.d.kn,Wo.Bd p.2
 sb:∀x∈a.st,Wo.Bd x
 sl:a.st.length<=1000
def EI(C:CA)(K:RP):Sp:=G3 (A:=Z8×Gy) (λa=>[.ref a.2.c.y,.ref a.1.ho,.ref a.1.sa,.ref a.1.l]) (λa H=>WoP C K a.1 a.2 H) (λa H v b=>pq a.1.l H b/\Rp K b v (fm a.1.d.kn a.2.s.now a.1.n a.1.c a.1.st).1.toD/\b a.1.l=!(.lst ((fm a.1.d.kn a.2.s.now a.1.n a.1.c a.1.st).2.reverse.map .int)))
def LP(h:∀p∈kn,Wo.Bd p.2):Wo._m (X4 kn):=λb hk=>by let{p,a,rfl}:=Xl hk;exact{p.2,rfl,h p a}
def DG(h:XF K H xs [.str s]):xs= [.str s]:=by cases h with|cons a b=>cases b;cases a.str_inv;rfl
theorem t9(h:XF K H xs [.str s,.int n]):xs= [.str s,.int n]:=by cases h with|cons a b=>cases b with|cons c d=>cases d;cases a.str_inv;cases c.int_inv;rfl
def LQ(h:XF K H xs [.str s,.str x]):xs= [.str s,.str x]:=by cases h with|cons a b=>cases b with|cons c d=>cases d;cases a.str_inv;cases c.str_inv;rfl
def J6(D:eH K C.y "worth_of_step" "CodeYard.worth_of_step" dW ["self","hand","step","stack"])(z:jp K C.y)(S:cD K C.y "now")(B:jp K C.d)(T:cD K C.d "number")(U:cD K C.d "known")(W:%[1,"worth_of_name",["name","values"]|Wo.Zl K])(X:%[1,"reckoned",["sign","left","right"]|Wo.Zq])(Z:%[1,"bounded",["n"]|Wo.ZS K]):%[2,C.y,"worth_of_step",["hand","step","stack"]|EI C K]:=by
 exists D.I z bV;let{{n,ho,kd,d,sa,c,l,st},g}:=a;let{Y,F,G,hn,fs,ok,li,tl,I,J,sl}:=p;dsimp only at q F G fs ok li tl I J sl⊢;let{d',{{dx,d1},d2},dm}:=Y.hd.mem F;have M:=cJ hn.nd G;rw[cJ hn.nd dm]at M;cases M;have h0:=Y.obj;let{_,xs,e,hs,j}:=cS fs;cases e;exists _,(aa (aT 4 bV (ar (pv 2) ac)) (aa (aH (aK a7 (pv 4) aq) (ae (aw (am (ay (ar (pv 2) ac) cv)))) aE) (aa (aH (aK a7 (pv 4) aq) (ae (aw (aB W hr rfl (ay (ar (pv 2) ac) (ah B U (pv 1)))))) aE) (aa (aH (aK a7 (pv 4) aq) (ae (aw (am (ay (ah z S (pv 0)) cv)))) aE) (aa (aH (aK a7 (pv 4) aq) (ae (aw (am (ay (ah B T (pv 1)) cv)))) aE) (aa (aT 5 bV (eY Tb TB TC qO (pv 3))) (aa (aT 6 bV (eY Tb TB TC qO (pv 3))) (ae (aw (aB Z hr rfl (aD (aB X hr rfl (aW (pv 4) (pv 6) (pv 5))))))))))))));cases ok with
 |num=>cases t9 j;symm;exact λp x N i e1=>q _ _ {.of i,Wo.XL e1,i _ _ li}
 |nam=>cases LQ j;symm;exact{_,kd,_,rfl,d2,LP I,λr x i e1=>q _ _ {.of i,e1,i _ _ li}}
 |now=>cases DG j;symm;exact λp x N i e1=>q _ _ {.of i,Wo.XL e1,i _ _ li}
 |own=>cases DG j;symm;exact λp x N i e1=>q _ _ {.of i,Wo.XL e1,i _ _ li}
 | @op o a b st=>
  cases DG j;have u:∀c:String,(c= "number"\/c= "name"\/c= "now"\/c= "own")->(o.sg=VA.ofString c)=False:=by intro c hc;cases o<;>rcases hc with rfl|rfl|rfl|rfl<;>simp only[Wo.Op.sg,fK,String.reduceEq]
  have s1:=u "number" eq;have s2:=u "name" eq;have s3:=u "now" eq;have s4:=u "own" eq;clear u;have v:H l=!(.lst ((st.reverse.map V.int++[.int a])++[.int b])):=by rw[li];simp
  symm;refine{{_,ip.of v},l,_,_,rfl,rfl,v,λx y=>?_};symm;refine{{_,ip.of y.at_},l,_,_,rfl,rfl,y.at_,λH2 O=>?_};symm;exists o,a,b,rfl,J a eq;refine{_,rfl,λr H3 R e3=>q _ _ {((pq.mu y).trans (.mu O)).trans (.of R),e3,R _ _ O.at_}}
def _q(C:CA)(K:RP)(g:Gy)(l:Tu)(H c:Hp)(s':YS)(st':List Int):Prop:=∃e b,e.y=g.c.y/\Yd C K g.P c e s' b/\((∀a o,a≠l->g.tg a=0->H a=!o->c a=!o)/\∀a,b a≠0->g.tg a≠0\/H a=none)/\(∀x∈g.c.hs,(∃d,(x.1,d)∈s'.hd)->x∈e.hs)/\b l=0/\c l=!(.lst (st'.reverse.map .int))
def BA(g:Gr H tg H' tg')(z:tg l=0)(h:H l=!o):tg' l=0:=by
 rcases Q6 (tg' l)with q|q;.exact q
 .rcases g.2 l (Ri q)with q|q
  .simp_all
  .grind
def _q.yp(f:pq l H H1)(c:H1 l=!(.lst (st'.reverse.map .int)))(d:g.tg l=0)(h:Yp C K g H1 H2 s'):_q C K g l H H2 s' st':=by
 let{i,b,e,j,gr,hs}:=h;refine{i,b,e,j,{λa o n z e=>gr.1 a o z (f a o n e),λa z=>?_},hs,BA gr d c,gr.1 _ _ d c};rcases gr.2 a z with q|q
 .exact .inl q
 .by_cases n:a=l
  .simp_all
  .cases p:H a with
   |none=>exact .inr rfl
   |some o=>rw[f a o n p]at q;cases q
theorem _q.li(Y:Yd C K g.P H g.c g.s g.tg)(f:pq l H H1)(hl:H l=!(.lst xs))(b:g.tg l=0)(c:H1 l=!(.lst (st'.reverse.map .int))):_q C K g l H H1 g.s st':={g.c,g.tg,rfl,Y.cg f b hl,{λa o n _ e=>f a o n e,λa z=>.inl z},λx d _=>d,b,c}
def lwR(a:Z8)(g:Gy):Bool×YS×List Int:=g.s.an a.n a.d.kn a.c a.st
def J7(C:CA)(K:RP):Sp:=G3 (A:=Z8×Gy) (λa=>[.ref a.2.c.y,.ref a.1.ho,.ref a.1.sa,.ref a.1.l]) (λa H=>WoP C K a.1 a.2 H) (λa H v b=>v=.bl (lwR a.1 a.2).1/\_q C K a.2 a.1.l H b (lwR a.1 a.2).2.1 (lwR a.1 a.2).2.2)
def GB(h:fU c st):(fm kn now own c st).2.length<=st.length:=by cases h<;>simp[fm];ext
def LR(D:eH K C.y "lay_worth" "CodeYard.lay_worth" fS ["self","hand","step","stack"])(S:jp K C.y)(T:%[2,C.y,"worth_of_step",["hand","step","stack"]|EI C K])(U:%[1,C.y,"stop_by",["hand","stop"]|vA C K]):%[3,C.y,"lay_worth",["hand","step","stack"]|J7 C K]:=by
 exists D.I S dw;let{{n,u,B,d,W,c,l,st},g}:=a;have X:=p;let{Y,F,Z,hn,fs,ok,li,o,kb,sb,sl}:=p;dsimp only[lwR]at q F Z fs ok li o kb sb sl⊢;have h0:=Y.obj;exists _,(aa (bW (aO T hr (pv 0) (aW (pv 1) (pv 2) (pv 3))) (bG 2 rfl (aC (aZ 4 dw) (aC (aZ 5 dw) bB)))) (aa (aH (aK qG (pv 5) cv) (aa (av (aO U hr (pv 0) (ay (pv 1) (pv 5)))) (ae (aw cX))) aE) (aa (av (a8 (pv 3) (pv 4))) (ae (aw cX)))));symm;refine{({(n),u,B,d,W,c,l,st},g),rfl,X,λv H1 w1=>?_};let{r,e1,M}:=w1;have ll:=GB (kn:=d.kn) (now:=g.s.now) (own:=n) ok;have G:=Y.cg r o li;have a0:=G.obj;unfold YS.an at q;cases I:(fm d.kn g.s.now n c st).1 with
 |val m=>rw[I]at q e1;let{a,x,y,rfl,N,e,i}:=Rp.aw e1;cases e.int_inv;cases i.b5;symm;have b:=eO;refine{by rw[QL,RK];ext,λO R=>?_};exact q _ _ {rfl,.li Y (r.trans (.mu R)) li o (by rw[R.at_];simp)}
 |unk z=>rw[I]at q e1;let{a,x,y,rfl,N,e,i}:=Rp.aw e1;let{b,x,y,rfl,J,e,i}:=Rp.aw i;cases e.str_inv;cases i.str_inv;symm;refine{((n,u,B,b,_,[.str z],[.str z]),g),rfl,{G,F,J,.cons (.str _) .nil,Q3 rfl},λv O j=>?_};let{rfl,j}:=j;exact q _ _ {rfl,.yp r M o j}
 |big=>rw[I]at q e1;let{a,x,y,rfl,N,e,i}:=Rp.aw e1;let{b,x,rfl,J,e}:=Rp.bx i;cases e.str_inv;symm;refine{((n,u,B,b,_,[],[]),g),rfl,{G,F,J,.nil,Q3 rfl},λv O j=>?_};let{rfl,j}:=j;exact q _ _ {rfl,.yp r M o j}
def _w:Option Nat->V
 |none=>.non
 |some n=>.int n
inductive ZY (P:Pr) (s:YS):Cs->List Int->Prop
 |jmp {n:Nat} {st:List Int}:ZY P s (.jmp n) st
 |unl {sg:VA} {n:Nat} {a b:Int}:ZY P s (.unl sg n) [b,a]
 |beg {k:Int} {st:List Int}:ZY P s (.beg k) st
 |deed {w:VA} {ns:List VA} {st:List Int}:dY P s w ns st.reverse->ZY P s (.deed w ns) st
 |wos {c:Cs} {st:List Int}:fU c st->ZY P s c st
structure DoP(C:CA)(K:RP)(a:Z8)(g:Gy)(H:Hp):Prop where
 y:Yd C K g.P H g.c g.s g.tg
 hm:(a.n,a.ho,a.kd)∈g.c.hs
 hd:(a.n,a.d)∈g.s.hd
 yb:YB g.s
 sa:Fz K H (.ref a.sa) (.tuple a.c.L)
 ok:ZY g.P g.s a.c a.st
 li:H a.l=!(.lst (a.st.reverse.map .int))
 tl:g.tg a.l=0
 kb:∀p∈a.d.kn,Wo.Bd p.2
 sb:∀x∈a.st,Wo.Bd x
 sl:a.st.length<=1000
 lg:g.s.lg.length+500<16000000
def doR(a:Z8×Nat)(g:Gy):Option Nat×YS×List Int:=g.s.aq g.P a.1.n a.1.d a.2 a.1.st a.1.c
def J8(C:CA)(K:RP):Sp:=G3 (A:=(Z8×Nat)×Gy) (λa=>[.ref a.2.c.y,.ref a.1.1.ho,.ref a.1.1.sa,.int a.1.2,.ref a.1.1.l]) (λa H=>DoP C K a.1.1 a.2 H) (λa H v b=>v=_w (doR a.1 a.2).1/\_q C K a.2 a.1.1.l H b (doR a.1 a.2).2.1 (doR a.1 a.2).2.2)
def J9:Sp:=G3 (A:=VA×Int×Int) (λa=>[.str a.1,.int a.2.1,.int a.2.2]) (λ_ _=>True) (λa H v b=>v=.bl (jU a.1 a.2.1 a.2.2)/\b=H)
def DH(D:hW K mg "holds" xq ["sign","left","right"]):%[1,"holds",["sign","left","right"]|J9]:=by
 exists D.I CQ;let{sg,i,j}:=a;unfold jU at q;exists _,(aa (aH (aK a7 (pv 0) aq) (ae (aw (kC jd (pv 1) (pv 2)))) aE) (ae (aw (kC a7 (pv 1) (pv 2)))));by_cases c:sg= "<";.rw [Xf c]at q;symm
 .rw [Xe c]at q;symm
def Ka(h:fU c st):∃w r,c.L=.str w::r/\(w=VA.ofString "jump")=False/\(w=VA.ofString "unless")=False/\(w=VA.ofString "begin")=False/\(w=VA.ofString "deed")=False:=by
 cases h with
 | @op o=>exact{_,_,rfl,by cases o<;>simp only[Wo.Op.sg,fK,String.reduceEq,and_self]}
 |_=>exact{_,_,rfl,by simp only[fK,String.reduceEq,and_self]}
def LS(h:XF K H xs (.str s::r)):∃c,xs=.str s::c:=by cases h with|cons a b=>cases a.str_inv;exact{_,rfl}
def Kb(h:XF K H xs [.str s,.str x,.int n]):xs= [.str s,.str x,.int n]:=by cases h with|cons a b=>cases a.str_inv;rw[t9 b]
def Kc{ns:List VA}(h:XF K H xs [.str s,.str x,.tuple (ns.map .str)]):∃b,xs= [.str s,.str x,.ref b]/\H b=!(.tup (ns.map .str)):=by
 cases h with|cons a b=>cases b with|cons c d=>cases d with|cons f i=>
  cases i;cases a.str_inv;cases c.str_inv;let{p,j,rfl,e,z}:=cS f;cases oV z;exact{(p),rfl,e}
theorem xN{s:YS}(o:fU c st):s.aq Pp h d a st c=(Z2 (s.an h d.kn c st).1 a,(s.an h d.kn c st).2.1,(s.an h d.kn c st).2.2):=by cases o<;>rfl
def zu(c:σ[3]? =!(!(.int a)))(h:Q (_w (Z2 b a)) H):if b=true then XJ (YG λi j=>.int (i+j)) (eT 3) (tC (.int 1)) σ H Q else tC .non σ H Q:=by
 cases b with
 |true=>exact bN rfl {_,c,_,_,rfl,rfl,h}
 |false=>exact bp Xs h
def LU(D:eH K C.y "do" "CodeYard.do" kR ["self","hand","step","at","stack"])(X:jp K C.y)(O:%[1,"emptied",["stack"]|J5])(Z:%[1,"holds",["sign","left","right"]|J9])(Ox:%[1,C.y,"enter_statement",["hand","k"]|xG C K])(O2:%[7,C.y,"deed",["hand","word","names","numbers"]|xL C K])(OI:%[3,C.y,"lay_worth",["hand","step","stack"]|J7 C K]):%[8,C.y,"do",["hand","step","at","stack"]|J8 C K]:=by
 exists D.I X cA;let{{{n,F,G,d,sa,c,l,st},I},g}:=a;let{Y,B,J,yb,fs,ok,li,u,R,S,T,lg}:=p;dsimp only[doR]at q B J fs ok li u R S T⊢;have h0:=Y.obj;let{_,xs,e,hs,x}:=cS fs;cases e;exists _,(aa (aT 5 cA (ar (pv 2) ac)) (aa (aH (aK a7 (pv 5) aq) (ae (aw (ar (pv 2) ac))) aE) (aa (aH (aK a7 (pv 5) aq) (aa (bW (aB O hr rfl (aD (pv 4))) (Fv 2 rfl (aC (aZ 6 cA) (aC (aZ 7 cA) bB)))) (ae (aw (uh (gK (aB Z hr rfl (aW (ar (pv 2) ac) (pv 6) (pv 7)))) (aM bE (pv 3) ac) (ar (pv 2) ac))))) aE) (aa (aH (aK a7 (pv 5) aq) (ae (aT 8 cA (aO Ox hr (pv 0) (ay (pv 1) (ar (pv 2) ac))))) (ae (aH (aK a7 (pv 5) aq) (ae (aT 8 cA (aO O2 hr (pv 0) (bT (pv 1) (ar (pv 2) ac) (ar (pv 2) ac) (aB O hr rfl (aD (pv 4))))))) (ae (aT 8 cA (aO OI hr (pv 0) (aW (pv 1) (pv 2) (pv 4)))))))) (ae (aw (uh (gK (pv 8)) (aM bE (pv 3) ac) cv)))))));cases ok with
 |jmp=>cases t9 x;symm;exact q _ _ {rfl,.li Y (.of λ_ _ h=>h) li u li}
 | @unl sg m a b=>
  cases Kb x;symm;refine{(l,_),rfl,li,λv M i=>?_};let{r,rfl,n1,y,N,e1}:=i;have a0:=y.kt li _ _ hs;symm;refine{(sg,a,b),rfl,trivial,λv U z=>?_};let{rfl,rfl}:=z;have j:Q (_w (!(if jU sg a b=true then I+1 else m))) U:=q _ _ {rfl,.li Y y li u N};symm;cases W:jU sg a b with
  |true=>rw[W,Xf rfl]at j;exact bN rfl {_,rfl,_,_,rfl,rfl,j}
  |false=>rw[W,Xe Xs]at j;apply bp Xs;symm;exact j
 |beg=>cases t9 x;symm;refine{((n,F,G,_),g),rfl,{(Y),B,yb.hn},λv M i=>?_};let{rfl,i}:=i;dsimp only at i;unfold YS.enter at i;rw[cJ yb.hn.nd J]at i;have j:=q _ _ {rfl,.yp (.of λ_ _ h=>h) li u i};symm;exact zu rfl j
 | @deed wd ns st o=>let{nb,rfl,hb}:=Kc x;symm;refine{(l,_),rfl,li,λv M i=>?_};let{r,rfl,n1,y,N,e1}:=i;have Y1:=Y.cg y u li;refine{((n,F,G,wd,nb,ns,r,st.reverse),g),rfl,{Y1,B,y.kt li _ _ hb,e1,yb,o,lg},λv U z=>?_};let{rfl,z}:=z;have j:=q _ _ {rfl,.yp (st':=[]) y N u z};symm;exact zu rfl j
 |wos o=>rw[xN o]at q;let{w0,r,e1,s1,s2,s3,s4}:=Ka o;rw[e1]at x;let{ys,rfl}:=LS x;symm;refine{({(n),F,G,d,sa,c,l,st},g),rfl,{(Y),B,J,yb.hn,fs,o,li,u,R,S,T},λv M i=>?_};let{rfl,i}:=i;have j:=q _ _ {(rfl),i};symm;exact zu rfl j
end
structure DJ(P:Pr)(h:Int)(s:YS)(d:Hd)(c:Cs)(st:List Int):Prop where
 hd:(h,d)∈s.hd
 yb:YB s
 ok:ZY P s c st
 kb:∀p∈d.kn,Wo.Bd p.2
 sb:∀x∈st,Wo.Bd x
 sl:st.length<=1000
 lg:s.lg.length+500<16000000
def zv(P:Pr)(h:Int)(b:List Cs):Nat->YS->Option Nat->List Int->Prop
 |_,_,none,_=>True
 |0,_,!_,_=>False
 |f+1,s,!a,st=>∃c d,b[a]? =!c/\DJ P h s d c st/\zv P h b f (s.aq P h d a st c).2.1 (s.aq P h d a st c).1 (s.aq P h d a st c).2.2
def Yq(C:CA)(K:RP)(g:Gy)(H b:Hp)(s':YS):Prop:=∃c a,c.y=g.c.y/\Yd C K g.P b c s' a/\Gr H g.tg b a
def Yw(C:CA)(K:RP)(g:Gy)(l:Tu)(b:Int×Tu×Tu)(H c:Hp)(s':YS)(st:List Int):Prop:=∃e a,e.y=g.c.y/\Yd C K g.P c e s' a/\Gr H g.tg c a/\((∃d,(b.1,d)∈s'.hd)->b∈e.hs)/\a l=0/\c l=!(.lst (st.reverse.map .int))
theorem xO{s:YS}(e:cs[a]? =!c)(e2:fT h s.hd=!d):s.goOn P h cs (f+1) (!a) st=YS.goOn P h cs f (s.aq P h d a st c).2.1 (s.aq P h d a st c).1 (s.aq P h d a st c).2.2:=by
 conv=>lhs;unfold YS.goOn
 rw[e,e2]
theorem xP{s:YS}:s.goOn P h cs f none st=s:=by unfold YS.goOn;rfl
#print c
def LV(g:Gr H tg H1 tg1)(n:H l=none)(f:(∀a o,a≠l->tg1 a=0->H1 a=!o->H2 a=!o)/\∀a,tg2 a≠0->tg1 a≠0\/H1 a=none):Gr H tg H2 tg2:=by
 refine{λa o z e=>f.1 a o (λq=>by rw[q,n]at e;cases e) (BA g z e) (g.1 a o z e),λa z=>?_};rcases f.2 a z with q|q
 .exact g.2 a q
 .rcases Q6 (tg a)with t|t
  .cases e:H a with
   |none=>exact .inr rfl
   |some o=>rw[g.1 a o t e]at q;cases q
  .exact .inl (Ri t)
theorem XW.get(h:XW K H f l r)(e:aJ nm r=!cd):∃t st d,bc f (Sum.inr nm)=!(.ref t)/\H t=!(.tup [.ref st,.ref d])/\Fz K H (.ref st) (.tuple (cd.1.map λc=>.tuple c.L))/\H d=!(.dK (cd.2.map λp=>(Sum.inl p.1,.int p.2))):=by
 induction h with
 |nil=>cases e
 | @cons x t st d i f l r a b c _ j=>
  unfold aJ at e;by_cases z:x=nm;.rw [Xf z]at e;cases e;exact{t,st,d,dP (by rw[z]),a,b,c}
  .rw [Xe z]at e;rw[dQ λq=>z (Sum.inr.inj q)];exact j e
def GD{l:List (Int×Nat)}(e:l.lookup k=!v):bc (l.map λp=>((Sum.inl p.1:hH),V.int (p.2:Nat))) (Sum.inl k)=!(.int v):=by
 induction l with
 |nil=>cases e
 |cons p r a=>
  rw[Ru]at e;rw[QU];by_cases z:k=p.1;.rw [show(k==p.1)=true by simpa using z]at e;cases e;exact dP (by rw[z])
  .rw [show(k==p.1)=false by simpa using z]at e;rw[dQ λq=>z (Sum.inl.inj q).symm];exact a e
def GoI(C:CA)(K:RP)(g:Gy)(l f h:Tu)(e:List Cs)(b:Int×Tu×Tu)(H:Hp)(R:YS)(m:Nat)(σ:St)(i:Hp):Prop:=∃a d c,σ= [!(.ref g.c.y),!(.ref b.2.1),!(.ref f),!(.ref h),!(.ref l),!(_w a)]/\Yw C K g l b H i d c/\zv g.P b.1 e m d a c/\YS.goOn g.P b.1 e m d a c=R
def GoP(P:Pr)(n:Int)(s:YS):Prop:=∃d b,fT n s.hd=!d/\aJ d.nm P.cds=!b/\(∃a,b.2.lookup d.row=!a)/\b.1.length<1000/\b.2.length<1000/\zv P n b.1 4000 s (b.2.lookup d.row) []
def Kd(C:CA)(K:RP):Sp:=G3 (A:=(Int×Tu×Tu)×Gy) (λa=>[.ref a.2.c.y,.ref a.1.2.1]) (λa H=>Yd C K a.2.P H a.2.c a.2.s a.2.tg/\a.1∈a.2.c.hs/\HN a.2.s.hd/\GoP a.2.P a.1.1 a.2.s) (λa H v b=>v=.non/\Yq C K a.2 H b (a.2.s.Z a.2.P a.1.1))
def LW(D:eH K C.y "go_on" "CodeYard.go_on" i7 ["self","hand"])(ge:jp K C.y)(Os:cD K C.y "codes")(NA:jp K C.d)(Ov:cD K C.d "name")(Of:cD K C.d "row")(Pa:%[8,C.y,"do",["hand","step","at","stack"]|J8 C K]):%[9,C.y,"go_on",["hand"]|Kd C K]:=by
 exists D.I ge cg;let{{n,I,J},g}:=a;dsimp only at p q⊢;let{Y,hm,hn,d,o,g1,g2,{y,M},g4,g5,g6}:=p;have hu:=bA hr;have h0:=Y.obj;let{d',{{dx,d1},d2},dm}:=Y.hd.mem hm;have ee:=cJ hn.nd dm;rw[g1]at ee;cases ee;let{kv,b1,b2}:=Y.bd;let{t,sa,pd,b3,b4,b5,b6}:=b2.get g2;let{_,xs,e,b7,b8}:=cS b5;cases e;have b9:=GD M;rw[M]at g6;have eR:g.s.Z g.P n=YS.goOn g.P n o.1 4000 g.s (!y) []:=by unfold YS.Z;rw[g1];dsimp only;rw[g2];dsimp only;rw[M]
 rw[eR]at q;exists _,(aa (bW (bY hu (ah ge Os (pv 0)) (ah NA Ov (pv 1)) (λ_ _=>rfl)) (bG 2 rfl (aC (aZ 2 cg) (aC (aZ 3 cg) bB)))) (aa (aT 4 cg (aQ bJ)) (aa (aT 5 cg (bY hu (pv 3) (ah NA Of (pv 1)) (λ_ _=>rfl))) (ae (ga Tl.never (aK qG (pv 5) cv) (ae (aT 5 cg (aO Pa hr (pv 0) (bT (pv 1) (ar (pv 2) (pv 5)) (pv 5) (pv 4))))))))));symm;intro l H1 n1 B l1;have Y1:=Y.same B;have a2:=B _ _ d1;have a3:=B _ _ b6;symm;refine{GoI C K g l sa pd o.1 (n,I,J) H (YS.goOn g.P n o.1 4000 g.s (!y) []),{4000,!y,g.s,[],rfl,{g.c,g.tg,rfl,Y1,cP B,λ_=>hm,Y.tg.off n1,l1},g6,rfl},λm σ H2 z=>?_};let{a,s',N,rfl,{c',r,F,O,j,u,R,l2},go,G}:=z;cases a with
 |none=>rw[xP]at G;have z3:=q _ _ {rfl,c',r,F,G▸O,j};unfold _w;symm
 |some a=>
  cases m with
  |zero=>exact absurd go id
  |succ m=>let{c,S,o1,b,o3}:=go;have kt:Kt H H2:=λx ys h=>j.1 _ _ (Y.tg.tup h) h;let{v,h5,h6}:=vz b8 (i:=a) (by rw[QY,o1];rfl);let{ca,ys,rfl,_}:=cS h6;have a4:=kt _ _ b7;have i5:=fq h5;have T:=O.obj;rw[F]at T;rw[xO o1 (cJ b.yb.hn.nd b.hd)]at G;unfold _w;symm;refine{GoI C K g l sa pd o.1 (n,I,J) H (YS.goOn g.P n o.1 4000 g.s (!y) []) m,λσ' H' z=>{m,RW _,z},?_};symm;refine{(({(n),I,J,S,ca,c,l,N},a),{(g.P),c',s',r}),by rw[<-F],{O,u {(S),b.hd},b.hd,b.yb,cr kt h6,b.ok,l2,R,b.kb,b.sb,b.sl,b.lg},λv H3 w3=>?_};let{rfl,c3,U,W,Y3,X,Z,a1,l3}:=w3;exact{_,_,_,rfl,{c3,U,W.trans F,Y3,LV j n1 X,λh=>Z _ (u {(S),b.hd}) h,a1,l3},o3,G}
end
def YS.C(s:YS)(m:Int):YS:=if s.now<m then(s.a0 m).ac 0 else s
def YS.up(s:YS):YS:=s.ac (s.hap+1)
def qr(P:Pr)(s:YS):Prop:=s.done<=P.out.length/\∀m,s.next P=!m->¬(s.C m).hap=500->((s.C m).up.H P=true->∃o,P.out[(s.C m).up.done]? =!o/\zr P (s.C m).up o/\YB (s.C m).up/\(s.C m).up.lg.length+500<16000000)/\((s.C m).up.H P=false->∃t h r,(s.C m).up.ag=(t,h)::r/\(s.C m).up.ag.length<=900/\HN s.hd/\GoP P h (((s.C m).up.ad r).Q 0))
theorem sR{s:YS}(e:s.next P=none):s.step P=s:=by unfold YS.step;rw[e]
theorem sS{s:YS}(e:s.next P=!m):s.step P=if(s.C m).hap=500 then(s.C m).af (some [.str "long"])else if(s.C m).up.H P=true then(s.C m).up.U P else match (s.C m).up.ag with
 |[]=>(s.C m).up
 |(_,h)::r=>(((s.C m).up.ad r).Q 0).Z P h:=by unfold YS.step;rw[e];rfl
theorem Ke{s:YS}:(s.C m).hd=s.hd:=by unfold YS.C;split<;>rfl
theorem DK{s:YS}:(s.C m).done=s.done:=by unfold YS.C;split<;>rfl
#print c
def vG(C:CA)(K:RP):Sp:=G3 (A:=Gy) (λg=>[.ref g.c.y]) (λg H=>Yd C K g.P H g.c g.s g.tg/\qr g.P g.s) (λg H v a=>v=.non/\Yq C K g H a (g.s.step g.P))
def GF(D:eH K C.y "step" "Yard.step" nV ["self"])(a:jp K C.y)(ND:cD K C.y "now")(F:cD K C.y "happenings")(Nv:cD K C.y "stopped")(NN:cD K C.y "statements")(NK:cD K C.y "hands")(Nw:cD K C.y "agenda")(Oa:%[3,C.y,"next_moment",[]|ZU C K (λg=>g.s.done<=g.P.out.length) λg=>oT (g.s.next g.P)])(N4:%[2,C.y,"outer_is_next",[]|ZU C K (λg=>g.s.done<=g.P.out.length) λg=>.bl (g.s.H g.P)])(OL:%[5,C.y,"do_outer",[]|xM C K])(OR:%[9,C.y,"go_on",["hand"]|Kd C K])(OO:%[1,C.l,"take",[]|Ag.XA C.l])(OP:%[3,C.h,"take",[]|Ag.XC C.h])(QI:mg "MOST_HAPPENINGS" =!(.int 500 tk)):%[10,C.y,"step",[]|vG C K]:=by
 refine D.I a lW (λ_=>rfl) λg f ad A O s0 H Q E n p q=>?_;let{Y,sd,so}:=p;have hu:=bA n;have h0:=Y.obj;exists _,(aa (aT 1 lW (bL Oa n (pv 0))) (aa (aH (aK uo (pv 1) cv) (ae qF) aE) (aa (jf (aH (aK gB (pv 1) (ah a ND (pv 0))) (aa (aG a ND (pv 0) (pv 1)) (ae (aG a F (pv 0) ac))) aE)) (aa (aH (aK a7 (ah a F (pv 0)) (iC (v:=.int 500) rfl QI {_,rfl})) (aa (aG a Nv (pv 0) (am (aD aq))) (ae qF)) aE) (aa (aG a F (pv 0) (aM bE (ah a F (pv 0)) ac)) (ae (aH (gK (bL N4 n (pv 0))) (ae (av (bL OL n (pv 0)))) (aa (aG a NN (pv 0) ac) (ae (av (aO OR n (pv 0) (aD (bY hu (ah a NK (pv 0)) (ar (iA OO OP n (ah a Nw (pv 0))) ac) (λ_ _=>rfl))))))))))))));symm;refine{g,rfl,{(Y),sd},λv H1 w1=>?_};let{rfl,rfl}:=w1;cases R:g.s.next g.P with
 |none=>rw[sR R]at q;unfold oT;symm;exact q _ _ {(rfl),g.c,g.tg,rfl,Y,Gr.refl}
 |some m=>
  rw[sS R]at q;have S:=so m R;unfold oT;symm;refine{(λσ2 G=>σ2= [!(.ref g.c.y),!(.int m)]/\Yd C K g.P G g.c (g.s.C m) g.tg/\Gr H1 g.tg G g.tg),?_,?_}
  .by_cases I:g.s.now<m
   .have ec:g.s.C m=(g.s.a0 m).ac 0:=by unfold YS.C;rw[Xf I]
    apply bN I;symm;intro G m2;let{u,b}:=Y.a5 (s':=g.s.a0 m) m2 {(rfl),rfl,rfl,rfl,rfl,rfl,rfl};have T:=u.obj;symm;intro H3 U;let{c,i}:=u.a5 (s':=(g.s.a0 m).ac 0) U {(rfl),rfl,rfl,rfl,rfl,rfl,rfl};exact{rfl,by rw[ec];exact c,b.trans i}
   .have ec:g.s.C m=g.s:=by unfold YS.C;rw[Xe I]
    apply bp I;symm;exact Gr.refl
  .intro σ2 G z;let{rfl,u,b}:=z;have T:=u.obj;symm;by_cases ch:(g.s.C m).hap=500;.rw [Xf ch]at q;apply bN ch;symm;intro p3 H3 n3 k3 e3;have c:=u.same k3;have W:=c.obj;symm;intro H4 m4;let{Y4,X}:=c.bi (v:=.ref p3) (o:=some [.str "long"]) m4 (.tup (bP e3) (.cons (.str _) .nil));exact q _ _ {rfl,g.c.b3 (.ref p3),g.tg,rfl,Y4,(b.trans (cP k3)).trans X}
   .rw [Xe ch]at q;let{Z,a0}:=S ch;apply bp ch;symm;intro H3 U;let{c,i}:=u.a5 (s':=(g.s.C m).up) U {(rfl),rfl,rfl,rfl,rfl,rfl,rfl};have W:=c.obj;symm;refine{{g.P,g.c,(g.s.C m).up,g.tg},rfl,{c,by show(g.s.C m).done<=_;rw[DK];exact sd},λv H4 w4=>?_};let{rfl,e4}:=w4;rw[e4];have e:=b.trans i;by_cases x:(g.s.C m).up.H g.P=true;.rw [Xf x]at q;let{o,J,r2,y,M}:=Z x;refine{_,rfl,bN x ?_};symm;refine{(o,{g.P,g.c,(g.s.C m).up,g.tg}),rfl,{(c),J,r2,y,M},λv H5 w5=>?_};let{rfl,c5,a1,a2,B,j,_}:=w5;exact q _ _ {rfl,c5,a1,a2,B,e.trans j}
    .rw [Xe x]at q;let{t,h,r,J,r2,y,M}:=a0 (by cases z:(g.s.C m).up.H g.P with|true=>exact absurd z x|false=>rfl);rw[J]at q;refine{_,rfl,bp x ?_};symm;intro H5 m5;let{B,j}:=c.a5 (s':=(g.s.C m).up.Q 0) m5 {(rfl),rfl,rfl,rfl,rfl,rfl,rfl};have af:=B.obj;symm;let{d,bd,q1,_}:=id M;have eh:((g.s.C m).up.Q 0).hd=g.s.hd:=Ke;refine Gc B.ag J r2 λH6 p6 a3 A6 e6=>?_;let{N,a4}:=B.bt a3 A6;let{ho,kd,hm,hO}:=N.hd.get q1;have ag:=N.dh;have nd:(g.c.hs.map (·.1)).Nodup:=(by rw[N.hd.nums];have:=y.nd;rw[<-eh]at this;exact this);have vh:=rB nd hm;symm;refine{((h,ho,kd),{g.P,g.c,((g.s.C m).up.ad r).Q 0,g.tg}),rfl,{N,hm,by rw[<-eh]at y;exact y,M},λv H7 w7=>?_};let{rfl,c7,a5,a9,Y7,ab}:=w7;exact q _ _ {rfl,c7,a5,a9,Y7,((e.trans j).trans a4).trans ab}
end
mutual
def frz:Ta->Ta
 |.list l=>.tuple (rE l)
 |.tuple l=>.tuple (rE l)
 |x=>x
def rE:List Ta->List Ta
 |[]=>[]
 |x::r=>frz x::rE r
end
theorem oY:∀l:List Ta,rE l=l.map frz
 |[]=>by unfold rE;rfl
 |x::r=>by unfold rE;rw[oY r];rfl
inductive Sz:Nat->Ta->Prop
 |none {n:Nat}:Sz n .none
 |bool {n:Nat} (b:Bool):Sz n (.bool b)
 |int {n:Nat} (i:Int):Sz n (.int i)
 |str {n:Nat} (s:VA):Sz n (.str s)
 |list {n:Nat} {l:List Ta}:l.length<=1000->(∀x∈l,Sz n x)->Sz (n+1) (.list l)
 |tuple {n:Nat} {l:List Ta}:l.length<=1000->(∀x∈l,Sz n x)->Sz (n+1) (.tuple l)
#print a
def cK(h:jk K H vs ds):∀{i:Nat} {v:V},vs[i]? =!v->∃d,ds[i]? =!d/\Rp K H v d:=by
 intro i v e;have a:i<ds.length:=by rw[<-aX h];exact(Xj e).1
 let{c,b,r}:=vz h (QV a);cases e.symm.trans b;exact{_,QV a,r}
def FrP(K:RP)(ds:List Ta)(_:Tu)(i:Nat)(a:List V)(b:St)(c:Hp):Prop:=∃d,XF K c a ((ds.take i).map frz)/\b= [d]
def zw(K:RP)(n:Nat):Sp:=λc H Q _=>∃(v:V) (d:Ta),c= [v]/\Rp K H v d/\Sz n d/\∀(a:Hp) (b:V),dA H a->Fz K a b (frz d)->Q b a
def LY(K:RP):Nat->Sp
 |0=>λ_ _ _ _=>False
 |n+1=>zw K n
def xQ(D:hW K mg "frozen" oI ["thing"])(Oi:mg "isinstance" =none)(N5:mg "list" =none)(Oj:mg "tuple" =none)(Pe:%[(n+1),"frozen",["thing"]|LY K n]):%[(n+2),"frozen",["thing"]|zw K n]:=by
 exists D.ok sH;let{v,d,rfl,rc,sz,q}:=h;have hu:=bA hr;have big:=_bg
 have M:=PLift.up q;clear q;refine{_,(aa (aH (gK (jx uQ Oi (ay (pv 0) (am (ay (qL (T:="list") rfl N5 Xs) (qL (T:="tuple") rfl Oj Xs)))))) (ae (aw (cn fu Oj (aD (dv 1 ["part"] [] (Jj (pv 0)) (λn _ _ _ _=>(dq 0 n)) (λ_ _ _ _=>cc) (λ_ _ _ _=>(aB Pe hr rfl (aD (pv 0))))))))) aE) (ae (aw (pv 0)))),?_};cases rc with
 |non=>
  walk_at "rz";intro r u N c x;have fin:=M.down u _ c .non;walk_at "rz";exists _,r,_,_,_,_,rfl,x,rfl,rfl;walk_at "rz"
  try exact fin
 |bl b=>
  walk_at "rz";intro r u N c x;have fin:=M.down u _ c (.bl b);walk_at "rz";exists _,r,_,_,_,_,rfl,x,rfl,rfl;walk_at "rz"
  try exact fin
 |int i=>
  walk_at "rz";intro r u N c x;have fin:=M.down u _ c (.int i);walk_at "rz";exists _,r,_,_,_,_,rfl,x,rfl,rfl;walk_at "rz"
  try exact fin
 |str i=>
  walk_at "rz";intro r u N c x;have fin:=M.down u _ c (.str i);walk_at "rz";exists _,r,_,_,_,_,rfl,x,rfl,rfl;walk_at "rz"
  try exact fin
 | @lst a vs U W t=>
  cases sz with
  | @list n _ ln sz=>
   have lt:=aX t;walk_at "rz";intro r u N c x;have e:=c _ _ W;have z:YR u (.ref a)=some "list":=(by unfold YR;dsimp only;rw[e];rfl);walk_at "rz";exists _,r,_,_,_,_,rfl,x,z,rfl;clear z;walk_at "rz";apply bD;simp only[CI];walk_at "rz";refine .inl {{_,ip.of e},de e Xu (FrP K U) (λC H' _ _ _=>{_,.nil,rfl}) ?_ ?_}
   .rintro C i v O X Y Z j ⟨v0,B,rfl⟩;let{d,R,rv}:=cK t Z;have F:=rv.mono (c.trans j.same);have G:=sz d (QW R);have lD:=j.lst;have y:=PLift.up j;have I:=PLift.up R;walk_at "rz";refine{v,d,rfl,F,G,λS v' o r4=>?_};refine y.down.put o λH5 mu=>{_,?_,rfl}
    have kt:=(pq.mu mu).kt (o _ _ lD);rw[bj I.down,QT];exact eM (bO ((Kt.of o).trans kt) B) (.cons (cr kt r4) .nil)
   .rintro C O X Y hD g3 hy a0 ⟨v0,B,rfl⟩;rw[QZ Xu]at B;have J:=c.trans g3;exact{C,rfl,O,trivial,hy,λp S hp o h4=>M.down S (.ref p) (J.trans o) (by unfold frz;rw[oY];exact .tup (bP h4) (bO (Kt.of o) B))}
 | @tup a vs U W t=>
  cases sz with
  | @tuple n _ ln sz=>
   have lt:=aX t;walk_at "rz";intro r u N c x;have e:=c _ _ W;have z:YR u (.ref a)=some "tuple":=(by unfold YR;dsimp only;rw[e];rfl);exists _,r,_,_,_,_,rfl,x,z,rfl;walk_at "rz";apply bD;simp only[CI];walk_at "rz";refine .inr {{_,qu.of e},pO e Xu (FrP K U) (λC H' _ _ _=>{_,.nil,rfl}) ?_ ?_}
   .rintro C i v O X Y Z j ⟨v0,B,rfl⟩;let{d,R,rv}:=cK t Z;have F:=rv.mono (c.trans j.same);have G:=sz d (QW R);have lD:=j.lst;have y:=PLift.up j;have I:=PLift.up R;walk_at "rz";refine{v,d,rfl,F,G,λS v' o r4=>?_};refine y.down.put o λH5 mu=>{_,?_,rfl}
    have kt:=(pq.mu mu).kt (o _ _ lD);rw[bj I.down,QT];exact eM (bO ((Kt.of o).trans kt) B) (.cons (cr kt r4) .nil)
   .rintro C O X Y hD g3 hy a0 ⟨v0,B,rfl⟩;rw[QZ Xu]at B;have J:=c.trans g3;exact{C,rfl,O,trivial,hy,λp S hp o h4=>M.down S (.ref p) (J.trans o) (by unfold frz;rw[oY];exact .tup (bP h4) (bO (Kt.of o) B))}
theorem EJ(D:hW K mg "frozen" oI ["thing"])(a:mg "isinstance" =none)(b:mg "list" =none)(c:mg "tuple" =none):∀n,%[(n+2),"frozen",["thing"]|zw K n]
 |0=>xQ D a b c (D.ok sH (λe H Q E h=>h.elim) λf i A d s H e Q E j h=>h.elim)
 |n+1=>xQ D a b c (EJ D a b c n)
end
abbrev Tr:=Wo.Tr
def Xv(t:Tr):Ta:=Wo.Tr.toD t
inductive Pl where
 |one (w:VA) (k:Int) (x:VA) (e:Tr)
 |wait (k:Int) (e:Tr)
 |draw (k:Int) (x r:VA)
 |start (k:Int) (x:VA) (es:List Tr)
def Pl.L:Pl->List Ta
 |.one w k x e=>[.str w,.int k,.str x,Xv e]
 |.wait k e=>[.str "wait",.int k,Xv e]
 |.draw k x r=>[.str "draw",.int k,.str x,.str r]
 |.start k x es=>[.str "start",.int k,.str x,.list (es.map Xv)]
inductive Sm where
 |pl (p:Pl)
 |wh (k:Int) (sg:VA) (a b:Tr) (x:List Pl)
def X1(p:Pl):Ta:=.tuple p.L
def Sm.L:Sm->List Ta
 |.pl p=>p.L
 |.wh k sg a b x=>[.str "while",.int k,.str sg,Xv a,Xv b,.list (x.map X1)]
def Pl.w:Pl->VA
 |.one w _ _ _=>w
 |.wait _ _=>"wait"
 |.draw _ _ _=>"draw"
 |.start _ _ _=>"start"
def Pl.k:Pl->Int
 |.one _ k _ _=>k
 |.wait k _=>k
 |.draw k _ _=>k
 |.start k _ _=>k
def Pl.ns:Pl->List VA
 |.one _ _ x _=>[x]
 |.wait _ _=>[]
 |.draw _ x r=>[x,r]
 |.start _ x _=>[x]
def Pl.es:Pl->List Tr
 |.one _ _ _ e=>[e]
 |.wait _ e=>[e]
 |.draw _ _ _=>[]
 |.start _ _ es=>es
def Sm.es:Sm->List Tr
 |.pl p=>p.es
 |.wh _ _ a b _=>[a,b]
def Sm.k:Sm->Int
 |.pl p=>p.k
 |.wh k _ _ _ _=>k
def az:Tr->List Cs
 |.name x=>[.nam x]
 |.num n=>[.num n]
 |.now=>[.now]
 |.own=>[.own]
 |.bin o l r=>az l++az r++[.op o]
def sh(a:List Cs):List Ta:=a.map λc=>.tuple c.L
def F4(K:RP)(H:Hp)(l:Tu)(ds:List Ta):Prop:=∃a,H l=!(.lst a)/\XF K H a ds
#print c
theorem F4.fr(h:F4 K H l ds)(f:pq m H H')(n:l≠m)(b:F4 K H m es):F4 K H' l ds:=by let{a,c,d}:=h;let{_,e,_}:=b;exact{a,f _ _ n c,bO (f.kt e) d}
theorem F4.same(h:F4 K H l ds)(k:dA H H'):F4 K H' l ds:=by let{a,b,c}:=h;exact{a,k _ _ b,bO (Kt.of k) c}
theorem F4.len(h:F4 K H l ds)(e:H l=!(.lst acc)):acc.length=ds.length:=by let{a,b,c}:=h;rw[e]at b;cases b;exact aX c
theorem F4.put(h:F4 K H l ds)(e:H l=!(.lst acc))(k:dA H H1)(m:Mu H1 l (.lst (acc++[v])) H')(f:Fz K H1 v d):F4 K H' l (ds++[d]):=by let{a,b,c}:=h;rw[e]at b;cases b;have kt:=(pq.mu m).kt (k _ _ e);exact{_,m.at_,eM (bO ((Kt.of k).trans kt) c) (.cons (cr kt f) .nil)}
def eQ(k:dA H0 H)(n:H0 l=none)(f:pq l H H'):dA H0 H':=λa o h=>f a o (λz=>by rw[z,n]at h;cases h) (k _ _ h)
def Kf(K:RP)(n:Nat):Sp:=G3 (A:=V×Tr×Tu×List Ta×Hp) (λa=>[a.1,.ref a.2.2.1]) (λa H=>Rp K a.2.2.2.2 a.1 (Xv a.2.1)/\dA a.2.2.2.2 H/\a.2.2.2.2 a.2.2.1=none/\a.2.1.depth<n/\F4 K H a.2.2.1 a.2.2.2.1/\a.2.2.2.1.length+(az a.2.1).length<=1000000) (λa H v b=>v=.non/\pq a.2.2.1 H b/\F4 K b a.2.2.1 (a.2.2.2.1++sh (az a.2.1)))
def LZ(D:hW K mg "lay_expression" iR ["e","steps"]):∀n,%[(n+1),"lay_expression",["e","steps"]|Kf K n]:=by
 intro n;induction n with
 |zero=>exists D.I io;exact absurd p.2.2.2.1 (Nat.not_lt_zero _)
 |succ n Ou=>
  exists D.I io;let{v,t,l,W,H0}:=a;dsimp only at p q⊢;let{r,I,X,dp,li,sz}:=p;have hu:=bA hr;have b:=eO;exists _,(ae (aH (jH pF (ar (pv 0) ac) (am (aW aq aq aq)) (by with_unfolding_all rfl)) (aa (av (aB Ou hr rfl (ay (ar (pv 0) ac) (pv 1)))) (aa (av (aB Ou hr rfl (ay (ar (pv 0) ac) (pv 1)))) (ae (av (a8 (pv 1) (am (aD (ar (pv 0) ac)))))))) (ae (av (a8 (pv 1) (pv 0))))));let{a0,R,l2}:=id li;have ll:=aX l2;have fin:∀(a:Tu) (Z:List V) (c:Cs) (u B:Hp),H0 a=!(.tup Z)->XF K u Z c.L->dA H u->Mu u l (.lst (a0++[.ref a])) B->(az t= [c])->Q .non B:=λa Z c u B i f k m e=>q _ _ {rfl,(pq.of k).trans (.mu m),by rw[e];exact li.put R k m (.tup (bP (k _ _ (I _ _ i))) f)};cases t with
  |num m=>let{a,x,y,rfl,i,G,S}:=Rp.aw r;cases G.str_inv;cases S.int_inv;have F:=I _ _ i;symm;intro T u Y j e1;have J:=j _ _ R;symm;exact{by ext,λB M=>fin a _ (.num m) u B i (.cons (.str _) (.cons (.int _) .nil)) j M rfl}
  |name z=>let{a,x,y,rfl,i,G,S}:=Rp.aw r;cases G.str_inv;cases S.str_inv;have F:=I _ _ i;symm;intro T u Y j e1;have J:=j _ _ R;symm;exact{by ext,λB M=>fin a _ (.nam z) u B i (.cons (.str _) (.cons (.str _) .nil)) j M rfl}
  |now=>let{a,x,rfl,i,G}:=Rp.bx r;cases G.str_inv;have F:=I _ _ i;symm;intro T u Y j e1;have J:=j _ _ R;symm;exact{by ext,λB M=>fin a _ .now u B i (.cons (.str _) .nil) j M rfl}
  |own=>let{a,x,rfl,i,G}:=Rp.bx r;cases G.str_inv;have F:=I _ _ i;symm;intro T u Y j e1;have J:=j _ _ R;symm;exact{by ext,λB M=>fin a _ .own u B i (.cons (.str _) .nil) j M rfl}
  |bin o O ty=>let{a,x,y,z,rfl,i,G,S,hz}:=Rp.bz r;cases G.str_inv;have F:=I _ _ i;have hn:max O.depth ty.depth+1<n+1:=dp;have a3:W.length+((az O).length+(az ty).length+1)<=1000000:=(by have:=sz;rw[az,QN,QN]at this;exact this);symm;intro T u Y j e1;have a4:=j _ _ F;refine{T,_,rfl,.inl e1,rfl,rfl,_,rfl,bN (by cases o<;>rfl) ?_};symm;refine{(y,O,l,W,H0),rfl,{S,ai I j,X,by show O.depth<n;ext,li.same j,by dsimp only;ext},λv B w2=>?_};let{rfl,f2,a1}:=w2;have k2:=eQ (ai I j) X f2;have a5:=k2 _ _ i;symm;refine{(z,ty,l,W++sh (az O),H0),rfl,{hz,k2,X,by show ty.depth<n;ext,a1,by dsimp only[sh];rw[QN,QL];ext},λv H3 w3=>?_};let{rfl,f3,N}:=w3;have k3:=eQ k2 X f3;have a9:=k3 _ _ i;let{a2,l3,_}:=id N;have U:=N.len l3;dsimp only[sh]at U;rw[QN,QN,QL,QL]at U;symm;intro p4 H4 n4 k4 e4;have l4:=k4 _ _ l3;symm;refine{by ext,λH5 m5=>q _ _ {rfl,(((pq.of j).trans f2).trans f3).trans ((pq.of k4).trans (.mu m5)),?_}};have:=N.put l3 k4 m5 (d:=.tuple (Cs.op o).L) (.tup (bP e4) (.cons (.str _) .nil));show F4 K H5 l (W++sh (az O++az ty++[.op o]));unfold sh at *;rw[QT,QT,<-QQ,<-QQ];exact this
end
def Pl.ok:Pl->Prop
 |.one w _ _ _=>w∈(["take","give","put","get","let","say"]:List VA)
 |_=>True
def Sm.ok:Sm->Prop
 |.pl p=>p.ok
 |.wh _ _ _ _ x=>∀p∈x,p.ok
section
variable{C:CA}{K:RP}{P:S9}{w:Td}{mg:VA->Option S5}{base:Heap}{H:Hp}{a:Tu}{k:Int}{x r sg:VA}{e e':Tr}{es:List Tr}{v:V}
theorem _ao(k:dA H H1)(h:H1 p=none):H p=none:=by
 cases z:H p with
 |none=>rfl
 |some u=>rw[k _ _ z]at h;cases h
def rl2{K:RP}{H:Hp}{xs:List V}{d e:Ta}(h:jk K H xs [d,e]):∃x y,xs= [x,y]/\Rp K H x d/\Rp K H y e:=by cases h with|cons a h=>cases h with|cons b h=>cases h;exact{_,_,rfl,a,b}
def _n{K:RP}{H:Hp}{xs:List V}{d e f:Ta}(h:jk K H xs [d,e,f]):∃x y z,xs= [x,y,z]/\Rp K H x d/\Rp K H y e/\Rp K H z f:=by cases h with|cons a h=>let{x,y,rfl,b,c}:=rl2 h;exact{_,_,_,rfl,a,b,c}
def _d{K:RP}{H:Hp}{xs:List V}{d e f g:Ta}(h:jk K H xs [d,e,f,g]):∃x y z u,xs= [x,y,z,u]/\Rp K H x d/\Rp K H y e/\Rp K H z f/\Rp K H u g:=by cases h with|cons a h=>let{x,y,z,rfl,b,c,e}:=_n h;exact{_,_,_,_,rfl,a,b,c,e}
def mv(h:jk K H xs (.str s::.int n::ds)):∃r,xs=.str s::.int n::r/\jk K H r ds:=by let{v,i,rfl,b,c}:=h.cons_inv;let{v,j,rfl,d,f}:=c.cons_inv;cases b.str_inv;cases d.int_inv;exact{_,rfl,f}
def qt{w:VA}(h:Rp K H v (X1 (.one w k x e))):∃a u,v=.ref a/\H a=!(.tup [.str w,.int k,.str x,u])/\Rp K H u (Xv e):=by let{a,j,rfl,b,c}:=h.E;let{n,rfl,d}:=mv c;let{o,p,rfl,f,i}:=rl2 d;cases f.str_inv;exact{_,_,rfl,b,i}
def mU(h:Rp K H v (X1 (.wait k e))):∃a u,v=.ref a/\H a=!(.tup [.str "wait",.int k,u])/\Rp K H u (Xv e):=by let{a,j,rfl,b,c}:=h.E;let{n,rfl,d}:=mv c;let{o,p,rfl,f,i}:=d.cons_inv;cases i;exact{_,_,rfl,b,f}
def mV(h:Rp K H v (X1 (.draw k x r))):∃a,v=.ref a/\H a=!(.tup [.str "draw",.int k,.str x,.str r]):=by let{a,j,rfl,b,c}:=h.E;let{n,rfl,d}:=mv c;let{o,p,rfl,f,i}:=rl2 d;cases f.str_inv;cases i.str_inv;exact{_,rfl,b}
def kF(h:Rp K H v (X1 (.start k x es))):∃a l b,v=.ref a/\H a=!(.tup [.str "start",.int k,.str x,.ref l])/\H l=!(.lst b)/\jk K H b (es.map Xv):=by let{a,o,rfl,c,d}:=h.E;let{p,rfl,f}:=mv d;let{q,u,rfl,i,j}:=rl2 f;cases i.str_inv;let{l,b,rfl,hl,n}:=j.lst_inv;exact{_,_,_,rfl,c,hl,n}
def ua{y:List Pl}(h:Rp K H v (.tuple (Sm.wh k sg e e' y).L)):∃a u c l b,v=.ref a/\H a=!(.tup [.str "while",.int k,.str sg,u,c,.ref l])/\Rp K H u (Xv e)/\Rp K H c (Xv e')/\H l=!(.lst b)/\jk K H b (y.map X1):=by let{a,z,rfl,d,f}:=h.E;let{A,rfl,i}:=mv f;let{B,E,F,G,rfl,j,n,o,p}:=_d i;cases j.str_inv;let{l,b,rfl,hl,q}:=p.lst_inv;exact{_,_,_,_,_,rfl,d,n,o,hl,q}
def qv{w:VA}(h:w∈(["take","give","put","get","let","say"]:List VA)):w≠"start"/\w≠"wait"/\w≠"if"/\w≠"while"/\w≠"draw"/\w≠"stop":=by simp only[RH,Q7,or_false]at h;rcases h with e|e|e|e|e|e<;>(rw[e];decide)
def Kg(K:RP):Sp:=G3 (A:=V×Sm×Hp) (λa=>[a.1]) (λa H=>Rp K a.2.2 a.1 (.tuple a.2.1.L)/\a.2.1.ok/\dA a.2.2 H) (λa H v b=>∃r c,v=.ref r/\H r=none/\dA H b/\b r=!(.lst c)/\jk K a.2.2 c (a.2.1.es.map Xv))
def L0(D:hW K mg "expressions_of" iP ["statement"])(S:mg "list" =none):%[1,"expressions_of",["statement"]|Kg K]:=by
 exists D.I ii;let{v,s,T}:=a;dsimp only at p q⊢;let{h,ok,i}:=p;have hu:=bA hr;have fin:∀r z vs,H r=none->dA H z->z r=!(.lst vs)->jk K T vs (s.es.map Xv)->Q (.ref r) z:=λr z vs hr g e f=>q _ _ {(r),vs,rfl,hr,g,e,f};exists _,(aa (aT 1 ii (ar (pv 0) ac)) (aa (aH (aK a7 (pv 1) aq) (ae (aw (cn d9 S (aD (ar (pv 0) ac))))) aE) (aa (aH (aK a7 (pv 1) aq) (ae (aw (aQ (aD (ar (pv 0) ac))))) aE) (aa (aH (jH pF (pv 1) (am (ay aq aq)) (by with_unfolding_all rfl)) (ae (aw (aQ (ay (ar (pv 0) ac) (ar (pv 0) ac))))) aE) (aa (aH (jH pF (pv 1) (am (ay aq aq)) (by with_unfolding_all rfl)) (ae (aw (aQ bJ))) aE) (ae (aw (aQ (aD (ar (pv 0) ac))))))))));cases s with
 |wh k sg a' b' x=>let{_,va,vb,l,U,rfl,b,W,X,_}:=ua h;have b:=i _ _ b;symm;intro j n o c e1;have y:=c _ _ b;symm;intro B F G d e2;exact fin B F _ (_ao c G) (ai c d) e2 (.cons W (.cons X .nil))
 |pl p=>
  cases p with
  |start k x es=>let{_,l,U,rfl,b,O,Y}:=kF h;have O:=i _ _ O;have b:=i _ _ b;symm;intro j n o c e1;exact fin j n _ o c e1 Y
  |wait k e=>let{_,u,rfl,b,Z}:=mU h;have b:=i _ _ b;symm;intro j n o c e1;exact fin j n _ o c e1 (.cons Z .nil)
  |draw k x r=>let{_,rfl,b}:=mV h;have b:=i _ _ b;symm;intro j n o c e1;symm;intro B F G d e2;symm;intro I J M N e3;exact fin I J _ (_ao c (_ao d M)) (ai (ai c d) N) e3 .nil
  |one wd k x e=>let{_,u,rfl,b,g2}:=qt h;have b:=i _ _ b;let{o,G,M,n4,n5,n6}:=qv ok;symm;intro j n m1 c e1;have y:=c _ _ b;symm;refine bp (by rw[decide_eq_false (Ne.symm M),decide_eq_false (Ne.symm n4)];decide) ?_;symm;intro B F m2 d e2;have R:=d _ _ y;symm;refine bp (by rw[decide_eq_false (Ne.symm n5),decide_eq_false (Ne.symm n6)];decide) ?_;symm;intro I J m3 N e3;exact fin I J _ (_ao c (_ao d m3)) (ai (ai c d) N) e3 (.cons g2 .nil)
def Kh(K:RP):Sp:=G3 (A:=V×Pl) (λa=>[a.1]) (λa H=>Rp K H a.1 (X1 a.2)/\a.2.ok) (λa H v b=>∃r,v=.ref r/\dA H b/\b r=!(.tup (a.2.ns.map .str)))
def L1(D:hW K mg "names_of" pT ["statement"]):%[1,"names_of",["statement"]|Kh K]:=by
 exists D.I nM;let{v,s}:=a;dsimp only at p q⊢;let{h,ok}:=p;have fin:∀r o,dA H o->o r=!(.tup (s.ns.map .str))->Q (.ref r) o:=λr o g e=>q _ _ {(r),rfl,g,e};exists _,(aa (aT 1 nM (ar (pv 0) ac)) (aa (aH (jH pF (pv 1) (am (bT aq aq aq aq)) (by with_unfolding_all rfl)) (ae (aw (am bJ))) aE) (aa (aH (aK a7 (pv 1) aq) (ae (aw (am (ay (ar (pv 0) ac) (ar (pv 0) ac))))) aE) (ae (aw (am (aD (ar (pv 0) ac))))))));cases s with
 |start k x es=>let{_,l,M,rfl,j,N,O}:=kF h;symm;intro z B F b e1;have n:=b _ _ j;symm;intro c d y i e2;exact fin c d (ai b i) e2
 |wait k e=>let{_,u,rfl,j,R}:=mU h;symm;intro z B F b e1;symm;intro c d y i e2;exact fin c d (ai b i) e2
 |draw k x r=>let{_,rfl,j}:=mV h;symm;intro z B F b e1;have n:=b _ _ j;symm;intro c d y i e2;exact fin c d (ai b i) e2
 |one S k x e=>let{_,u,rfl,j,T}:=qt h;let{F,y,G,I,U,J}:=qv ok;symm;intro z B W b e1;have n:=b _ _ j;symm;refine bp (by rw[decide_eq_false (Ne.symm y),decide_eq_false (Ne.symm G),decide_eq_false (Ne.symm I),decide_eq_false (Ne.symm J)];decide) ?_;symm;intro c d X i e2;exact fin c d (ai b i) e2
end
#print c
def fV(s:Sm):List Cs:=.beg s.k::s.es.flatMap az
structure BgA where
 v:V
 s:Sm
 l:Tu
 ds:List Ta
 H0:Hp
structure BgP(K:RP)(n:Nat)(a:BgA)(H:Hp):Prop where
 r:Rp K a.H0 a.v (.tuple a.s.L)
 ok:a.s.ok
 k:dA a.H0 H
 n0:a.H0 a.l=none
 li:F4 K H a.l a.ds
 dp:∀e∈a.s.es,e.depth<n
 sz:a.ds.length+(fV a.s).length<=1000000
def DL(K:RP)(n:Nat):Sp:=G3 (A:=BgA) (λa=>[a.v,.ref a.l]) (λa H=>BgP K n a H) (λa H v b=>v=.non/\pq a.l H b/\F4 K b a.l (a.ds++sh (fV a.s)))
def BgI(K:RP)(a:BgA)(H:Hp)(r:Tu)(vs:List V)(i:Nat)(σ:St)(b:Hp):Prop:=∃c,σ= [!a.v,!(.ref a.l),c]/\pq a.l H b/\b r=!(.lst vs)/\F4 K b a.l (a.ds++sh (.beg a.s.k::(a.s.es.take i).flatMap az))
def L3{s:Sm}(h:Rp K H v (.tuple s.L)):∃a wd r,v=.ref a/\H a=!(.tup (wd::.int s.k::r)):=by
 cases s with
 |wh k sg a b x=>let{a,u,e,l,d,rfl,c,_}:=ua h;exact{_,_,_,rfl,c}
 |pl p=>cases p with
  |one=>let{a,u,rfl,c,_}:=qt h;exact{_,_,_,rfl,c}
  |wait=>let{a,u,rfl,c,_}:=mU h;exact{_,_,_,rfl,c}
  |draw=>let{a,rfl,c}:=mV h;exact{_,_,_,rfl,c}
  |start=>let{a,l,d,rfl,c,_}:=kF h;exact{_,_,_,rfl,c}
def L4(D:hW K mg "lay_beginning" jn ["statement","steps"])(OS:%[1,"expressions_of",["statement"]|Kg K])(Ou:%[(n+1),"lay_expression",["e","steps"]|Kf K n]):%[(n+2),"lay_beginning",["statement","steps"]|DL K n]:=by
 exists D.I iQ;let{v,s,l,R,F}:=a;let{r,ok,o,u,li,S,sz}:=p;dsimp only at q r ok o u li S sz⊢;let{T,wd,sr,rfl,hs}:=L3 r;have a0:=o _ _ hs;let{a1,U,l2}:=id li;have ll:=aX l2;have b:=eO;exists _,(aa (av (a8 (pv 1) (am (ay aq (ar (pv 0) ac))))) (ae (cE Tl.never rfl (bC (aB OS hr rfl (aD (pv 0)))) (aZ 2 iQ) (ae (av (aB Ou hr rfl (ay (pv 2) (pv 1))))))));symm;intro p1 H1 m1 G e1;have a2:=G _ _ U;symm;refine{by ext,λH2 I=>?_};have W:=(pq.of G).trans (.mu I);have J:=li.put U G I (d:=.tuple (Cs.beg s.k).L) (.tup (bP e1) (.cons (.str _) (.cons (.int _) .nil)));have k2:=eQ o u W;symm;apply ce;unfold cC;symm;refine{(.ref T,s,F),rfl,{(r),ok,k2},λv H3 w3=>?_};let{x,vs,rfl,M,X,e3,N}:=w3;dsimp only at M N;symm;have xl:x≠l:=λz=>by rw[z,I.at_]at M;cases M
 refine{{_,ip.of e3},cQ (xs:=vs) (BgI K {.ref T,s,l,R,F} H x vs) {_,rfl,W.trans (.of X),e3,J.same X} (λi σ Y _ e=>?_) (λi y σ Y hy e=>?_) λσ Y e=>?_};.let{_,_,_,B,_}:=e;exact ip.of B
 .let{v2,rfl,j,B,c}:=e;let{d,Z,ry}:=cK N hy;rw[QY]at Z;let{t,ht,rfl}:=Xq Z;have mt:=QW ht;have et:s.es.take (i+1)=s.es.take i++[t]:=by rw[RU,ht];rfl
  have sz4:(R++sh (.beg s.k::(s.es.take i).flatMap az)).length+(az t).length<=1000000:=by have e1:(s.es.take (i+1)).flatMap az=(s.es.take i).flatMap az++az t:=(by rw[et,Rm];simp);have e2:=congrArg (λl=>(l.flatMap az).length) (Ry (i+1) s.es);rw[Rm,QN,e1,QN]at e2;unfold fV at sz;unfold sh;rw[QN,QL,QP];rw[QP]at sz;ext
  symm;refine{(y,t,l,_,F),rfl,{ry,eQ o u j,u,S t mt,c,sz4},λv H5 w5=>?_};let{rfl,f5,O}:=w5;exists _,rfl,j.trans f5,f5 _ _ xl B;rw[et,Rm];unfold sh at *;simpa[QQ]using O
 .let{v2,rfl,j,B,c}:=e;dsimp only at j c;refine q _ _ {rfl,j,?_};have lv:=aX N;rw[QL]at lv;rw[QZ Xu]at c;exact c
def Ki(K:RP):Sp:=G3 (A:=Tu×List Ta) (λa=>[.ref a.1]) (λa H=>F4 K H a.1 a.2/\a.2.length<1000000) (λa H v b=>v=.int a.2.length/\pq a.1 H b/\F4 K b a.1 (a.2++[.tuple []]))
def L5(D:hW K mg "hold_free" nP ["steps"])(u:mg "len" =none):%[1,"hold_free",["steps"]|Ki K]:=by
 exists D.I uX;let{l,v}:=a;dsimp only at p q⊢;let{li,sz}:=p;let{c,o,x}:=id li;have z:=aX x;have b:=eO;exists _,(aa (av (a8 (pv 0) (am bJ))) (ae (aw (aM dF (fL cF rfl u TV (aD (pv 0))) ac))));symm;intro r B F i e1;refine{_,i _ _ o,by ext,λy j=>?_};have n:=li.put o i j (d:=.tuple []) (.tup (bP e1) .nil);symm;exists _,.inl (ip.of j.at_),_,_,rfl,rfl;have e:((c++[V.ref r]).length:Int)-1=v.length:=by rw[QN,Q0];ext
 show Q (.int (((c++[V.ref r]).length:Int)-1)) y;rw[e];exact q _ _ {rfl,(pq.of i).trans (.mu j),n}
def su(p:Pl):List Cs:=fV (.pl p)++[.deed p.w p.ns]
def NJ(o:Nat):List Pl->Cd
 |[]=>([],[])
 |p::r=>(su p++(NJ (o+(su p).length) r).1,(p.k,o+(su p).length)::(NJ (o+(su p).length) r).2)
def XY(o:Nat):Sm->Cd
 |.pl p=>(su p,[(p.k,o+(su p).length)])
 |.wh k sg a b x=>
  let h:=fV (.wh k sg a b x);let i:=NJ (o+h.length+1) x
  (h++.unl sg (o+h.length+1+i.1.length+1)::i.1++[.jmp o],i.2)
def ql(o:Nat):List Sm->Cd
 |[]=>([],[])
 |s::r=>((XY o s).1++(ql (o+(XY o s).1.length) r).1,(XY o s).2++(ql (o+(XY o s).1.length) r).2)
theorem qw:∀(x:List Pl) (o:Nat),ql o (x.map .pl)=NJ o x:=by
 intro x;induction x with
 |nil=>intro o;rfl
 |cons p r a=>intro o;rw[QU,ql,a];rfl
def Zr(l:List (Int×Nat)):List Ta:=l.map λp=>.tuple [.int p.1,.int p.2]
def YE(l m:Tu)(H b:Hp):Prop:=∀a o,a≠l->a≠m->H a=!o->b a=!o
theorem YE.trans(f:YE l m H H')(g:YE l m H' H''):YE l m H H'':=λa o n b h=>g a o n b (f a o n b h)
theorem YE.l{l:Tu}(f:pq l H H'):YE l m H H':=λa o n _ h=>f a o n h
theorem YE.m{l m:Tu}(f:pq m H H'):YE l m H H':=λa o _ n h=>f a o n h
def kH(k:dA H0 H)(n:H0 l=none)(b:H0 m=none)(f:YE l m H H'):dA H0 H':=λa o h=>f a o (λz=>by rw[z,n]at h;cases h) (λz=>by rw[z,b]at h;cases h) (k _ _ h)
structure LbA where
 bl:Tu
 xs:List Sm
 l:Tu
 m:Tu
 ds:List Ta
 ps:List Ta
 H0:Hp
def Sm.depth(s:Sm)(n:Nat):Prop:=(∀e∈s.es,e.depth<n)/\match s with
 |.pl _=>True
 |.wh _ _ _ _ x=>∀p∈x,∀e∈p.es,e.depth<n
structure LbP(K:RP)(n:Nat)(b:Bool)(a:LbA)(H:Hp):Prop where
 r:Rp K a.H0 (.ref a.bl) (.list (a.xs.map λs=>.tuple s.L))
 ok:∀s∈a.xs,s.ok
 dp:∀s∈a.xs,s.depth n
 nb:b=false->∀s∈a.xs,∃p,s=.pl p
 k:dA a.H0 H
 l0:a.H0 a.l=none
 m0:a.H0 a.m=none
 ne:a.l≠a.m
 li:F4 K H a.l a.ds
 mi:F4 K H a.m a.ps
 sz:a.ds.length+(ql a.ds.length a.xs).1.length<=1000000
 sp:a.ps.length+(ql a.ds.length a.xs).2.length<=1000000
def LbR(K:RP)(a:LbA)(xs:List Sm)(H b:Hp):Prop:=YE a.l a.m H b/\F4 K b a.l (a.ds++sh (ql a.ds.length xs).1)/\F4 K b a.m (a.ps++Zr (ql a.ds.length xs).2)
def DM(K:RP)(n:Nat)(b:Bool):Sp:=G3 (A:=LbA) (λa=>[.ref a.bl,.ref a.l,.ref a.m]) (λa H=>LbP K n b a H) (λa H v c=>v=.non/\LbR K a a.xs H c)
structure _g where
 v:V
 k:Int
 sg:VA
 e:Tr
 e':Tr
 x:List Pl
 l:Tu
 m:Tu
 ds:List Ta
 ps:List Ta
 H0:Hp
def _g.s(a:_g):Sm:=.wh a.k a.sg a.e a.e' a.x
structure LwP(K:RP)(n:Nat)(a:_g)(H:Hp):Prop where
 r:Rp K a.H0 a.v (.tuple a.s.L)
 ok:a.s.ok
 dp:a.s.depth n
 k:dA a.H0 H
 l0:a.H0 a.l=none
 m0:a.H0 a.m=none
 ne:a.l≠a.m
 li:F4 K H a.l a.ds
 mi:F4 K H a.m a.ps
 sz:a.ds.length+(XY a.ds.length a.s).1.length<=1000000
 sp:a.ps.length+(XY a.ds.length a.s).2.length<=1000000
def zx(K:RP)(n:Nat):Sp:=G3 (A:=_g) (λa=>[a.v,.ref a.l,.ref a.m]) (λa H=>LwP K n a H) (λa H v b=>v=.non/\YE a.l a.m H b/\F4 K b a.l (a.ds++sh (XY a.ds.length a.s).1)/\F4 K b a.m (a.ps++Zr (XY a.ds.length a.s).2))
theorem F4.set(h:F4 K H l ds)(e:H l=!(.lst acc))(k:dA H H1)(m:Mu H1 l (.lst (acc.set j v)) H')(f:Fz K H1 v d):F4 K H' l (ds.set j d):=by
 let{c,i,n}:=h;rw[e]at i;cases i;have kt:=(pq.mu m).kt (k _ _ e);exists _,m.at_;have o:=bO ((Kt.of k).trans kt) n;have p:=cr kt f;clear n m e;induction acc generalizing ds j with
 |nil=>cases o;exact .nil
 |cons x r q=>
  cases o with
  |cons a b=>
   cases j with
   |zero=>exact .cons p b
   |succ j=>exact .cons a (q b)
def Kj(D:hW K mg "lay_while" nO ["statement","steps","places"])(NO:mg "len" =none)(Ol:%[(n+2),"lay_beginning",["statement","steps"]|DL K n])(Pq:%[1,"hold_free",["steps"]|Ki K])(OT:%[(n+3),"lay_body",["body","steps","places"]|DM K n false]):%[(n+4),"lay_while",["statement","steps","places"]|zx K n]:=by
 exists D.I iS;let{v,k,sg,e,S,x,l,m,c,ps,H0}:=a;let{r,ok,T,O,y,U,ne,li,mi,sz,W}:=p;dsimp only[_g.s]at q r ok T O y U ne li mi sz W⊢;let{sa,u,u',bl,ys,rfl,hs,r1,r2,hb,r3}:=ua r;have a3:=O _ _ hs;have i5:NB [V.str "while",.int k,.str sg,u,u',.ref bl] 5=!(.ref bl):=rfl;let{a4,l1,l2}:=id li;have ll:=aX l2;have hu:=bA hr;have b:=eO;exists _,(aa (aT 3 iS (fL cF rfl NO TV (aD (pv 1)))) (aa (av (aB Ol hr rfl (ay (pv 0) (pv 1)))) (aa (aT 4 iS (aB Pq hr rfl (aD (pv 1)))) (aa (av (aB OT hr rfl (aW (ar (pv 0) ac) (pv 1) (pv 2)))) (aa (av (a8 (pv 1) (am (ay aq (pv 3))))) (ae (bW (am (aW aq (ar (pv 0) ac) (fL cF rfl NO TV (aD (pv 1))))) (iH (pv 1) (pv 4) dR))))))));symm;exists _,.inl (ip.of l1);symm;generalize X:fV (.wh k sg e S x)=h at *;have sc:XY c.length (.wh k sg e S x)=(h++.unl sg (c.length+h.length+1+(NJ (c.length+h.length+1) x).1.length+1)::(NJ (c.length+h.length+1) x).1++[.jmp c.length],(NJ (c.length+h.length+1) x).2):=by rw[<-X];rfl
 rw[sc]at q sz W;generalize ei:NJ (c.length+h.length+1) x=i at *;dsimp only at q sz W;simp only[QN,QP,Rl]at sz;have lc:(sh h).length=h.length:=QL ..;refine{{.ref sa,.wh k sg e S x,l,c,H0},rfl,{r,ok,O,y,li,T.1,by rw[X];dsimp only;ext},λv H1 w1=>?_};let{rfl,Y,o}:=w1;dsimp only at Y o;rw[X]at o;have Z:=mi.fr Y ne.symm li;symm;refine{(l,c++sh h),rfl,{o,by rw[QN];ext},λv H2 w2=>?_};let{rfl,f2,z}:=w2;dsimp only at f2 z;have a0:=Z.fr f2 ne.symm o;have B:=Y.trans f2;have k2:=eQ O y B;have a5:=k2 _ _ hs;have le:((c++sh h)++[Ta.tuple []]).length=c.length+h.length+1:=by rw[QN,QN,lc];rfl
 have eb:ql ((c++sh h)++[Ta.tuple []]).length (x.map .pl)=i:=by rw[qw,le,ei]
 symm;refine{{bl,x.map .pl,l,m,(c++sh h)++[.tuple []],ps,H0},rfl,{.lst hb (by rw[Rb];exact r3),?_,?_,?_,k2,y,U,ne,z,a0,by dsimp only;rw[eb,le];ext,by dsimp only;rw[eb];ext},λv H3 w3=>?_};.intro s hs;let{p,R,rfl}:=Xl hs;exact ok p R
 .intro s hs;let{p,R,rfl}:=Xl hs;exact{T.2 p R,trivial}
 .intro _ s hs;let{p,R,rfl}:=Xl hs;exact{(p),rfl}
 let{rfl,f3,j,F}:=w3;rw[eb]at j F;have k3:=kH k2 y U f3;let{G,l3,_}:=id j;have I:=j.len l3;have a1:(sh i.1).length=i.1.length:=QL ..;rw[QN,le,a1]at I;symm;intro p4 H4 n4 k4 e4;have l4:=k4 _ _ l3;symm;refine{by ext,λH5 J=>?_};have M:=j.put l3 k4 J (d:=.tuple (Cs.jmp c.length).L) (.tup (bP e4) (.cons (.str _) (.cons (.int _) .nil)));have f5:=(pq.of k4).trans (.mu J);have k5:=eQ k3 y f5;have a9:=k5 _ _ hs;have a2:=F.fr f5 ne.symm j;symm;exists _,.inl (ip.of J.at_);have ln:((G++[V.ref p4]).length:Int)=((c.length+h.length+1+i.1.length+1:Nat):Int):=by rw[QN,Q0,I]
 rw[ln];symm;intro p6 H6 n6 k6 e6;symm;refine{_,k6 _ _ J.at_,(c++sh h).length,?_,λH7 m7=>?_};.unfold YM;rw[Xf (Int.natCast_nonneg _),Xf (by rw[ln,QN,lc];ext)];rfl
 have N:=M.set J.at_ k6 m7 (d:=.tuple (Cs.unl sg (c.length+h.length+1+i.1.length+1)).L) (.tup (bP e6) (.cons (.str _) (.cons (.str _) (.cons (.int _) .nil))));have f7:=(pq.of k6).trans (.mu m7);refine q _ _ {rfl,((YE.l B).trans f3).trans (.l (f5.trans f7)),?_,a2.fr f7 ne.symm M};have es:((c++sh h++[Ta.tuple []]++sh i.1)++[Ta.tuple (Cs.jmp c.length).L]).set (c++sh h).length (.tuple (Cs.unl sg (c.length+h.length+1+i.1.length+1)).L)=c++sh (h++.unl sg (c.length+h.length+1+i.1.length+1)::i.1++[.jmp c.length]):=by unfold sh;simp[QQ]
 rw[es]at N;exact N
def LbI(K:RP)(a:LbA)(H:Hp)(i:Nat)(σ:St)(b:Hp):Prop:=∃c,σ= [!(.ref a.bl),!(.ref a.l),!(.ref a.m),c]/\LbR K a (a.xs.take i) H b
theorem mW(x y:List Sm)(o:Nat):ql o (x++y)=((ql o x).1++(ql (o+(ql o x).1.length) y).1,(ql o x).2++(ql (o+(ql o x).1.length) y).2):=by
 induction x generalizing o with
 |nil=>rfl
 |cons s r a=>rw[Rn,ql,a,ql];rw[QN,SB,QQ,QQ]
theorem rF(s:Sm)(o:Nat):ql o [s]=XY o s:=by rw[ql,ql];rw[Rf,Rf]
def GG(hs:a.xs[i]? =!s)(h:LbR K a (a.xs.take i) H H1)(f:YE a.l a.m H1 H2) (l:F4 K H2 a.l ((a.ds++sh (ql a.ds.length (a.xs.take i)).1)++sh (XY (a.ds++sh (ql a.ds.length (a.xs.take i)).1).length s).1)) (m:F4 K H2 a.m ((a.ps++Zr (ql a.ds.length (a.xs.take i)).2)++Zr (XY (a.ds++sh (ql a.ds.length (a.xs.take i)).1).length s).2)):LbR K a (a.xs.take (i+1)) H H2:=by
 have b:a.xs.take (i+1)=a.xs.take i++[s]:=by rw[RU,hs];rfl
 have le:(a.ds++sh (ql a.ds.length (a.xs.take i)).1).length=a.ds.length+(ql a.ds.length (a.xs.take i)).1.length:=by unfold sh;rw[QN,QL]
 refine{h.1.trans f,?_,?_};.rw [b,mW,rF,<-le];unfold sh at *;rw[QT,<-QQ];exact l
 .rw [b,mW,rF,<-le];unfold Zr at *;rw[QT,<-QQ];exact m
def L6(o:Nat)(hs:xs[i]? =!s):(ql o (xs.take i)).1.length+(XY (o+(ql o (xs.take i)).1.length) s).1.length<=(ql o xs).1.length/\(ql o (xs.take i)).2.length+(XY (o+(ql o (xs.take i)).1.length) s).2.length<=(ql o xs).2.length:=by
 have e:xs=xs.take i++([s]++xs.drop (i+1)):=by have h:=Ry i xs;rw[List.drop_eq_getElem_cons (Xj hs).1,(Xj hs).2]at h;exact h.symm
 have e2:=congrArg (ql o) e;rw[mW,mW,rF]at e2;rw[e2];simp only[QN];ext
def EM(K:RP)(n:Nat)(b:Bool):Sp:=λa H Q E=>b=true/\zx K n a H Q E
def vI(ns:List VA):jk K H (ns.map .str) (ns.map .str):=by
 induction ns with
 |nil=>exact .nil
 |cons x r a=>exact .cons (.str _) a
def zy{x:VA}(h:(decide (x= "if") || decide (x= "while"))=false):x≠"if"/\x≠"while":=by simpa using h
def L7(h:Rp K H v (X1 p))(o:p.ok):∃a r,v=.ref a/\H a=!(.tup (.str p.w::.int p.k::r))/\p.w≠"if"/\p.w≠"while":=by
 cases p with
 |one=>let{a,u,rfl,b,_}:=qt h;exact{_,_,rfl,b,(qv o).2.2.1,(qv o).2.2.2.1}
 |wait=>let{a,u,rfl,b,_}:=mU h;exact{_,_,rfl,b,zy (x:=VA.ofString "wait") Xs}
 |draw=>let{a,rfl,b}:=mV h;exact{_,_,rfl,b,zy (x:=VA.ofString "draw") Xs}
 |start=>let{a,l,c,rfl,b,_}:=kF h;exact{_,_,rfl,b,zy (x:=VA.ofString "start") Xs}
def EN(D:hW K mg "lay_body" pU ["body","steps","places"])(NO:mg "len" =none)(Ol:%[(n+2),"lay_beginning",["statement","steps"]|DL K n])(Pd:%[1,"names_of",["statement"]|Kh K])(Ps:%[(n+if b=true then 4 else 2),"lay_while",["statement","steps","places"]|EM K n b]):%[(n+if b=true then 5 else 3),"lay_body",["body","steps","places"]|DM K n b]:=by
 have ef:(n+if b=true then 5 else 3)=(n+if b=true then 4 else 2)+1:=by cases b<;>rfl
 rw[ef];exists D.I nN;have p0:=p;let{bl,xs,l,m,o,ps,H0}:=a;let{r,ok,dp,nb,k0,G,m0,ne,li,mi,sz,sp}:=p;dsimp only at q r ok dp nb k0 G m0 ne li mi sz sp⊢;have a3:n+2<=n+if b=true then 4 else 2:=by split<;>ext
 have hu:=bA hr;have bg:=eO;let{_,ys,e,hb,rb}:=r.lst_inv;cases e;exists _,(ae (cE Tl.never rfl (bC (pv 0)) (aZ 3 nN) (ae (aH (aK a7 (ar (pv 3) ac) aq) z9 (ae (aH (aK a7 (ar (pv 3) ac) aq) (ae (av (aB Ps hr rfl (aW (pv 3) (pv 1) (pv 2))))) (aa (av (aB Ol hr rfl (ay (pv 3) (pv 1)))) (aa (av (a8 (pv 1) (am (aW aq (ar (pv 3) ac) (aB Pd hr rfl (aD (pv 3))))))) (ae (av (a8 (pv 2) (am (ay (ar (pv 3) ac) (fL cF rfl NO TV (aD (pv 1))))))))))))))));symm;apply ce;unfold cC;symm;refine{{_,ip.of (k0 _ _ hb)},cQ (xs:=ys) (LbI K {(bl),xs,l,m,o,ps,H0} H) {_,rfl,λ_ _ _ _ h=>h,by simpa[ql,sh]using li,by simpa[ql,Zr]using mi} (λi σ H4 _ R=>?_) (λi y σ H4 hy R=>?_) λσ H4 R=>?_};.let{_,_,f4,_}:=R;exact ip.of (kH k0 G m0 f4 _ _ hb)
 .let{v3,rfl,F}:=R;have f4:=F.1;have z:=F.2.1;have I:=F.2.2;dsimp only at f4 z I;have S:=kH k0 G m0 f4;let{d,hd,T}:=cK rb hy;rw[QY]at hd;let{s,hs,rfl}:=Xq hd;have J:=QW hs;have sz4:=L6 o.length hs;have le:(o++sh (ql o.length (xs.take i)).1).length=o.length+(ql o.length (xs.take i)).1.length:=by unfold sh;rw[QN,QL]
  have lp:(ps++Zr (ql o.length (xs.take i)).2).length=ps.length+(ql o.length (xs.take i)).2.length:=by unfold Zr;rw[QN,QL]
  rw[<-le]at sz4;have nx:=λ(H5:Hp)=>GG (H2:=H5) hs F;dsimp only at nx;generalize o++sh (ql o.length (xs.take i)).1=j at *;generalize ps++Zr (ql o.length (xs.take i)).2=D2 at *;clear hd hy;cases s with
  |wh k sg e e' x=>
   let{sa,u,u',a4,a5,rfl,U,_}:=ua T;have a0:=S _ _ U;symm;have bt:b=true:=by
    cases b with
    |true=>rfl
    |false=>let{p,e}:=nb rfl _ J;cases e
   refine{bt,{.ref sa,k,sg,e,e',x,l,m,j,D2,H0},rfl,{T,ok _ J,dp _ J,S,G,m0,ne,z,I,by dsimp only[_g.s];ext,by dsimp only[_g.s];ext},λv H5 w5=>?_};let{rfl,O,c,M}:=w5;symm;exact{_,rfl,nx H5 O c M}
  |pl p=>let{sa,sr,rfl,U,n1,n2}:=L7 T (ok _ J);have a0:=S _ _ U;have i0:NB (V.str p.w::.int p.k::sr) 0=!(.str p.w):=yC;have i1:NB (V.str p.w::.int p.k::sr) 1=!(.int p.k):=Eg;have lq:(su p).length=(fV (.pl p)).length+1:=(by unfold su;rw[QN];rfl);have sz5:j.length+(su p).length<=1000000:=(by have:=sz4.1;show j.length+(XY j.length (.pl p)).1.length<=_;ext);symm;refine{{.ref sa,.pl p,l,j,H0},rfl,{T,ok _ J,S,G,z,(dp _ J).1,by dsimp only;ext},λv H5 w5=>?_};let{rfl,O,c}:=w5;dsimp only at O c;have k5:=eQ S G O;have M:=I.fr O ne.symm z;have a9:=k5 _ _ U;let{W,l5,_}:=id c;have X:=c.len l5;have Y:(j++sh (fV (.pl p))).length=j.length+(fV (.pl p)).length:=(by unfold sh;rw[QN,QL]);rw[Y]at X;clear Y hs;dsimp only;symm;refine{(.ref sa,p),rfl,{Rp.mono k5 T,ok _ J},λv H6 w6=>?_};let{na,rfl,k6,e6}:=w6;intro p7 H7 n7 k7 e7;have N:=ai k6 k7;have l7:=N _ _ l5;symm;refine{by ext,λH8 m8=>?_};have Z:=c.put l5 N m8 (d:=.tuple (Cs.deed p.w p.ns).L) (.tup (bP e7) (.cons (.str _) (.cons (.str _) (.cons (.tup (bP (k7 _ _ e6)) (vI _)) .nil))));have f8:=(pq.of N).trans (.mu m8);have k8:=eQ k5 G f8;have ab:=k8 _ _ U;have B:=M.fr f8 ne.symm c;have e8:(j++sh (fV (.pl p)))++[Ta.tuple (Cs.deed p.w p.ns).L]=j++sh (XY j.length (.pl p)).1:=(by show _=j++sh (su p);unfold su sh;rw[QT,<-QQ];rfl);rw[e8]at Z;let{a2,l8,_}:=id B;have ad:=B.len l8;symm;exists _,.inl (ip.of m8.at_);have ln:((W++[V.ref p7]).length:Int)=((j.length+(su p).length:Nat):Int):=(by rw[QN,Q0,X,lq];rfl);rw[ln];symm;intro p9 H9 n9 k9 e9;refine{_,k9 _ _ l8,by have:=sz4.2;ext,λHA mA=>?_};have a1:=B.put l8 k9 mA (d:=.tuple [.int p.k,.int ((j.length+(su p).length:Nat):Int)]) (.tup (bP e9) (.cons (.int _) (.cons (.int _) .nil)));have fA:=(pq.of k9).trans (.mu mA);exact{_,rfl,nx HA ((YE.l (O.trans f8)).trans (.m fA)) (Z.fr fA ne B) a1}
 .let{v3,rfl,F}:=R;have lv:=aX rb;rw[QL]at lv;dsimp only at F;rw[QZ Xu]at F;exact q _ _ {(rfl),F}
def zB(xs:List Sm):Ta:=.list (xs.map λs=>.tuple s.L)
def IH(xs:List Sm):Cd:=((ql 0 xs).1++[.deed "stop" []],(0,0)::(ql 0 xs).2)
def cdD(nm:VA)(c:Cd):Ta:=.tuple [.str nm,.tuple (sh c.1),.tuple (Zr c.2)]
structure Pg where
 ts:List (VA×Int)
 ss:List (VA×Int×Int)
 rs:List (VA×List Int)
 hs:List (VA×List VA×List Sm)
def hdD(h:VA×List VA×List Sm):Ta:=.tuple [.str h.1,.list (h.2.1.map .str),zB h.2.2]
def Pg.L(g:Pg):List Ta:=[.list (g.ts.map λt=>.tuple [.str t.1,.int t.2]),.list (g.ss.map λt=>.tuple [.str t.1,.int t.2.1,.int t.2.2]),.list (g.rs.map λt=>.tuple [.str t.1,.list (t.2.map .int)]),.list (g.hs.map hdD)]
structure BdK(n:Nat)(xs:List Sm):Prop where
 ok:∀s∈xs,s.ok
 dp:∀s∈xs,s.depth n
 sz:(ql 0 xs).1.length+1<=1000000
 sp:(ql 0 xs).2.length+1<=1000000
def Kk(K:RP)(n:Nat):Sp:=G3 (A:=VA×V×List Sm) (λa=>[.str a.1,a.2.1]) (λa H=>Rp K H a.2.1 (zB a.2.2)/\BdK n a.2.2) (λa H v b=>∃p,v=.ref p/\dA H b/\Fz K b (.ref p) (cdD a.1 (IH a.2.2)))
def L8(D:hW K mg "code_of_hand" jL ["name","body"])(O:mg "tuple" =none)(OT:%[(n+5),"lay_body",["body","steps","places"]|DM K n true]):%[(n+6),"code_of_hand",["name","body"]|Kk K n]:=by
 exists D.I fP;let{nm,v,c}:=a;dsimp only at p q⊢;let{r,ok,dp,sz,sp}:=p;let{bl,ys,rfl,hb,rb}:=r.lst_inv;have hu:=bA hr;have bg:=eO;exists _,(aa (aT 2 fP (aQ bJ)) (aa (aT 3 fP (aQ (aD (am (ay ac ac))))) (aa (av (aB OT hr rfl (aW (pv 1) (pv 2) (pv 3)))) (aa (av (a8 (pv 2) (am (aW aq aq (am bJ))))) (ae (aw (am (aW (pv 0) (cn fu O (aD (pv 2))) (cn fu O (aD (pv 3)))))))))));symm;intro l H1 B R e1;symm;intro z H2 n2 y e2;symm;intro m H3 F G e3;have o:=ai R (ai y G);have l3:=ai y G _ _ e1;have u:=_ao R (_ao y F);have ne:l≠m:=λe=>by rw[<-e,y _ _ e1]at F;cases F
 symm;refine{{bl,c,l,m,[],[.tuple [.int 0,.int 0]],H},rfl,{r,ok,dp,(λe=>by cases e),o,B,u,ne,{_,l3,.nil},{_,e3,.cons (.tup (bP (G _ _ e2)) (.cons (.int _) (.cons (.int _) .nil))) .nil},by show 0+(ql 0 c).1.length<=_;ext,by show 1+(ql 0 c).2.length<=_;ext},λv H4 w4=>?_};let{rfl,S,b,x}:=w4;dsimp only at S b x;rw[RB]at b;have k4:=kH o B u S;let{a0,I,_}:=id b;have a1:=b.len I;have lc:(sh (ql 0 c).1).length=(ql 0 c).1.length:=QL ..;rw[show(ql ([]:List Ta).length c)=ql 0 c from rfl]at *;symm;intro p5 H5 n5 k5 e5;symm;intro p6 H6 n6 T e6;have i:=ai k5 T;refine{_,i _ _ I,by ext,λH7 U=>?_};have J:=b.put I i U (d:=.tuple (Cs.deed "stop" []).L) (.tup (bP e6) (.cons (.str _) (.cons (.str _) (.cons (.tup (bP (T _ _ e5)) .nil) .nil))));have W:=(pq.of i).trans (.mu U);have k7:=eQ k4 B W;have M:=x.fr W ne.symm b;let{a2,l7,X}:=id J;let{a3,b7,y7}:=id M;symm;intro p8 H8 n8 Y e8;have b8:=Y _ _ b7;symm;intro p9 H9 n9 Z e9;symm;intro pA HA nA N eA;have j:=ai Y (ai Z N);have z:sh (ql 0 c).1++[Ta.tuple (Cs.deed "stop" []).L]=sh (IH c).1:=by unfold IH sh;rw[QT];rfl
 rw[z]at X;exact q _ _ {pA,rfl,ai k7 j,.tup (bP eA) (.cons (.str _) (.cons (.tup (bP (ai Z N _ _ e8)) (bO (Kt.of j) X)) (.cons (.tup (bP (N _ _ e9)) (bO (Kt.of j) y7)) .nil)))}
def PgK(n:Nat)(g:Pg):Prop:=g.hs.length<=100/\∀h∈g.hs,BdK n h.2.2
def Zt(g:Pg):List (VA×Cd):=g.hs.map λh=>(h.1,IH h.2.2)
def DN(K:RP)(n:Nat):Sp:=G3 (A:=V×Pg) (λa=>[a.1]) (λa H=>Rp K H a.1 (.tuple a.2.L)/\PgK n a.2) (λa H v b=>∃p,v=.ref p/\dA H b/\Fz K b (.ref p) (.tuple ((Zt a.2).map λh=>cdD h.1 h.2)))
def CoP(K:RP)(hs:List (VA×List VA×List Sm))(_:Tu)(i:Nat)(a:List V)(b:St)(c:Hp):Prop:=∃d,XF K c a ((hs.take i).map λh=>cdD h.1 (IH h.2.2))/\b= [d]
def L9{H:Hp}{v:V}{g:Pg}(h:Rp K H v (.tuple g.L)):∃p a b c d e,v=.ref p/\H p=!(.tup [a,b,c,.ref d])/\H d=!(.lst e)/\jk K H e (g.hs.map hdD):=by let{p,o,rfl,f,i}:=h.E;let{q,u,x,y,rfl,z,A,B,j}:=_d i;let{d,e,rfl,n,r}:=j.lst_inv;exact{_,_,_,_,_,_,rfl,f,n,r}
def Ma{n:Nat}(D:hW K mg "code_of" sI ["program"])(M:mg "tuple" =none)(N:%[(n+6),"code_of_hand",["name","body"]|Kk K n]):%[(n+7),"code_of",["program"]|DN K n]:=by
 exists D.I yZ;let{v,g}:=a;dsimp only at p q⊢;let{r,hl,hk}:=p;let{p,a1,a2,a3,d,ys,rfl,O,F,G}:=L9 r;have R:=aX G;rw[QL]at R;have hu:=bA hr;have bg:=eO;refine{_,(ae (aw (cn fu M (aD (dv 1 ["hand"] [] (bC (ar (pv 0) ac)) (λn _ _ _ _=>(dq 0 n)) (λ_ _ _ _=>cc) (λ_ _ _ _=>(aB N hr rfl (ay (ar (pv 0) ac) (ar (pv 0) ac))))))))),?_};symm;refine bD ?_;simp only[cC];symm;refine{{_,ip.of F},de F Xu (CoP K g.hs) (λu H' _ _ _=>{_,.nil,rfl}) ?_ ?_}
 .rintro u i v e S T I b ⟨U,o,rfl⟩;let{dd,x,J}:=cK G I;rw[QY]at x;let{h,y,rfl}:=Xq x;have z:=J.mono b.same;have W:=hk h (QW y);have X:=b.lst;have j:=PLift.up b;have B:=PLift.up y;let{ta,xs,rfl,Y,Z}:=z.E;let{v1,v2,v3,rfl,h1,h2,h3}:=_n Z;cases h1.str_inv;clear b I x y J;symm;refine{(h.1,v3,h.2.2),rfl,{(h3),W},λv' H4 w4=>?_};let{p4,rfl,c,r4}:=w4;refine j.down.put c λH5 mu=>{_,?_,rfl}
  have kt:=(pq.mu mu).kt (c _ _ X);rw[bj B.down,QT];exact eM (bO ((Kt.of c).trans kt) o) (.cons (cr kt r4) .nil)
 .rintro u e S T hD g3 hy a0 ⟨U,o,rfl⟩;rw[QZ Xu]at o;refine{u,rfl,e,trivial,hy,λp H4 O c h4=>q _ _ {p,rfl,g3.trans c,.tup (bP h4) ?_}};unfold Zt;rw[Rb];exact bO (Kt.of c) o
end
def St(y:Tu)(H b:Hp):Prop:=(∃C c fs,H y=!(.ins C c fs))/\∀a o,a≠y->H a=!o->b a=!o
theorem St.kt(s:St y H H'):Kt H H':=λc a h=>s.2 c _ (λz=>by let{C,b,fs,e}:=s.1;rw[<-z,h]at e;cases e) h
structure Bn(H0 H:Hp)(y:Tu)(tg:Tu->Nat)(F:Hp->Prop):Prop where
 s0:dA H0 H
 ty:tg y=1
 ins:∃C dx fs,H y=!(.ins C dx fs)
 own:∀a,tg a≠0->∃o,H a=!o/\nt o
 new:∀a,tg a≠0->H0 a=none
 fs:∀G G',St y G G'->F G->F G'
 f:F H
#print m
theorem Bn.same(b:Bn H0 H y tg F)(g:dA H H'):Bn H0 H' y tg F:=by let{C,c,fs,e}:=b.ins;exact{b.s0.trans g,b.ty,{C,c,fs,g _ _ e},(λa h=>by let{o,d,f}:=b.own a h;exact{o,g _ _ d,f}),b.new,b.fs,b.fs H H' {b.ins,λa o _ h=>g _ _ h} b.f}
def Bn.mu(b:Bn H0 H y tg F){fs:List (VA×V)}(m:Mu H y (.ins C dx fs) H'):Bn H0 H' y tg F:=by
 have d:=b.new y (by rw[b.ty];decide);exact{λa o h=>m.old (b.s0 _ _ h) (λz=>by(rw[z,d]at h;cases h)),b.ty,{_,_,_,m.at_},(λa h=>by
  by_cases c:a=y;.rw [c];exact{_,m.at_,trivial}
  .let{o,f,i}:=b.own a h;exact{o,m.old f c,i}),b.new,b.fs,b.fs H H' {b.ins,λa o h e=>m.old e h} b.f}
theorem Bn.add(b:Bn H0 H y tg F)(g:dA H H')(n:H a=none)(e:H' a=!o)(t:nt o)(hk:k≠0)(p:∀G f,St y G f->F2 G->F2 f)(q:F2 H'):∃d,Bn H0 H' y d (λG=>F G/\F2 G)/\d a=k/\∀c,tg c≠0->d c=tg c:=by
 have old:∀c,tg c≠0->c≠a:=λc h z=>by let{o,j,_}:=b.own c h;rw[z,n]at j;cases j
 have i:=b.same g;have r:=old y (by rw[b.ty];decide);refine{λc=>if c=a then k else tg c,{i.s0,by(rw[Xe r];exact b.ty),i.ins,λc h=>?_,λc h=>?_,λG f s z=>{b.fs G f s z.1,p G f s z.2},{(i.f),q}},Xf rfl,λc h=>Xe (old c h)}
 .by_cases z:c=a
  .simp_all
  .rw [Xe z]at h;exact i.own c h
 .by_cases z:c=a
  .rw [z];exact b.s0.free n
  .rw [Xe z]at h;exact b.new c h
end
def rG{a:Tu}{o:HO}(h:a≠y):∀G b,St y G b->G a=!o->b a=!o:=λ_ _ s e=>s.2 a o h e
#print m
theorem Bn.more(b:Bn H0 H y tg F)(c:∀G a,St y G a->F2 G->F2 a)(d:F2 H):Bn H0 H y tg (λG=>F G/\F2 G):={b.s0,b.ty,b.ins,b.own,b.new,λG a s z=>{b.fs G a s z.1,c G a s z.2},b.f,d}
theorem Bn.many(b:Bn H0 H y tg F)(g:dA H H'){l:List Tu}(n:∀a∈l,H a=none)(e:∀a∈l,∃o,H' a=!o/\nt o)(p:∀G f,St y G f->F2 G->F2 f)(q:F2 H'):∃d,Bn H0 H' y d (λG=>F G/\F2 G)/\(∀c∈l,d c=k)/\∀c,tg c≠0->d c=tg c:=by
 have old:∀c,tg c≠0->c∉l:=λc h z=>by let{o,j,_}:=b.own c h;rw[n c z]at j;cases j
 have i:=b.same g;have r:=old y (by rw[b.ty];decide);refine{λc=>if c∈l then k else tg c,{i.s0,by(rw[Xe r];exact b.ty),i.ins,λc h=>?_,λc h=>?_,λG f s z=>{b.fs G f s z.1,p G f s z.2},{(i.f),q}},λc h=>Xf h,λc h=>Xe (old c h)}
 .by_cases z:c∈l
  .exact e c z
  .rw [Xe z]at h;exact i.own c h
 .by_cases z:c∈l
  .exact b.s0.free (n c z)
  .rw [Xe z]at h;exact b.new c h
end
def XE.snoc{F:α->List Ta}(e:Fz K H v (.tuple (F a)))(t:XE K H F kv l):XE K H F (kv++[(Sum.inr x,v)]) (l++[(x,a)]):=by
 induction t with
 |nil=>exact .cons e .nil
 |cons b _ c=>exact .cons b c
theorem XE.keys{F:α->List Ta}(t:XE K H F kv l):kv.map (·.1)=(l.map (·.1)).map Sum.inr:=by
 induction t with
 |nil=>rfl
 |cons _ _ a=>simp_all
def _root_._L.XG.snoc{H:Hp}{p:Tu}{k:hH}{v:V}(e:H p=!(.tup [kV k,v])){a:List V}{c:List (hH×V)}(t:XG H a c):XG H (a++[.ref p]) (c++[(k,v)]):=by
 induction t with
 |nil=>exact .cons e .nil
 |cons b _ d=>exact .cons b d
theorem _root_._L.XG.kt{H a:Hp}(k:Kt H a){c:List V}{d:List (hH×V)}(t:XG H c d):XG a c d:=by
 induction t with
 |nil=>exact .nil
 |cons b _ e=>exact .cons (k _ _ b) e
theorem _root_._L.XG.length{H:Hp}{a:List V}{b:List (hH×V)}(t:XG H a b):a.length=b.length:=by
 induction t with
 |nil=>rfl
 |cons _ _ c=>simp only[QP,c]
def TbP{α:Type}(K:RP)(F:α->List Ta)(l:List (VA×α))(i:Nat)(c:List V)(σ:_L.St)(a:Hp):Prop:=(∃d,σ= [d])/\∃b,XG a c b/\XE K a F b (l.take i)
def TbP.all{F:α->List Ta}(h:TbP K F l n ys σ H)(e:n=l.length)(nd:(l.map (·.1)).Nodup):∃a,XG H ys a/\XE K H F a l/\bU a=a:=by let{_,a,c,b}:=h;rw[e,List.take_length]at b;refine{a,c,b,dX a [] ?_};rw[RB,b.keys];exact jR nd
def rwD(t:VA×List Int):Ta:=.tuple [.str t.1,.list (t.2.map .int)]
def Kl:∀{d:List (VA×Int)} {e:List V},jk K H e (d.map λt=>.tuple [.str t.1,.int t.2])->Yv H e d:=by
 intro d;induction d with
 |nil=>intro e h;cases h;exact .nil
 |cons p r f=>
  intro e h;cases h with|cons a b=>
  let{c,x,y,rfl,hc,i,j}:=Rp.aw a;cases i.str_inv;cases j.int_inv;exact .cons hc (f b)
def Km:∀{d:List (VA×Int×Int)} {e:List V},jk K H e (d.map λt=>.tuple [.str t.1,.int t.2.1,.int t.2.2])->Yx H e d:=by
 intro d;induction d with
 |nil=>intro e h;cases h;exact .nil
 |cons p r f=>
  intro e h;cases h with|cons a b=>
  let{c,x,y,z,rfl,hc,i,j,n}:=Rp.bz a;cases i.str_inv;cases j.int_inv;cases n.int_inv;exact .cons hc (f b)
structure PgH(K:RP)(H:Hp)(g:Pg)(pp p0 p1 p2 p3:Tu)(y0 y1 y2 y3:List V):Prop where
 pp:H pp=!(.tup [.ref p0,.ref p1,.ref p2,.ref p3])
 h0:H p0=!(.lst y0)
 r0:Yv H y0 g.ts
 h1:H p1=!(.lst y1)
 r1:Yx H y1 g.ss
 h2:H p2=!(.lst y2)
 r2:jk K H y2 (g.rs.map rwD)
 h3:H p3=!(.lst y3)
 r3:jk K H y3 (g.hs.map hdD)
def pgH{K:RP}{H:Hp}{g:Pg}{o:Tu}(h:Rp K H (.ref o) (.tuple g.L)):∃a b c d f i j n,PgH K H g o a b c d f i j n:=by let{_,I,e,p,q}:=h.E;cases e;let{J,M,N,O,rfl,r,u,v,x}:=_d q;let{a,f,rfl,y,z}:=r.lst_inv;let{b,i,rfl,A,B}:=u.lst_inv;let{c,j,rfl,C,E}:=v.lst_inv;let{d,n,rfl,F,G}:=x.lst_inv;exact{a,b,c,d,f,i,j,n,p,y,Kl z,A,Km B,C,E,F,G}
structure PgI(g:Pg):Prop where
 t:g.ts.length<=10/\(g.ts.map (·.1)).Nodup
 s:g.ss.length<=10/\(g.ss.map (·.1)).Nodup
 r:g.rs.length<=10/\(g.rs.map (·.1)).Nodup
 h:g.hs.length<=10/\(g.hs.map (·.1)).Nodup
def EO(c:Ce):List (VA×V):=[("names",.ref c.dn),("drawn",.ref c.dd),("places",.ref c.dp),("outer",.ref c.to),("outer_done",.int 0),("agenda",.ref c.ag),("goods",.ref c.g),("hands",.ref c.dh),("begun",.int 0),("now",.int 0),("happenings",.int 0),("statements",.int 0),("laid",.ref c.ll),("stopped",.non)]
def YF(C:CA)(K:RP)(g:Pg)(out:List Ot)(c:Ce)(G:Hp):Prop:=(((((((Ag.AO C.l C.h G c.kd c.ag c.al []/\∃a,G c.dn=!(.dK a)/\XE K G (λl:List VA=>l.map .str) a (g.hs.map λh=>(h.1,h.2.1)))/\∃a,G c.dd=!(.dK a)/\XE K G (λl:List Int=>l.map .int) a g.rs)/\G c.dp=!(.dK (g.rs.map λp=>(Sum.inr p.1,.int 0))))/\∃b,G c.to=!(.tup b)/\XF K G b (out.map Ot.D))/\xk C.g C.t C.s G c.g c.dt c.ds c.es c.ss)/\G c.dh=!(.dK []))/\G c.ll=!(.lst []))
structure YT(c:Ce)(tg:Tu->Nat):Prop where
 y:tg c.y=1
 st:tg c.dn=2/\tg c.dd=2
 p:tg c.dp=3
 l:tg c.ll=4
 a:tg c.ag=5/\tg c.al=5
 g:∀a∈gcs c,tg a=6
 dh:tg c.dh=7
structure YA where
 y:Tu
 dx:Tu
 pp:Tu
 po:Tu
 ag:Tu
 al:Tu
 kd:Bool
 H0:Hp
 g:Pg
 out:List Ot
 od:List Ta
 tg:Tu->Nat
def YaP(C:CA)(K:RP)(a:YA)(H:Hp):Prop:=Bn a.H0 H a.y a.tg (λG=>Ag.AO C.l C.h G a.kd a.ag a.al [])/\H a.y=!(.ins C.y a.dx [])/\a.tg a.ag=5/\a.tg a.al=5/\Rp K a.H0 (.ref a.pp) (.tuple a.g.L)/\PgI a.g/\Rp K a.H0 (.ref a.po) (.list a.od)/\Sz 7 (.list a.od)/\frz (.list a.od)=.tuple (a.out.map Ot.D)
def YaQ(C:CA)(K:RP)(a:YA)(v:V)(b:Hp)(f:Ce->List (VA×V))(F:Ce->Hp->Prop)(T:Ce->(Tu->Nat)->Prop):Prop:=v=.non/\∃(c:Ce) (d:Tu->Nat),c.y=a.y/\c.dx=a.dx/\Bn a.H0 b a.y d (F c)/\b a.y=!(.ins C.y a.dx (f c))/\T c d/\c.hs= []/\c.sv=.non/\c.es.map (λe=>(e.name,e.t))=a.g.ts.map (λp=>(p.1,{p.2,[],[]}))/\c.ss.map (λe=>(e.name,e.s))=a.g.ss.map (λp=>(p.1,{p.2.1,p.2.2,[],[]}))
def Ko(C:CA)(K:RP):Sp:=G3 (A:=YA) (λa=>[.ref a.y,.ref a.pp,.ref a.po,.ref a.ag]) (λa H=>YaP C K a H) (λa _ v b=>YaQ C K a v b EO (YF C K a.g a.out) YT)
#print a
structure X3(K:RP)(mg:VA->Option S5)(x:VA)(st:Stmt)(q:VA)(ps:List VA):Prop where
 ex:∃C f fd,mg x=!(.ref C)/\UR K (.ref C)=!(.type "type")/\PySem.W.nsIn K Ve "thirdparty.any" =!none/\oq K C "__init__" f/\YQ K "__init__" q st f fd/\ri K fd ps []
def X3.I{c:A->List V}(D:X3 K mg x st q ps)(n:au N ps (aj st))(hl:∀a,(c a).length=ps.length) (e:∀(a:A) (f:Tu) (d:S5) (i:Tj) (b:List Env) (s:S8) (H:Hp) (Q:VK) (E:XK),mm k (i.deeper (TR q (aj st) s.heap.objs.size f d))->pre a H->(∀v j,post a H v j->Q v j)->∃t,XM (fJ Yb P w K mg base N q (aj st) f d i b s H E).ay (cw st) t/\t {nx:=λ_ j=>Q V.non j,rt:=Q} (start N (c a)) H):
 OkI P w K mg base (k+1) x ps (G3 c pre post):=by
 let{C,f,o,r,u,y,z,F,B}:=D.ex;refine{C,f,o,r,u,y,z,B,F.ok n (λG H Q E h=>?_) (λd i b s H G Q E I h=>?_)};.let{a,rfl,_}:=h;exact hl a
 .let{a,rfl,p,q}:=h;exact e a f d i b s H Q E I p q
def Mb(r:Rp K H v (hdD h)):∃p a b,v=.ref p/\H p=!(.tup [.str h.1,.ref a,b])/\H a=!(.lst (h.2.1.map .str)):=by let{p,x,y,z,rfl,c,d,e,_}:=Rp.bz r;cases d.str_inv;let{a,j,rfl,f,i}:=e.lst_inv;cases oV i;exact{_,_,_,rfl,c,f}
def EQ(r:Rp K H v (rwD h)):∃p a,v=.ref p/\H p=!(.tup [.str h.1,.ref a])/\H a=!(.lst (h.2.map .int)):=by let{p,x,y,rfl,b,c,d}:=Rp.aw r;cases c.str_inv;let{a,i,rfl,e,f}:=d.lst_inv;cases oU f;exact{_,_,rfl,b,e}
def DO(ns:List Int):jk K H (ns.map .int) (ns.map .int):=by
 induction ns with
 |nil=>exact .nil
 |cons x r a=>exact .cons (.int _) a
def xR{F:α->List Ta}(f:At xs H0 D i ys H1)(j:H1 D=!(.lst ys))(n:L[i]? =!(x,b))(o:XG H1 ys kv)(p:XE K H1 F kv (L.take i))(d:dA H1 H2)(a:dA H2 H3)(e2:H2 u=!(.tup ws))(e3:H3 t=!(.tup [.str x,.ref u]))(r:∀G,jk K G ws (F b)):ZZ xs H0 D (TbP K F L) i [v0] (.ref t) H3:=by
 have h:∀{c:Tu} {xs:List V},H3 c=!(.tup xs)->c≠D:=λe z=>by rw[z,(d.trans a) _ _ j]at e;cases e
 refine f.put (d.trans a) λq mu=>?_;have kt:Kt H1 q:=λc xs e=>mu.old ((d.trans a) _ _ e) (h ((d.trans a) _ _ e));exists {_,rfl},kv++[(Sum.inr x,.ref u)],(o.kt kt).snoc (mu.old e3 (h e3));rw[RU,n];exact(p.kt kt).snoc (.tup (bP (mu.old (a _ _ e2) (h (a _ _ e2)))) (r _))
def PlP(a:List (VA×List Int))(i:Nat)(b:List V)(σ:_L.St)(c:Hp):Prop:=(∃d,σ= [d])/\XG c b ((a.take i).map λp=>(Sum.inr p.1,.int 0))
def Cf{tg a:Tu->Nat}(o:∀c,tg c≠0->a c=tg c)(e:tg c=k)(b:k≠0):a c=k:=by simp_all
def Mc(D:X3 K mg "Yard" js "Yard.__init__" ["self","program","outer","agenda"])(F:jp K C.y)(Oo:cD K C.y "names")(On:cD K C.y "drawn")(NY:cD K C.y "places")(NS:cD K C.y "outer")(NH:cD K C.y "outer_done")(Nw:cD K C.y "agenda")(NG:cD K C.y "goods")(NK:cD K C.y "hands")(NU:cD K C.y "begun")(ND:cD K C.y "now")(NT:cD K C.y "happenings")(NN:cD K C.y "statements")(Oc:cD K C.y "laid")(Nv:cD K C.y "stopped")(OC:mg "dict" =none)(Oj:mg "tuple" =none)(Pe:%[9,"frozen",["thing"]|zw K 7])(PV:%[4,"Goods",C.g,["program"]|vf C.g C.t C.s]):OkI P w K mg base 10 "Yard" ["self","program","outer","agenda"] (Ko C K):=by
 exists D.I oN;let{b,hy,ta,tl,rp,r,po,pz,pf}:=p;let{p0,p1,p2,p3,y0,y1,y2,y3,M}:=pgH rp;have big:=_bg
 have k1:=M.pp;have k7:=M.h3;have k6:=M.h2;have l3:=aX M.r3;have l2:=aX M.r2;rw[QL]at l3 l2;have e6:=r.h.1;have e7:=r.r.1;have h1:=b.s0 _ _ k1;have h7:=b.s0 _ _ k7;refine{_,(aa (aG F Oo (pv 0) (cn eJ OC (aD (dv 1 ["hand"] [] (bC (ar (pv 1) ac)) (λn _ _ _ _=>(dq 0 n)) (λ_ _ _ _=>cc) (λ_ _ _ _=>(am (ay (ar (pv 0) ac) (cn fu Oj (aD (ar (pv 0) ac)))))))))) (aa (aG F On (pv 0) (cn eJ OC (aD (dv 1 ["row"] [] (bC (ar (pv 1) ac)) (λn _ _ _ _=>(dq 0 n)) (λ_ _ _ _=>cc) (λ_ _ _ _=>(am (ay (ar (pv 0) ac) (cn fu Oj (aD (ar (pv 0) ac)))))))))) (aa (aG F NY (pv 0) (cn eJ OC (aD (dv 1 ["row"] [] (bC (ar (pv 1) ac)) (λn _ _ _ _=>(dq 0 n)) (λ_ _ _ _=>cc) (λ_ _ _ _=>(am (ay (ar (pv 0) ac) ac))))))) (aa (aG F NS (pv 0) (aB Pe hr rfl (aD (pv 2)))) (aa (aG F NH (pv 0) ac) (aa (aG F Nw (pv 0) (pv 3)) (aa (aG F NG (pv 0) (fj PV hr rfl (aD (pv 1)))) (aa (aG F NK (pv 0) ux) (aa (aG F NU (pv 0) ac) (aa (aG F ND (pv 0) ac) (aa (aG F NT (pv 0) ac) (aa (aG F NN (pv 0) ac) (aa (aG F Oc (pv 0) (aQ bJ)) (ae (aG F Nv (pv 0) cv))))))))))))))),?_};symm;apply bD;simp only[cC];symm;refine{{_,ip.of h7},iy h7 Xu (TbP K (λl:List VA=>l.map .str) (a.g.hs.map λh=>(h.1,h.2.1))) (λ_ _=>{{_,rfl},[],.nil,.nil}) ?_ ?_};.rintro D' i x ys σ1 H1 X j ⟨⟨v0,rfl⟩,N,y,tb⟩;let{d,O,rx}:=cK M.r3 X;rw[QY]at O;let{h,ie,rfl}:=Xq O;let{ph,pn,vb,rfl,q1,q2}:=Mb rx;have Y:=j.same _ _ (b.s0 _ _ q1);have cb:=j.same _ _ (b.s0 _ _ q2);have lD:=j.lst;have o:=PLift.up j;have R:=PLift.up ie;clear j X O ie l3 l2;symm;intro u H2 n2 Z e2;have ag:=Z _ _ Y;symm;intro t H3 n3 g3 e3;exact xR o.down lD (by rw[QY,R.down];rfl) y tb Z g3 e2 e3 λG=>vI _
 .rintro D1 ys σ1 H1 e9 g1 ak NO tp;let{N,y,tb,pa}:=tp.all (by rw[l3,QL]) (by rw[Rb];exact r.h.2);symm;refine{N,y,by(have:=y.length;ext),λdn H2 n2 Z e2=>?_};rw[pa]at e2;have cd:dn≠a.y:=λz=>by rw[z,g1 _ _ hy]at n2;cases n2
  let{ea,b2,t2,o2}:=(b.same g1).add Z (k:=2) (F2:=λG=>∃N,G dn=!(.dK N)/\XE K G (λl:List VA=>l.map .str) N (a.g.hs.map λh=>(h.1,h.2.1))) n2 e2 trivial Xs (λG G' s z=>by let{v,z1,z2}:=z;exact{v,s.2 _ _ cd z1,z2.kt s.kt}) {_,e2,tb.kt (Kt.of Z)};have cj:=Z _ _ (g1 _ _ hy);symm;intro H3 m3;have b3:=b2.mu m3;have a1:=m3.at_;have ck:=b3.s0 _ _ k1;have a2:=b3.s0 _ _ k6;clear cj h1 h7 e2 hy;symm;apply bD;simp only[cC];symm;refine{{_,ip.of a2},iy a2 Xu (TbP K (λl:List Int=>l.map .int) a.g.rs) (λ_ _=>{{_,rfl},[],.nil,.nil}) ?_ ?_};.rintro D' i x ys σ1 H1 X j ⟨⟨v0,rfl⟩,N,y,tb⟩;let{d,O,rx}:=cK M.r2 X;rw[QY]at O;let{h,ie,rfl}:=Xq O;let{ph,pn,rfl,q1,q2}:=EQ rx;have Y:=j.same _ _ (b3.s0 _ _ q1);have cb:=j.same _ _ (b3.s0 _ _ q2);have lD:=j.lst;have o:=PLift.up j;have R:=PLift.up ie;clear j X O ie l3 l2;symm;intro u H2 n2 Z e2;have ag:=Z _ _ Y;symm;intro t H3 n3 g3 e3;exact xR o.down lD R.down y tb Z g3 e2 e3 λG=>DO _
  rintro D4 ys σ1 H4 eb g4 ak NO tp;let{N,y,tb,pa}:=tp.all (by rw[l2]) r.r.2;symm;refine{N,y,by(have:=y.length;ext),λdd H5 n5 g5 e5=>?_};rw[pa]at e5;have cl:=g5 _ _ (g4 _ _ a1);have cm:dd≠a.y:=λz=>by rw[z,g4 _ _ a1]at n5;cases n5
  let{ec,b5,t5,o5}:=(b3.same g4).add g5 (k:=2) (F2:=λG=>∃N,G dd=!(.dK N)/\XE K G (λl:List Int=>l.map .int) N a.g.rs) n5 e5 trivial Xs (λG G' s z=>by let{v,z1,z2}:=z;exact{v,s.2 _ _ cm z1,z2.kt s.kt}) {_,e5,tb.kt (Kt.of g5)};clear a1 ck a2;symm;intro H6 m6;have b6:=b5.mu m6;have a3:=m6.at_;have co:=b6.s0 _ _ k1;have a4:=b6.s0 _ _ k6;clear cl e5;symm;apply bD;simp only[cC];symm;refine{{_,ip.of a4},iy a4 Xu (PlP a.g.rs) (λ_ _=>{{_,rfl},.nil}) ?_ ?_}
  .rintro D' i x ys σ1 H1 X j ⟨⟨v0,rfl⟩,y⟩;let{d,O,rx}:=cK M.r2 X;rw[QY]at O;let{h,ie,rfl}:=Xq O;let{ph,pn,rfl,q1,q2}:=EQ rx;have Y:=j.same _ _ (b6.s0 _ _ q1);have lD:=j.lst;have o:=PLift.up j;have R:=PLift.up ie;clear j X O ie l3 l2;symm;intro t H3 n3 g3 e3;refine o.down.put g3 λH5 mu=>{{_,rfl},?_}
   have nD:∀{c:Tu} {xs:List V},H3 c=!(.tup xs)->c≠D':=λe z=>by rw[z,g3 _ _ lD]at e;cases e
   rw[RU,R.down,QT];exact(y.kt λc xs e=>mu.old (g3 _ _ e) (nD (g3 _ _ e))).snoc (mu.old e3 (nD e3))
  rintro D7 ys σ1 H7 ed g7 ak NO ⟨_,y⟩;rw[QZ Xu]at y;have pa:bU (a.g.rs.map λp=>((Sum.inr p.1:hH),V.int 0))=a.g.rs.map λp=>(Sum.inr p.1,V.int 0):=dX _ [] (by rw[RB,Rb];have:=jR r.r.2;rw[Rb]at this;exact this);symm;refine{_,y,by(have:=y.length;ext),λdp H8 n8 g8 e8=>?_};rw[pa]at e8;have cp:=g8 _ _ (g7 _ _ a3);let{ee,b8,t8,o8}:=(b6.same g7).add g8 (k:=3) (F2:=λG=>G dp=!(.dK (a.g.rs.map λp=>(Sum.inr p.1,.int 0)))) n8 e8 trivial Xs (rG (λz=>by rw[z,g7 _ _ a3]at n8;cases n8)) e8;clear a3 co a4;symm;intro H9 m9;have b9:=b8.mu m9;have al:=m9.at_;have an:=Rp.mono b9.s0 po;clear cp e8;symm;refine{.ref a.po,.list a.od,rfl,an,pz,λef eg b0 b1=>?_};rw[pf]at b1;have a0:=b0 _ _ al;have cs:=b9.same b0;clear al an;cases b1 with
  | @tup to vs _ ht rt=>
   have ht:=rm _ _ ht;have ct:to≠a.y:=λz=>by rw[z,a0]at ht;cases ht
   have b4:=cs.more (F2:=λG=>∃vs,G to=!(.tup vs)/\XF K G vs (a.out.map Ot.D)) (λG G' s z=>by let{vs,z1,z2}:=z;exact{vs,s.2 _ _ ct z1,bO s.kt z2}) {(vs),ht,rt};clear ht;symm;intro eh b7;have cx:=b4.mu b7;have ba:=b7.at_;clear a0;symm;intro ei bb;have cy:=cx.mu bb;have bd:=bb.at_;clear ba;symm;intro d0 be;have bf:=cy.mu be;have I:=be.at_;clear bd;symm;intro g gx ej ng ek a5 hg d1;have S:=bf.same a5;refine{g,gx,a.pp,p0,p1,.ref p2,.ref p3,y0,y1,a.g.ts,a.g.ss,rfl,hg,S.s0 _ _ k1,S.s0 _ _ M.h0,M.r0.mono S.s0,r.t,S.s0 _ _ M.h1,M.r1.keep (λc xs h=>S.s0 _ _ h),r.s,λel dt ds es ss fr go me ms nc=>?_};have bg:=λc u h=>fr c u (λz=>by rw[z,ng]at h;cases h) (a5 _ _ h);have nn:∀c∈g::dt::ds::(ml es++nj ss),d0 c=none:=λc hc=>by
    rcases Xi hc with z|z;.rw [z];exact ng
    .exact a5.free (nc c z)
   have gy:∀c∈g::dt::ds::(ml es++nj ss),c≠a.y:=λc hc z=>by rw[z]at hc;rw[nn _ hc]at I;cases I
   have bh:=bg _ _ I;let{e0,d2,d3,T}:=bf.many bg (l:=g::dt::ds::(ml es++nj ss)) (k:=6) (F2:=λG=>xk C.g C.t C.s G g dt ds es ss) nn (λx X=>EF go x X) (λG G' s z=>z.grow λc u hc hu=>by
    rcases hc with hc|⟨xs,rfl⟩;.exact s.2 c u (gy c hc) hu
    .exact s.kt _ _ hu) go
   have d4:es.map (λe=>(e.name,e.t))=a.g.ts.map (λp=>(p.1,(⟨p.2,[],[]⟩:TS))):=(by have:=congrArg (List.map λx:VA×Int×TS=>(x.1,x.2.2)) me;rw[Rb,Rb]at this;exact this);clear I hg d1;symm;intro em bl;have d5:=d2.mu bl;have U:=bl.at_;clear bh;symm;intro dh en a9 bm ab;have bn:=bm _ _ U;let{e1,da,db,J}:=d5.add bm (k:=7) (F2:=λG=>G dh=!(.dK [])) a9 ab trivial Xs (rG (λz=>by rw[z,U]at a9;cases a9)) ab;clear U ab;symm;intro eo bo;have df:=da.mu bo;have bq:=bo.at_;clear bn;symm;intro ep br;have dg:=df.mu br;have bt:=br.at_;clear bq;symm;intro er bu;have di:=dg.mu bu;have bx:=bu.at_;clear bt;symm;intro et c0;have dj:=di.mu c0;have c1:=c0.at_;clear bx;symm;intro eu c2;have dl:=dj.mu c2;have W:=c2.at_;clear c1;symm;intro ll ew ad c3 af;have c4:=c3 _ _ W;let{c5,dm,dr,B}:=dl.add c3 (k:=4) (F2:=λG=>G ll=!(.lst [])) ad af trivial Xs (rG (λz=>by rw[z,W]at ad;cases ad)) af;clear W af;symm;intro ex c6;have dx:=dm.mu c6;have e4:=c6.at_;clear c4;symm;intro ey c7;have c8:=dx.mu c7;have ca:=c7.at_;refine q _ _ {rfl,{a.y,a.dx,dn,dd,dp,0,to,a.kd,a.ag,a.al,g,dt,ds,es,ss,dh,ll,[],.non,[]},c5,rfl,rfl,c8,ca,{c8.ty,{Cf B (Cf J (Cf T (Cf o8 (Cf o5 t2 Xs) Xs) Xs) Xs) Xs,Cf B (Cf J (Cf T (Cf o8 t5 Xs) Xs) Xs) Xs},Cf B (Cf J (Cf T t8 Xs) Xs) Xs,dr,{Cf B (Cf J (Cf T (Cf o8 (Cf o5 (Cf o2 ta Xs) Xs) Xs) Xs) Xs) Xs,Cf B (Cf J (Cf T (Cf o8 (Cf o5 (Cf o2 tl Xs) Xs) Xs) Xs) Xs) Xs},λc hc=>Cf B (Cf J (d3 c hc) Xs) Xs,Cf B db Xs},rfl,rfl,d4,ms}
def ja(g:Pg)(out:List Ot):Pr:={g.hs.map λh=>(h.1,h.2.1),g.rs,Zt g,out}
def ys0(g:Pg):YS:={0,0,0,0,0,g.rs.map λp=>(p.1,0),[],g.ts.map λp=>(p.1,{p.2,[],[]}),g.ss.map λp=>(p.1,{p.2.1,p.2.2,[],[]}),[],[],none}
def CdK(g:Pg):Prop:=∀h∈Zt g,h.2.2.length<1000/\(h.2.2.map (·.1)).Nodup
def Kq(C:CA)(K:RP)(n:Nat):Sp:=G3 (A:=YA) (λa=>[.ref a.y,.ref a.pp,.ref a.po,.ref a.ag]) (λa H=>YaP C K a H/\PgK n a.g/\CdK a.g) (λa _ v b=>v=.non/\dA a.H0 b/\∃c d,c.y=a.y/\Yd C K (ja a.g a.out) b c (ys0 a.g) d/\∀x,d x≠0->a.H0 x=none)
def XW.snoc(h:XW K H kv l r)(a:H t=!(.tup [.ref st,.ref pd]))(b:Fz K H (.ref st) (.tuple (cd.1.map λc=>.tuple c.L)))(c:H pd=!(.dK (cd.2.map λp=>(Sum.inl p.1,.int p.2)))):XW K H (kv++[(Sum.inr x,.ref t)]) (l++[pd]) (r++[(x,cd)]):=by
 induction h with
 |nil=>exact .cons a b c .nil
 |cons d e f _ i=>exact .cons d e f i
theorem XW.keys(h:XW K H kv l r):kv.map (·.1)=(r.map (·.1)).map Sum.inr:=by
 induction h with
 |nil=>rfl
 |cons _ _ _ _ a=>simp_all
def XW.dk(h:XW K H d l r):∀a∈l,∃d,H a=!(.dK d):=by
 induction h with
 |nil=>simp_all
 |cons a b c _ e=>simp_all
theorem XW.own(h:XW K H c l r):∀a∈l,∃o,H a=!o/\nt o:=λa b=>by let{c,e}:=h.dk a b;exact{_,e,trivial}
def CyP(K:RP)(e:Hp)(L:List (VA×Cd))(_:Tu)(i:Nat)(f:List V)(σ:_L.St)(c:Hp):Prop:=(∃h j n,σ= [h,j,n])/\∃d b,XG c f d/\XW K c d b (L.take i)/\∀a∈b,e a=none
def Kr:∀{l:List (Int×Nat)} {c:List V},XF K H c (Zr l)->XG H c (l.map λp=>(Sum.inl p.1,.int p.2)):=by
 intro l;induction l with
 |nil=>intro c h;cases h;exact .nil
 |cons p r d=>
  intro c h;cases h with|cons a b=>
  let{t,o,rfl,e,z}:=cS a;let{q,u,rfl,f,i}:=z.cons_inv;let{v,x,rfl,j,n}:=i.cons_inv;cases n;cases f.int_inv;cases j.int_inv;exact .cons e (d b)
def Ks{xs:List Int}(h:xs.Nodup):(xs.map (Sum.inl:Int->hH)).Nodup:=by grind
def Md(D:oD K mg "CodeYard" C.y "CodeYard.__init__" fZ ["self","program","outer","agenda"])(ge:jp K C.y)(Os:cD K C.y "codes")(OC:mg "dict" =none)(OM:%[(n+7),"code_of",["program"]|DN K n])(Pt:OkI P w K mg base 10 "Yard" ["self","program","outer","agenda"] (Ko C K)):%[(n+18),"CodeYard",C.y,["program","outer","agenda"]|Kq C K n]:=by
 refine oD.I D kD (λ_=>rfl) λa f b0 A a0 s0 H Q E hr p q=>?_;let{p,U,ck}:=p;refine{_,(aa (av (FD Pt hr rfl (bT (pv 0) (pv 1) (pv 2) (pv 3)))) (ae (aG ge Os (pv 0) (cn eJ OC (aD (dv 3 ["name","steps","places"] [] (pe (aB OM hr rfl (aD (pv 1)))) (λn _ _ _ _=>(bG 3 rfl (aC (dq 0 n) (aC (dq 1 n) (aC (dq 2 n) bB))))) (λ_ _ _ _=>cc) (λ_ _ _ _=>(am (ay (pv 0) (am (ay (pv 1) (cn yS OC (aD (pv 2)))))))))))))),?_};symm;refine{a,rfl,p,λv H1 q1=>?_};let{_,_,_,_,rp,a1,_}:=p;let{rfl,c,tg,ey,ex,b,hy,T,J,W,a2,a3}:=q1;symm;apply bD;simp only[yl];symm;refine{(.ref a.pp,a.g),rfl,{Rp.mono b.s0 rp,U},λv H2 w2=>?_};let{q2,rfl,k2,f2}:=w2;dsimp only at f2;let{_,Z,e,h2,r2}:=cS f2;cases e;have lx:=aX r2;rw[QL]at lx;have lh:(Zt a.g).length<=100:=by unfold Zt;rw[QL];exact U.1
 have M:=k2 _ _ hy;have b2:=b.same k2;have big:=_bg
 symm;refine{{_,qu.of h2},pO h2 Xu (CyP K H2 (Zt a.g)) (λ_ _ _ _ _=>{{_,_,_,rfl},[],[],.nil,.nil,λa h=>by cases h}) ?_ ?_}
 .rintro D' i x ys σ1 H3 j u ⟨⟨v0,v1,v2,rfl⟩,B,pds,pk,N,nw⟩;let{d,ih,rx}:=cK r2 j;rw[QY]at ih;let{h,ie,rfl}:=Xq ih;have a4:=cr (Kt.of u.same) (rx);let{t,ws,rfl,ht,rt}:=cS a4;let{u1,r1,rfl,g1,m1}:=rt.cons_inv;let{u2,b1,rfl,g2,m2}:=m1.cons_inv;let{u3,r3,rfl,g3,m3}:=m2.cons_inv;cases m3;cases g1.str_inv;let{st,b4,rfl,b6,b7}:=cS g2;let{pt,zs,rfl,a5,a9}:=cS g3;have hk:=ck h (QW ie);have lD:=u.lst;have F:=PLift.up u;have ab:=PLift.up ie;clear u j ih ie lx rx;symm;refine{pt,zs,_,rfl,a5,Kr a9,by rw[QL];exact hk.1,λpd H4 I R O=>?_};have pa:bU (h.2.2.map λp=>((Sum.inl p.1:hH),V.int p.2))=h.2.2.map λp=>(Sum.inl p.1,V.int p.2):=dX _ [] (by rw[RB,Rb];have:=Ks hk.2;rw[Rb]at this;exact this);rw[pa]at O;intro t5 S n5 k5 e5;symm;intro t6 H6 n6 k6 e6;have r:=ai R (ai k5 k6);have nD:∀{c:Tu} {Z:List V},H6 c=!(.tup Z)->c≠D':=λe z=>by rw[z,r _ _ lD]at e;cases e
  have nd:pd≠D':=λz=>by rw[z,lD]at I;cases I
  refine F.down.put r λH7 mu=>{{_,_,_,rfl},B++[(Sum.inr h.1,.ref t5)],pds++[pd],?_,?_,?_}
  .exact(pk.kt λc Z e=>mu.old (r _ _ e) (nD (r _ _ e))).snoc (mu.old e6 (nD e6))
  .rw [bj ab.down];have kt:Kt H3 H7:=λc Z e=>mu.old (r _ _ e) (nD (r _ _ e));refine(N.fr kt λx j o e=>mu.old (r _ _ e) λz=>?_).snoc (mu.old (k6 _ _ e5) (nD (k6 _ _ e5))) (cr kt g2) (mu.old (ai k5 k6 _ _ O) nd);let{b8,X}:=N.dk _ (z▸j);rw[lD]at X;cases X
  .intro x j;rcases Xk j with z|z;.exact nw x z
   .rw [Xh z];exact _ao F.down.same I
 .rintro D1 ys σ1 H3 b9 k3 ba NO ⟨_,B,pds,pk,N,nw⟩;rw[QZ Xu]at N;have pa:bU B=B:=dX _ [] (by rw[RB,N.keys];apply jR;unfold Zt;rw[Rb];exact a1.h.2);symm;refine{B,pk,by(have:=pk.length;ext),λdb H4 I R O=>?_};rw[pa]at O;have ad:db≠a.y:=λz=>by rw[z,k3 _ _ M]at I;cases I
  have af:=R _ _ (k3 _ _ M);have Y:=N.fr (Kt.of R) λx j o e=>R _ _ e;have bb:db∉pds:=λz=>by let{o,X,_}:=N.own _ z;rw[I]at X;cases X
  have ag:∀x∈pds,x≠a.y:=λx j z=>by have:=nw x j;rw[z,M]at this;cases this
  let{ak,b3,t3,y}:=b2.many (ai k3 R) (k:=2) (F2:=λG=>∃B,G db=!(.dK B)/\XW K G B pds (Zt a.g)) (λx j=>by
   rcases Xi j with z|z;.rw [z];exact _ao k3 I
   .exact nw x z) (λx j=>by
   rcases Xi j with z|z;.rw [z];exact{_,O,trivial}
   .exact Y.own x z) (λG G' s z=>by
   let{v,z1,z2}:=z;exact{v,s.2 _ _ ad z1,z2.fr s.kt λx j o e=>s.2 _ _ (ag x j) e}) {_,O,Y}
  clear O;unfold EO at af;symm;intro S m5;have b5:=b3.mu m5;have al:=m5.at_;let{{{{{{{{ao,vn,en,zn},ed},ep},vo,eo,zo},go},an},el},vb,eb,zb}:=b5.f;have ob:S c.y=!(HO.ins C.y c.dx (aS {c with db:=db,pds:=pds} (ys0 a.g))):=by rw[ey,ex,al];rw[W];rfl
  refine q _ _ {rfl,b5.s0,{c with db:=db,pds:=pds},ak,ey,{ob,{_,en,zn},ed,{_,eb,zb},{(vo),eo,zo},?_,ao,go,a2,a3,by show S c.dh=!(.dK (c.hs.map _));rw[J];exact an,by show Xw C S c.hs _;rw[J];exact .nil,{_,el,.nil},by show Fz K S c.sv _;rw[W];exact .non,?_},b5.new};.show S c.dp=!(.dK (((ys0 a.g).pl).map λp=>(Sum.inr p.1,.int p.2)));rw[ep];unfold ys0;rw[Rb];rfl
  exact{Cf y T.y Xs,{Cf y T.st.1 Xs,Cf y T.st.2 Xs,t3 _ (QO ..),λx j=>t3 x (QM _ j)},Cf y T.p Xs,Cf y T.l Xs,{Cf y T.a.1 Xs,Cf y T.a.2 Xs},λx j=>Cf y (T.g x j) Xs,Cf y T.dh Xs,λh hh=>by(have:h∈c.hs:=hh;rw[J]at this;cases this),b5.own}
end
def ZC(p:Int×Int):Ta:=.tuple [.int p.1,.int p.2]
def knD(p:VA×Int):Ta:=.tuple [.str p.1,.int p.2]
def hvD(p:Int×Hd):Ta:=.tuple [.int p.1,.str p.2.nm,.int p.2.row,.list (p.2.kn.map knD)]
def jv(t:TS):List (Int×Int):=(t.held.filter λp=>decide (0<p.2)).mergeSort λp q=>decide (p.1<=q.1)
def tvD(t:TS):Ta:=.tuple [.int t.free,.list ((jv t).map ZC),.list (t.que.map ZC)]
def svD(s:SS):Ta:=.tuple [.int s.level,.list (s.gets.map ZC),.list (s.puts.map ZC)]
structure mw(s:YS):Prop where
 hn:HN s.hd
 hp:(s.hd.map (·.1)).Pairwise (· < ·)
 hl:s.hd.length<64
 al:s.ag.length<64
 kn:∀p∈s.hd,p.2.kn.length<2
 pl:s.pl.length<1000
 tl:s.ts.length<=200
 sl:s.ss.length<=200
def fr(B G:Hp):Hp:=λa=>match G a with
 |some (.tup b)=> !(.tup b)
 |some (.lst b)=>if B a=none then some (.lst b)else none
 |_=>none
theorem dH(h:G a=!(.tup xs)):fr B G a=!(.tup xs):=by unfold fr;rw[h]
theorem cL(h:G a=!(.lst xs))(n:B a=none):fr B G a=!(.lst xs):=by unfold fr;rw[h];exact Xf n
def hJ(h:fr B G a=!o):G a=!o/\((∃xs,o=.tup xs)\/∃xs,o=.lst xs/\B a=none):=by
 unfold fr at h;split at h;.rename_i xs e;cases h;exact{e,.inl {_,rfl}}
 .rename_i xs e;by_cases z:B a=none;.rw [Xf z]at h;cases h;exact{e,.inr {_,rfl,z}}
  .simp_all
 .cases h
theorem cu:dA (fr B G) G:=λa o h=>(hJ h).1
def fI(g:dA G G'):dA (fr B G) (fr B G'):=λa o h=>by
 obtain⟨e,⟨b,rfl⟩|⟨b,rfl,n⟩⟩:=hJ h;.exact dH (g _ _ e)
 .exact cL (g _ _ e) n
def vH(s:YS):Ta:=.list (s.hd.map hvD)
def vT(s:YS):Ta:=.list (s.ts.map λp=>tvD p.2)
def vR(s:YS):List Ta:=[.list (s.ss.map λp=>svD p.2),.list (s.pl.map λp=>.int p.2),.list (s.ag.map ZC)]
def VwQ(K:RP)(H b:Hp)(v:V)(s:YS):Prop:=∃p c d e B a,v=.ref p/\b p=!(.tup (.int s.now::.ref c::.ref d::e))/\dA H B/\Rp K (fr H B) (.ref c) (vH s)/\dA B a/\Rp K (fr B a) (.ref d) (vT s)/\dA a b/\jk K (fr a b) e (vR s)
def vJ(C:CA)(K:RP):Sp:=G3 (A:=Gy) (λg=>[.ref g.c.y]) (λg H=>Yd C K g.P H g.c g.s g.tg/\mw g.s) (λg H v a=>dA H a/\VwQ K H a v g.s)
#print c
def GH(h:_Y hd t):hd=jv t:=by
 have i:(jv t).Perm (t.held.filter λp=>decide (0<p.2)):=List.mergeSort_perm ..;have o:(jv t).Pairwise λp q=>p.1<=q.1:=by have:=List.pairwise_mergeSort (le:=λ(p q:Int×Int)=>decide (p.1<=q.1)) (λa b c j n=>by simp only[decide_eq_true_eq]at *;ext) (λa b=>by simp only[Bool.or_eq_true,decide_eq_true_eq];ext) (t.held.filter λp=>decide (0<p.2));exact this.imp λh=>of_decide_eq_true h
 have inj:∀{l:List (Int×Int)},l.Pairwise (λp r=>p.1<r.1)->∀a∈l,∀b∈l,a.1=b.1->a=b:=by
  intro l u;induction u with
  |nil=>simp_all
  |cons h _ v=>
   intro a d b f e;rcases Xi d with z|z<;>rcases Xi f with y|y
   .rw [z,y]
   .grind
   .grind
   .exact v a z b y e
 refine List.Perm.eq_of_pairwise (λa b d f j n=>inj h.2 a d b ((h.1.trans i.symm).mem_iff.mpr f) (Int.le_antisymm j n)) (h.2.imp λh=>Int.le_of_lt h) o (h.1.trans i.symm)
def mx(h:N0 G vs ps):jk K (fr B G) vs (ps.map ZC):=by
 induction h with
 |nil=>exact .nil
 |cons a _ b=>exact .cons (.tup (dH a) (.cons (.int _) (.cons (.int _) .nil))) b
def Ku(k:dA B B')(h:Yn B' G vs ts):jk K (fr B G) vs (ts.map tvD):=by
 induction h with
 |nil=>exact .nil
 |cons a b _ c=>let{p,q,r,hs,u,rfl,d,e,f,i,j,n,o}:=a;cases GH b;exact .cons (.tup (dH d) (.cons (.int _) (.cons (.lst (cL e (k.free n)) (mx f)) (.cons (.lst (cL i (k.free o)) (mx j)) .nil)))) c
def Kv(k:dA B B')(h:Ys B' G vs ts):jk K (fr B G) vs (ts.map svD):=by
 induction h with
 |nil=>exact .nil
 |cons a _ b=>let{p,o,q,hs,r,rfl,c,d,e,f,i,j,n}:=a;exact .cons (.tup (dH c) (.cons (.int _) (.cons (.lst (cL d (k.free j)) (mx e)) (.cons (.lst (cL f (k.free n)) (mx i)) .nil)))) b
def Me(h:XG G ys (X4 kn)):jk K (fr B G) ys (kn.map knD):=by
 induction kn generalizing ys with
 |nil=>cases h;exact .nil
 |cons p r c=>cases h with|cons a b=>exact .cons (.tup (dH a) (.cons (.str _) (.cons (.int _) .nil))) (c b)
def GI{l:List (VA×Int)}:jk K G (l.map ((λx:hH×V=>x.2)∘λp=>(Sum.inr p.1,.int p.2))) (l.map λp=>.int p.2):=by
 induction l with
 |nil=>exact .nil
 |cons p r a=>exact .cons (.int _) a
theorem Xw.at{hs:List (Int×Tu×Tu)}(h:Xw C H hs ds){i:Nat}(e:hs[i]? =!x):∃d,ds[i]? =!(x.1,d)/\YH C H x.1 x.2.1 x.2.2 d:=by
 induction h generalizing i with
 |nil=>cases e
 |cons a _ b=>cases i with
  |zero=>cases e;exact{_,rfl,a}
  |succ i=>simp_all
def GJ(D:eH K C.y "view" "Yard.view" nW ["self"])(v:jp K C.y)(NA:jp K C.d)(Nu:cD K C.d "number")(Ov:cD K C.d "name")(Of:cD K C.d "row")(N3:cD K C.d "known")(NK:cD K C.y "hands")(ND:cD K C.y "now")(NG:cD K C.y "goods")(NY:cD K C.y "places")(Nw:cD K C.y "agenda")(OJ:mg "sorted" =none)(N5:mg "list" =none)(Pb:%[2,C.g,"tools",[]|xA C.g C.t])(O6:%[2,C.g,"stores",[]|vg C.g C.s])(OF:%[1,C.l,"in_order",[]|Ag.Ya C.l])(OG:%[1,C.h,"in_order",[]|Ag.X5 C.h]):%[3,C.y,"view",[]|vJ C K]:=by
 refine D.I v xj (λ_=>rfl) λg f an A a4 s0 H Q E hr p q=>?_;let{Y,hn,hp,hl,al,kn,pz,tz,sz}:=p;have hu:=bA hr;have h0:=Y.obj;have O:=Y.dh;have big:=_bg
 have lh:g.c.hs.length=g.s.hd.length:=by have:=congrArg List.length Y.hd.nums;rwa[QL,QL]at this
 refine{_,(aa (j9 (i:=1) xj.nd rfl (Or.inl rfl) (eZ 1 (N:=["number","self"]) (cap:=[0]) rfl rfl rfl rfl Xs rfl rfl rfl) rfl (bC (jx (wu rfl) OJ (aD (ah v NK (pv 0))))) (λ_ _ _ _=>(iE (i:=0) (show List.Nodup (α:=VA) ["number","self"] by decide) rfl (Or.inl (Tk rfl)) (Or.inr (Tk rfl)))) (λ_ _ _ _=>cc) (λ_ _ _ _=>(bY hu (ah v NK (pv 1)) (pv 0) (λ_ _=>rfl)))) (aa (j9 (i:=2) xj.nd rfl (Or.inl rfl) (eZ 1 (N:=["hand"]) (cap:=[]) rfl rfl rfl rfl Xs rfl rfl rfl) rfl (bC (pv 1)) (λ_ _ _ _=>(iE (i:=0) (show List.Nodup (α:=VA) ["hand"] by decide) rfl (Or.inl (Tk rfl)) (Or.inr (Tk rfl)))) (λ_ _ _ _=>cc) (λ_ _ _ _=>(am (bT (ah NA Nu (pv 0)) (ah NA Ov (pv 0)) (ah NA Of (pv 0)) (jx (tE rfl) OJ (aD (AW (ah NA N3 (pv 0))))))))) (ae (aw (am (gj (ah v ND (pv 0)) (gj (pv 2) (bT (bL Pb hr (ah v NG (pv 0))) (bL O6 hr (ah v NG (pv 0))) (cn yO N5 (aD (CC (ah v NY (pv 0))))) (iA OF OG hr (ah v Nw (pv 0))))))))))),?_};symm;apply bD;simp only[cC];symm;refine{g.c.hs.map (·.1),by rw[Rb,Rb];rfl,by rw[QL];ext,λD1 H1 ms n1 g1 e1 pm pw=>?_};have em:=pm.eq_of_pairwise (λa b _ _ h1 h2=>Int.le_antisymm h1 h2) pw (by rw[Y.hd.nums];exact hp.imp λh=>Int.le_of_lt h);subst em;have R:=g1 _ _ h0;have S:=g1 _ _ O;clear h0 O;symm;refine{{_,ip.of e1},de e1 (by rw[QL,QL];ext) (λ_ i y B _=>y=(g.c.hs.take i).map (λh=>V.ref h.2.1)/\∃T,B= [T,!(.ref g.c.y)]) (λD H' _ _ _=>{rfl,_,rfl}) ?_ ?_}
 .rintro D i x y B H2 n F ⟨rfl,T,rfl⟩;rw[Rb,QY]at n;obtain⟨h,hh,rfl⟩:∃h,g.c.hs[i]? =!h/\V.int h.1=x:=by
   cases z:g.c.hs[i]? with
   |none=>rw[z]at n;cases n
   |some h=>rw[z]at n;cases n;exact{(h),rfl,rfl}
  have b0:=F.same _ _ R;have b1:=F.same _ _ S;have vh:=rB (Y.nd hn) (QW hh);symm;refine F.put (λ_ _ e=>e) λH3 mu=>{?_,_,rfl}
  rw[bj hh,QT];rfl
 rintro D2 y B H2 n2 g2 e2 _ ⟨rfl,_⟩;rw[QL,QL,QZ (Xm _)]at e2;have o:=ai g1 g2;clear R S;symm;apply bD;simp only[cC];symm;refine{{_,ip.of e2},de e2 (by rw[QL];ext) (λD i y B H'=>jk K (fr H (bF D H')) y ((g.s.hd.take i).map hvD)/\∃T,B= [T]) (λD H' _ _ _=>{.nil,_,rfl}) ?_ ?_}
 .rintro D i x y B H3 n j ⟨rp,T,rfl⟩;rw[QY]at n;obtain⟨h,hh,rfl⟩:∃h,g.c.hs[i]? =!h/\V.ref h.2.1=x:=by
   cases z:g.c.hs[i]? with
   |none=>rw[z]at n;cases n
   |some h=>rw[z]at n;cases n;exact{(h),rfl,rfl}
  let{d,hd,{dx,d1},d2}:=Y.hd.at hh;have U:=j.same _ _ (o _ _ d1);have W:=j.same _ _ (o _ _ d2);clear d1 d2;symm;intro p4 H4 n4 r e4;have a5:=r _ _ W;have b2:=r _ _ U;clear U W;symm;refine{p4,h.2.2,_,rfl,e4,a5,by unfold X4;rw[QL];exact kn _ (QW hd),λl5 H5 b3 n5 G e5 k5=>?_};symm;intro r6 H6 n6 u e6;have I:=ai r (ai G u);refine j.put I λH7 mu=>{?_,_,rfl}
  have nD:∀{c:Tu},H3 c=none->c≠D:=λhc=>(ax j.lst hc).symm;have J:=r.free n5;have X:=r.free (G.free n6);have tD:∀{c:Tu} {xs:List V},H6 c=!(.tup xs)->c≠D:=λe z=>by rw[z,I _ _ j.lst]at e;cases e
  have nH:=_ao (ai o j.same) J;have k7:=k5.kt λc xs e=>aV (tD (u _ _ e)) (mu.old (u _ _ e) (tD (u _ _ e)));rw[bj hd,QT];exact eM (jk.mono (fI ((dU I).trans (eI mu))) rp) (.cons (.tup (dH (aV (nD X) (mu.old e6 (nD X)))) (.cons (.int _) (.cons (.str _) (.cons (.int _) (.cons (.lst (cL (aV (nD J) (mu.old (u _ _ e5) (nD J))) nH) (Me k7)) .nil))))) .nil)
 .rintro D3 y B H3 n3 g3 e3 _ ⟨rp,_⟩;rw[QL,lh,QZ (Xm _)]at rp;have S3:=ai o g3;have Y3:=Y.same S3;have a9:=Y3.obj;let{{Z,hg},gt,gs,ab,b4,_}:=id Y3.go;have le:g.c.es.length=g.s.ts.length:=by rw[<-Y.ts,QL]
  have ls:g.c.ss.length=g.s.ss.length:=by rw[<-Y.se,QL]
  symm;refine{g.c.g,Z,g.c.dt,_,g.c.es,rfl,hg,gt,ab,by ext,λr4 H4 b5 n4 r e4 t4=>?_};have Y4:=Y3.same r;have ad:=Y4.obj;have a0:=r _ _ hg;clear a9 hg;symm;refine{g.c.g,Z,g.c.ds,_,g.c.ss,rfl,a0,r _ _ gs,Y4.go.2.2.2.2.1,by ext,λr5 H5 b6 n5 G e5 t5=>?_};have Y5:=Y4.same G;have af:=Y5.obj;have a1:=Y5.pl;clear ad a0;symm;intro p6 H6 n6 u e6;have ag:=u _ _ a1;have Y6:=Y5.same u;have b7:=Y6.obj;clear af a1;symm;refine{g.c.dp,rfl,_,ag,by rw[QL];exact pz,λl7 H7 n7 g7 e7=>?_};have Y7:=Y6.same g7;have b8:=Y7.obj;symm;refine JV Y7.ag al λl8 H8 b9 n8 g8 e8 p8=>?_;symm;intro r9 H9 n9 g9 e9;have a2:=ai g8 g9;have M:=ai u (ai g7 a2);have a3:=ai G M;have ak:=ai r a3;rw[Rb]at e7;refine q _ _ {ai S3 ak,r9,D3,r4,_,H3,H4,rfl,e9,S3,.lst (cL e3 (_ao o n3)) (jk.mono (fI cz) rp),r,.lst (cL e4 n4) ?_,a3,.cons (.lst (cL (M _ _ e5) n5) ?_) (.cons (.lst (cL (a2 _ _ e7) (_ao (ai G u) n7)) ?_) (.cons (.lst (cL (g9 _ _ e8) (_ao (ai G (ai u g7)) n8)) (jk.mono (fI g9) (mx p8))) .nil))};.rw [<-Y.ts,Rb];have:=jk.mono (fI cz) (Ku (K:=K) (λ_ _ h=>h) t4);rw[Rb]at this;exact this
  .rw [<-Y.se,Rb];have:=jk.mono (fI (ai cz M)) (Kv (K:=K) (λ_ _ h=>h) t5);rw[Rb]at this;exact this
  .exact GI
end
section
variable{K:RP}{H0:Hp}{σ:_L.St}
variable{R:Hp->Hp}
theorem kI(h:jk K H vs ds):vs.length=ds.length:=by
 induction vs generalizing ds with
 |nil=>cases h;rfl
 |cons v vs a=>cases h with|cons _ h=>rw[QP,QP,a h]
theorem BB(h:jk K H vs ds)(n:ds.length<=1000):vs.length<=S6:=by rw[kI h];exact Xn n (by unfold S6;decide)
def GK(h:jk K H vs ds)(h':jk K H ws es):jk K H (vs++ws) (ds++es):=by
 induction vs generalizing ds with
 |nil=>cases h;exact h'
 |cons v vs b=>cases h with|cons a h=>exact .cons a (b h)
end
def tkF(q:Int×Int)(m:Int):Int×Int×Int:=if q.2=1 then
 (((q.1+1)*48271%2147483647)*((q.1+1)*48271%2147483647)%2147483629*69621%2147483587/8%m,((q.1+1)*48271%2147483647)*((q.1+1)*48271%2147483647)%2147483629,q.2)
 else(q.1%m,q.1/m,q.2)
def X2(q:Int×Int):List V:=[.int q.1,.int q.2]
def qx(h:0<m):0<=(tkF q m).1/\(tkF q m).1<m:=by
 unfold tkF;split;.exact{Int.emod_nonneg _ Xu,Int.emod_lt_of_pos _ h}
 .exact{Int.emod_nonneg _ Xu,Int.emod_lt_of_pos _ h}
#print c
def vK:Sp:=G3 (A:=Tu×(Int×Int)×Int) (λa=>[.ref a.1,.int a.2.2]) (λa H=>H a.1=!(.lst (X2 a.2.1))/\0<a.2.2/\a.2.2<1000) (λa H v b=>v=.int (tkF a.2.1 a.2.2).1/\pq a.1 H b/\b a.1=!(.lst (X2 (tkF a.2.1 a.2.2).2)))
def Mf(D:hW K mg "_law_take" oh ["state","many"]):%[1,"_law_take",["state","many"]|vK]:=by
 exists D.I lY;let{l,{s,d},m}:=a;dsimp only at p q⊢;let{j,r,u}:=p;unfold X2 at j;unfold tkF at q;exists _,(aa (aH (aK a7 (ar (pv 0) ac) ac) (aa (bW (aM eX (aM jF (aM bE (ar (pv 0) ac) ac) ac) ac) (iH (pv 0) ac dR)) (aa (bW (aM eX (aM jF (ar (pv 0) ac) (ar (pv 0) ac)) ac) (iH (pv 0) ac dR)) (ae (aw (aM eX (aM jG (aM eX (aM jF (ar (pv 0) ac) ac) ac) ac) (pv 1)))))) aE) (aa (aT 2 lY (aM eX (ar (pv 0) ac) (pv 1))) (aa (bW (aM jG (ar (pv 0) ac) (pv 1)) (iH (pv 0) ac dR)) (ae (aw (pv 2))))));symm;by_cases c:d=1
 .rw [Xf c]at q;apply bN c;symm;refine{0,rfl,λe b=>?_};have v:e l=!(.lst [.int ((s+1)*48271%2147483647),.int d]):=by rw[b.at_,c];rfl
  have x:=Int.emod_nonneg ((s+1)*48271) (show(2147483647:Int)≠0 by decide);have y:=Int.emod_lt_of_pos ((s+1)*48271) (show(0:Int)<2147483647 by decide);generalize (s+1)*48271%2147483647=a at *;symm;refine{.inl {by ext,by ext},?_};symm;refine{0,rfl,λn i=>?_};have o:n l=!(.lst [.int (a*a%2147483629),.int d]):=by rw[i.at_,c];rfl
  symm;exact q _ _ {rfl,(pq.mu b).trans (.mu i),o}
 .rw [Xe c]at q;apply bp c;symm;refine{by ext,?_};symm;refine{0,rfl,λe b=>?_};symm;exact q _ _ {rfl,.mu b,b.at_}
def eF(q:Int×Int)(x:VA):Tr×Int×Int:=
 if(tkF q 5).1<2 then(.num (1+(tkF (tkF q 5).2 3).1),(tkF (tkF q 5).2 3).2)
 else if(tkF q 5).1=2 then(.name x,(tkF q 5).2)
 else if(tkF q 5).1=3 then(.bin .add .now (.num (tkF (tkF q 5).2 3).1),(tkF (tkF q 5).2 3).2)
 else(.bin .mul (.name x) .own,(tkF q 5).2)
def spE(K:RP):Sp:=G3 (A:=Tu×(Int×Int)×VA) (λa=>[.ref a.1,.str a.2.2]) (λa H=>H a.1=!(.lst (X2 a.2.1))) (λa H v b=>pq a.1 H b/\b a.1=!(.lst (X2 (eF a.2.1 a.2.2).2))/\Rp K (bF a.1 (nw H b)) v (Xv (eF a.2.1 a.2.2).1))
def eS(hl:∃u,H l=!u)(n:H a=none)(e:H' a=!o):bF l (nw H H') a=!o:=aV (λz=>by let{u,h}:=hl;rw[z,h]at n;cases n) (jg n e)
def c9(f:pq l H H')(h:H' a=none)(hl:H' l=!u):H a=none:=by
 cases z:H a with
 |none=>rfl
 |some o=>
  by_cases e:a=l;.lia
  .rw [f _ _ e z]at h;cases h
def Nj(D:hW K mg "_law_e" u6 ["state","x"])(G:%[1,"_law_take",["state","many"]|vK]):%[2,"_law_e",["state","x"]|spE K]:=by
 exists D.I sM;let{l,s,x}:=a;unfold eF at q;exists _,(aa (aT 2 sM (aB G hr rfl (ay (pv 0) ac))) (aa (aH (aK jd (pv 2) ac) (ae (aw (am (ay aq (aM bE ac (aB G hr rfl (ay (pv 0) ac))))))) aE) (aa (aH (aK a7 (pv 2) ac) (ae (aw (am (ay aq (pv 1))))) aE) (aa (aH (aK a7 (pv 2) ac) (ae (aw (am (aW aq (am (aD aq)) (am (ay aq (aB G hr rfl (ay (pv 0) ac)))))))) aE) (ae (aw (am (aW aq (am (ay aq (pv 1))) (am (aD aq))))))))));symm;refine{(l,s,5),rfl,{p,of_decide_eq_true rfl,of_decide_eq_true rfl},λv H1 Z=>?_};let{rfl,i,j}:=Z;generalize tkF s 5=r at *;symm;by_cases o:r.1<2;.rw [Xf o]at q;apply bN o;symm;refine{(l,r.2,3),rfl,{j,of_decide_eq_true rfl,of_decide_eq_true rfl},λv H2 w2=>?_};let{rfl,U,W}:=w2;symm;intro u I d b e3;have n0:=c9 (i.trans U) d W;exact q _ _ {(i.trans U).trans (.of b),b _ _ W,.tup (eS {_,p} n0 e3) (.cons (.str _) (.cons (.int _) .nil))}
 .rw [Xe o]at q;apply bp o;symm;by_cases y:r.1=2;.rw [Xf y]at q;apply bN y;symm;intro u I d b e3;exact q _ _ {i.trans (.of b),b _ _ j,.tup (eS {_,p} (c9 i d j) e3) (.cons (.str _) (.cons (.str _) .nil))}
  .rw [Xe y]at q;apply bp y;symm;by_cases B:r.1=3
   .rw [Xf B]at q;apply bN B;symm;intro u I d b e3;have F:=b _ _ j;symm;refine{(l,r.2,3),rfl,{F,of_decide_eq_true rfl,of_decide_eq_true rfl},λv H4 w4=>?_};let{rfl,X,J}:=w4;intro p5 H5 M c N;symm;intro p6 H6 O e R;have n:=i.trans (.of b);have S:=n.trans X;have T:u≠l:=λz=>by rw[z,j]at d;cases d
    exact q _ _ {S.trans (.of (ai c e)),ai c e _ _ J,.tup (eS {_,p} (c9 (S.trans (.of c)) O (c _ _ J)) R) (.cons (.str _) (.cons (.tup (eS {_,p} (c9 i d j) (ai c e _ _ (X _ _ T e3))) (.cons (.str _) .nil)) (.cons (.tup (eS {_,p} (c9 S M J) (e _ _ N)) (.cons (.str _) (.cons (.int _) .nil))) .nil)))}
   .rw [Xe B]at q;apply bp B;symm;intro u I d b e3;symm;intro p5 H5 M c N;symm;intro p6 H6 O e R;have n:=i.trans (.of b);have F:=b _ _ j;have Y:=c _ _ F;exact q _ _ {n.trans (.of (ai c e)),e _ _ Y,.tup (eS {_,p} (c9 (n.trans (.of c)) O Y) R) (.cons (.str _) (.cons (.tup (eS {_,p} (c9 i d j) (ai c e _ _ e3)) (.cons (.str _) (.cons (.str _) .nil))) (.cons (.tup (eS {_,p} (c9 n M F) (e _ _ N)) (.cons (.str _) .nil)) .nil)))}
def _B(i:Int):VA:=if i=0 then "t" else "u"
def ig(q:Int×Int)(k:Int)(x:VA):Pl×Int×Int:=
 if(tkF q 8).1<2 then(.one "take" k (_B (tkF q 8).1) (eF (tkF q 8).2 x).1,(eF (tkF q 8).2 x).2)
 else if(tkF q 8).1=2 then(.one "give" k (_B (tkF (tkF q 8).2 2).1) (eF (tkF (tkF q 8).2 2).2 x).1,(eF (tkF (tkF q 8).2 2).2 x).2)
 else if(tkF q 8).1=3 then(.one "put" k "s" (eF (tkF q 8).2 x).1,(eF (tkF q 8).2 x).2)
 else if(tkF q 8).1=4 then(.one "get" k "s" (eF (tkF q 8).2 x).1,(eF (tkF q 8).2 x).2)
 else if(tkF q 8).1=5 then(.draw k x "r",(tkF q 8).2)
 else if(tkF q 8).1=6 then(.one "say" k "hi" (eF (tkF q 8).2 x).1,(eF (tkF q 8).2 x).2)
 else(.wait k (eF (tkF q 8).2 x).1,(eF (tkF q 8).2 x).2)
def OnP(K:RP)(l:Tu)(H a:Hp)(v:V)(d:Ta)(s:Int×Int):Prop:=pq l H a/\a l=!(.lst (X2 s))/\Rp K (bF l (nw H a)) v d
def ub(K:RP):Sp:=G3 (A:=Tu×(Int×Int)×Int×VA) (λa=>[.ref a.1,.int a.2.2.1,.str a.2.2.2]) (λa H=>H a.1=!(.lst (X2 a.2.1))) (λa H v b=>OnP K a.1 H b v (X1 (ig a.2.1 a.2.2.1 a.2.2.2).1) (ig a.2.1 a.2.2.1 a.2.2.2).2)
def zC(f:pq l H H1)(a:H1 l=!u):dA (bF l (nw H1 H2)) (bF l (nw H H2)):=λc o h=>by let{e1,e2}:=bK h;let{e3,b}:=dS e2;exact aV e1 (jg (c9 f e3 a) b)
def Mg(k:dA H2 H3):dA (bF l (nw H H2)) (bF l (nw H H3)):=λc o h=>by let{e1,e2}:=bK h;let{e3,a}:=dS e2;exact aV e1 (jg e3 (k _ _ a))
theorem iF(hl:∃u,H l=!u)(f:pq l H H1)(e:H1 l=!u)(b:pq l H1 H2)(c:H2 l=!(.lst (X2 s)))(h:Rp K (bF l (nw H1 H2)) v d)(i:H2 p=none)(a:dA H2 H3)(e3:H3 p=!(.tup (vs++[v])))(j:∀G,jk K G vs ds):OnP K l H H3 (.ref p) (.tuple (ds++[d])) s:=
 {(f.trans b).trans (.of a),a _ _ c,.tup (eS hl (c9 (f.trans b) i c) e3) (eM (j _) (.cons (Rp.mono (Mg a) (Rp.mono (zC f e) h)) .nil))}
def mB:jk K G [.str a,.int k,.str c] [.str a,.int k,.str c]:=.cons (.str _) (.cons (.int _) (.cons (.str _) .nil))
def ER(a:0<=r)(b:r<2):∃c,NB (VA.ofString "tu").cps.toList r=!c/\({#[c]}:VA)=_B r:=by
 have:r=0\/r=1:=by ext
 rcases this with rfl|rfl;.exact{_,rfl,by decide}
 .exact{_,rfl,by decide}
theorem BC:(VA.ofString "tu").length<=S6:=Xn (by decide:(VA.ofString "tu").length<=2) (by unfold S6;decide)
def Kw(D:hW K mg "_law_one" qh ["state","k","x"])(U:%[1,"_law_take",["state","many"]|vK])(z:%[2,"_law_e",["state","x"]|spE K]):%[3,"_law_one",["state","k","x"]|ub K]:=by
 exists D.I ol;let{l,s,k,x}:=a;dsimp only at p q⊢;have hu:=bA hr;unfold ig at q;exists _,(aa (aT 3 ol (aB U hr rfl (ay (pv 0) ac))) (aa (aH (aK jd (pv 3) ac) (ae (aw (am (bT aq (pv 1) (yA Am aq (pv 3) (λ_ _=>rfl)) (aB z hr rfl (ay (pv 0) (pv 2))))))) aE) (aa (aH (aK a7 (pv 3) ac) (ae (aw (am (bT aq (pv 1) (yA Am aq (aB U hr rfl (ay (pv 0) ac)) (λ_ _=>rfl)) (aB z hr rfl (ay (pv 0) (pv 2))))))) aE) (aa (aH (aK a7 (pv 3) ac) (ae (aw (am (bT aq (pv 1) aq (aB z hr rfl (ay (pv 0) (pv 2))))))) aE) (aa (aH (aK a7 (pv 3) ac) (ae (aw (am (bT aq (pv 1) aq (aB z hr rfl (ay (pv 0) (pv 2))))))) aE) (aa (aH (aK a7 (pv 3) ac) (ae (aw (am (bT aq (pv 1) (pv 2) aq)))) aE) (aa (aH (aK a7 (pv 3) ac) (ae (aw (am (bT aq (pv 1) aq (aB z hr rfl (ay (pv 0) (pv 2))))))) aE) (ae (aw (am (aW aq (pv 1) (aB z hr rfl (ay (pv 0) (pv 2))))))))))))));symm;refine{(l,s,8),rfl,{p,of_decide_eq_true rfl,of_decide_eq_true rfl},λv H1 X=>?_};let{rfl,u,b}:=X;dsimp only at u b;have W:=qx (q:=s) (m:=8) Xs;generalize tkF s 8=r at *;let{r,y}:=r;dsimp only at q u b W⊢;symm;by_cases F:r<2;.rw [Xf F]at q;apply bN F;symm;let{c,hc,T}:=ER W.1 F;exists BC,c,hc;rw[T];symm;refine{(l,y,x),rfl,b,λv I n=>?_};let{e,d,i}:=n;dsimp only at e d i;symm;intro J B o j e3;exact q _ _ (iF {_,p} u b e d i o j e3 λG=>mB)
 rw[Xe F]at q;apply bp F;symm;by_cases M:r=2;.rw [Xf M]at q;apply bN M;symm;refine{(l,y,2),rfl,{b,of_decide_eq_true rfl,of_decide_eq_true rfl},λv I n=>?_};let{rfl,e,d}:=n;dsimp only at e d;have i:=qx (q:=y) (m:=2) Xs;let{c,hc,T}:=ER i.1 i.2;symm;exists BC,c,hc;rw[T];symm;refine{(l,(tkF y 2).2,x),rfl,d,λv B Y=>?_};let{Z,l3,r3}:=Y;intro p4 H4 n4 k4 e4;exact q _ _ (iF {_,p} (u.trans e) d Z l3 r3 n4 k4 e4 λG=>mB)
 rw[Xe M]at q;apply bp M;symm;by_cases N:r=3;.rw [Xf N]at q;apply bN N;symm;refine{(l,y,x),rfl,b,λv I n=>?_};let{e,d,i}:=n;intro J B o j e3;exact q _ _ (iF {_,p} u b e d i o j e3 λG=>mB)
 rw[Xe N]at q;apply bp N;symm;by_cases O:r=4;.rw [Xf O]at q;apply bN O;symm;refine{(l,y,x),rfl,b,λv I n=>?_};let{e,d,i}:=n;intro J B o j e3;exact q _ _ (iF {_,p} u b e d i o j e3 λG=>mB)
 rw[Xe O]at q;apply bp O;symm;by_cases R:r=5;.rw [Xf R]at q;apply bN R;symm;intro J B o j e3;exact q _ _ {u.trans (.of j),j _ _ b,.tup (eS {_,p} (c9 u o b) e3) (.cons (.str _) (.cons (.int _) (.cons (.str _) (.cons (.str _) .nil))))}
 rw[Xe R]at q;apply bp R;symm;by_cases S:r=6;.rw [Xf S]at q;apply bN S;symm;refine{(l,y,x),rfl,b,λv I n=>?_};let{e,d,i}:=n;intro J B o j e3;exact q _ _ (iF {_,p} u b e d i o j e3 λG=>mB)
 rw[Xe S]at q;apply bp S;symm;refine{(l,y,x),rfl,b,λv I n=>?_};let{e,d,i}:=n;intro J B o j e3;exact q _ _ (iF (vs:=[.str "wait",.int k]) (ds:=[.str "wait",.int k]) {_,p} u b e d i o j e3 λG=>.cons (.str _) (.cons (.int _) .nil))
end
section
variable{K:RP}{l:Tu}{B H0:Hp}{σ:_L.St}
abbrev hn(l:Tu)(B H:Hp):Hp:=bF l (nw B H)
def fW(f:pq l H H'):dA (hn l B H) (hn l B H'):=λc o h=>by let{e1,e2}:=bK h;let{e3,a}:=dS e2;exact aV e1 (jg e3 (f _ _ e1 a))
structure Gb(l:Tu)(B H0:Hp):Prop where
 e:∃u,B l=!u
 f:pq l B H0
def GE(K:RP)(l:Tu)(B H0:Hp)(σ:_L.St)(b:TE)(d:Ta)(q c:Int×Int):Prop:=∀H Q,pq l H0 H->H l=!(.lst (X2 q))->(∀v a,pq l H a->a l=!(.lst (X2 c))->Rp K (hn l B a) v d->Q v a)->b σ H Q
def GA(K:RP)(l:Tu)(B H0:Hp)(σ:_L.St)(c:TA)(ds:List Ta)(q d:Int×Int):Prop:=∀H Q,pq l H0 H->H l=!(.lst (X2 q))->(∀b a,pq l H a->a l=!(.lst (X2 d))->jk K (hn l B a) b ds->Q b a)->c σ H Q
variable{q q1 q2:Int×Int}
def jX:pq l H H:=λ_ _ _ h=>h
theorem Ky:GE K l B H0 σ (tC (.str s)) (.str s) q q:=λ_ _ _ hl k=>k _ _ jX hl (.str _)
theorem Kz:GE K l B H0 σ (tC (.int i)) (.int i) q q:=λ_ _ _ hl k=>k _ _ jX hl (.int _)
theorem GL(e:σ[i]? =!(!(.str s))):GE K l B H0 σ (eT i) (.str s) q q:=λ_ _ _ hl k=>{_,e,k _ _ jX hl (.str _)}
theorem KA(e:σ[i]? =!(!v))(h:Rp K (hn l B H0) v d):GE K l B H0 σ (eT i) d q q:=λ_ _ f hl k=>{v,e,k _ _ jX hl (Rp.mono (fW f) h)}
theorem KB:GA K l B H0 σ eU [] q q:=λ_ _ _ hl k=>k _ _ jX hl .nil
theorem GM(h:GE K l B H0 σ te d q q1)(h':GA K l B H0 σ ta ds q1 q2):GA K l B H0 σ (bI te ta) (d::ds) q q2:=λH Q f hl k=>h H _ f hl λ_ c a e i=>h' c _ (f.trans a) e λ_ j b n o=>k _ j (a.trans b) n (.cons (Rp.mono (fW b) i) o)
theorem KC(b:Gb l B H0)(n:ds.length<=1000)(h:GA K l B H0 σ ta ds q q1):GE K l B H0 σ (j7 ta) (.tuple ds) q q1:=λH Q f hl k=>h H _ f hl λr u c d i=>{BB i n,λp j o a e=>k _ j (c.trans (.of a)) (a _ _ d) (.tup (eS b.e (c9 ((b.f.trans f).trans c) o d) e) (jk.mono (fW (.of a)) i))}
theorem KE(b:Gb l B H0)(n:ds.length<=1000)(h:GA K l B H0 σ ta ds q q1):GE K l B H0 σ (mM ta) (.list ds) q q1:=λH Q f hl k=>h H _ f hl λr u c d i=>{BB i n,λp j o a e=>k _ j (c.trans (.of a)) (a _ _ d) (.lst (eS b.e (c9 ((b.f.trans f).trans c) o d) e) (jk.mono (fW (.of a)) i))}
theorem KF(b:Gb l B H0)(n:ds.length+es.length<=1000)(h:GE K l B H0 σ ta (.list ds) q q1)(h':GE K l B H0 σ tb (.list es) q1 q2):GE K l B H0 σ (XJ yH ta tb) (.list (ds++es)) q q2:=λH Q f hl k=>h H _ f hl λv u d x y=>h' u _ (f.trans d) x λw F e j z=>by let{a,G,rfl,e1,o}:=(Rp.mono (fW e) y).lst_inv;let{c,I,rfl,e2,r}:=z.lst_inv;have A:=(dS (bK e1).2).2;have C:=(dS (bK e2).2).2;refine{_,_,_,_,rfl,rfl,A,C,?_,λp J E i e3=>k _ _ ((d.trans e).trans (.of i)) (i _ _ j) (.lst (eS b.e (c9 (((b.f.trans f).trans d).trans e) E j) e3) (jk.mono (fW (.of i)) (GK o r)))};rw[kI o,kI r];exact Xn n (by unfold S6;decide)
theorem GN(e:σ[i]? =!(!(.ref l)))(a:0<m/\m<1000):GE K l B H0 σ (j8 vK (bI (eT i) (bI (tC (.int m)) eU))) (.int (tkF q m).1) q (tkF q m).2:=λH Q f hl k=>{_,e,(l,q,m),rfl,{(hl),a.1,a.2},λv d z=>by let{rfl,b,c}:=z;exact k _ _ b c (.int _)}
theorem KG(h:GE K l B H0 σ ta (.int a) q q1)(h':GE K l B H0 σ tb (.int b) q1 q2):GE K l B H0 σ (XJ (YG λi j=>.int (i+j)) ta tb) (.int (a+b)) q q2:=λH Q f hl k=>h H _ f hl λv d c e n=>h' d _ (f.trans c) e λw u o p r=>by cases n;cases r;exact{_,_,rfl,rfl,k _ _ (c.trans o) p (.int _)}
theorem Nk(b:Gb l B H0)(e:σ[i]? =!(!(.ref l)))(a:σ[j]? =!(!(.str x))):GE K l B H0 σ (j8 (spE K) (bI (eT i) (bI (eT j) eU))) (Xv (eF q x).1) q (eF q x).2:=λH Q f hl k=>{_,e,_,a,(l,q,x),rfl,hl,λv n z=>by let{c,d,h}:=z;exact k _ _ c d (Rp.mono (zC (b.f.trans f) hl) h)}
theorem KH(b:Gb l B H0)(e:σ[i]? =!(!(.ref l)))(a:σ[j]? =!(!(.str x))):GE K l B H0 σ (j8 (ub K) (bI (eT i) (bI (tC (.int k0)) (bI (eT j) eU)))) (X1 (ig q k0 x).1) q (ig q k0 x).2:=λH Q f hl k=>{_,e,_,a,(l,q,k0,x),rfl,hl,λv n z=>by let{c,d,h}:=z;exact k _ _ c d (Rp.mono (zC (b.f.trans f) hl) h)}
def GE.use(h:GE K l B H0 σ te d q q1)(hl:H0 l=!(.lst (X2 q)))(k:∀v a,pq l H0 a->a l=!(.lst (X2 q1))->Rp K (hn l B a) v d->Q v a):te σ H0 Q:=h H0 Q jX hl k
def cI(q:Int×Int)(b:Int)(x:VA):Nat->List Pl×Int×Int
 |0=>([],q)
 |n+1=>((cI q b x n).1++[(ig (cI q b x n).2 (b+n) x).1],(ig (cI q b x n).2 (b+n) x).2)
def OlP(K:RP)(l:Tu)(B d:Hp)(q:Int×Int)(b:Int)(x:VA)(D:Tu)(i:Nat)(e:List V)(σ:_L.St)(c:Hp):Prop:=d D=none/\(∃o,σ= [o,!(.ref l),!(.str x)])/\(∀a o,a≠l->a≠D->d a=!o->c a=!o)/\c l=!(.lst (X2 (cI q b x i).2))/\jk K (bF D (hn l B c)) e ((cI q b x i).1.map X1)
def vL(I:Gb l B H0)(hl:H0 l=!(.lst (X2 q)))(sz:n<=100)(k:∀v e,pq l H0 e->e l=!(.lst (X2 (cI q b x n).2))->Rp K (hn l B e) v (.list ((cI q b x n).1.map X1))->Q v e):gG (Zk 0 n) (gA 0) yF (j8 (ub K) (bI (eT 1) (bI (XJ (YG λi j=>.int (i+j)) (tC (.int b)) (eT 0)) (bI (eT 2) eU)))) [none,!(.ref l),!(.str x)] H0 Q:=by
 have big:=_bg
 refine wA (OlP K l B H0 q b x) (λD e d g _=>{d,{(none),rfl},λa o _ _ h=>g _ _ h,g _ _ hl,.nil}) ?_ ?_
 .rintro D i P R A S y T ⟨d,⟨o,rfl⟩,f,C,r⟩;have p:l≠D:=λz=>by rw[<-z,hl]at d;cases d
  refine{_,rfl,_,rfl,_,_,rfl,rfl,_,rfl,(l,(cI q b x i).2,b+i,x),rfl,C,λv U W=>?_};let{E,X,Y}:=W;refine MY (by rw[QL,RX];exact S) (by rw[QL,RX];ext) (E _ _ p.symm y) T λJ mu=>{d,{_,rfl},λa o M N h=>mu.old (E _ _ M (f a o M N h)) N,mu.old X p,?_}
  have up:dA (hn l A U) (bF D (hn l B J)):=λc u h=>by
   let{e1,e2}:=bK h;let{e3,F}:=dS e2;have G:c≠D:=λz=>by rw[z,y]at e3;cases e3
   refine aV G (aV e1 (jg ?_ (mu.old F G)));cases z:B c with
   |none=>rfl
   |some u'=>rw[f _ _ e1 G (I.f _ _ e1 z)]at e3;cases e3
  have H:dA (bF D (hn l B A)) (bF D (hn l B J)):=λc u h=>by let{O,Z}:=bK h;let{e1,e2}:=bK Z;let{e3,F}:=dS e2;exact aV O (aV e1 (jg e3 (mu.old (E _ _ e1 F) O)))
  show jk K _ _ (((cI q b x i).1++[(ig (cI q b x i).2 (b+i) x).1]).map X1);rw[QT];exact eM (jk.mono H r) (.cons (Rp.mono up Y) .nil)
 .rintro D P R A y ⟨d,_,f,C,r⟩;have p:D≠l:=λz=>by rw[z,hl]at d;cases d
  have nB:B D=none:=by
   cases z:B D with
   |none=>rfl
   |some o=>rw[I.f _ _ p z]at d;cases d
  exact k _ _ (λa o n h=>f a o n (λz=>by rw[z,d]at h;cases h) h) C (.lst (aV p (jg nB y)) (jk.mono cz r))
end
def nm8:List VA:=["x","xx","add","push","jump","r","t","begin"]
def x8(i:Int):VA:=nm8.getD i.toNat "x"
def g0(c:Int):Int×Int:=(c,if c<1000000000000000000 then 1 else 0)
def gX(c:Int):VA:=x8 (tkF (g0 c) 8).1
def gI(c:Int):List Pl×Int×Int:=cI (tkF (g0 c) 8).2 8 (gX c) 2
def gO(c:Int):Pl×Int×Int:=ig (gI c).2 12 (gX c)
def gE(c:Int):Tr×Int×Int:=eF (gO c).2 (gX c)
def gS(c:Int):List Pl×Int×Int:=cI (gE c).2 16 (gX c) 3
def gR(c:Int):Int×Int×Int:=tkF (gS c).2 4
def gT(c:Int):Int×Int×Int:=tkF (gR c).2 2
def gU(c:Int):Int×Int×Int:=tkF (gT c).2 3
def more(x:VA):Pl:=.one "let" 10 x (.bin .add (.name x) (.num 1))
def qy(c:Int):Sm:=.wh 7 "<" (.name (gX c)) (.num 3) ((gI c).1++[more (gX c)])
def fo(c:Int):List Sm:=[.pl (.one "let" 6 (gX c) (.num 0)),qy c,.pl (gO c).1,.pl (.start 13 "b" [(gE c).1])]
def q7(c:Int):Pg:={[("t",1+(gT c).1),("u",1)],[("s",(gU c).1,4)],[("r",[1,(gR c).1,2])],[("a",[],fo c),("b",[gX c],(gS c).1.map .pl)]}
local  macro_rules | `(tactic| infer_instance) => `(tactic| first | exact Ky | exact Kz | exact KB | exact GL rfl | exact KA rfl (by assumption) | exact GN rfl Xs | exact Nk (by assumption) rfl rfl | exact KH (by assumption) rfl rfl | apply GM | apply KC (by assumption) (Q3 rfl) | apply KE (by assumption) (Q3 rfl) | apply KG | apply KF (by assumption) (by simp [gI, cI]))
#print c
def KI(K:RP):Sp:=G3 (A:=Int) (λc=>[.int c]) (λ_ _=>True) (λc H v a=>dA H a/\Rp K (nw H a) v (.tuple (q7 c).L))
def Mh{r:Int}(a:0<=r)(b:r<8):NB ([.str "x",.str "xx",.str "add",.str "push",.str "jump",.str "r",.str "t",.str "begin"]:List V) r=!(.str (x8 r)):=by
 let{n,rfl}:=Int.eq_ofNat_of_zero_le a;have:n<8:=by ext
 have:n=0\/n=1\/n=2\/n=3\/n=4\/n=5\/n=6\/n=7:=by ext
 rcases this with rfl|rfl|rfl|rfl|rfl|rfl|rfl|rfl<;>rfl
def Mi(D:hW K mg "_law_program" jQ ["cell"])(Ql:mg "int" =none)(OQ:mg "range" =none)(G:%[1,"_law_take",["state","many"]|vK])(OA:%[2,"_law_e",["state","x"]|spE K])(M:%[3,"_law_one",["state","k","x"]|ub K]):%[4,"_law_program",["cell"]|KI K]:=by
 refine D.I hG (λ_=>rfl) λc f a5 A O s0 H Q E b p q=>?_;have hu:=bA b;refine{_,(aa (uk (i:=1) hG.nd rfl (Or.inr rfl) (aQ (ay (pv 0) (cn AR Ql (aD (kC jd (pv 0) (aM Ii ac ac))))))) (aa (uk (i:=2) hG.nd rfl (Or.inr rfl) (ar (aQ (gj aq (gj aq (gj aq (gj aq (bT aq aq aq aq)))))) (aB G b rfl (ay (pv 1) ac)))) (aa (j9 (i:=3) hG.nd rfl (Or.inl rfl) (eZ 1 (N:=["k","state","x"]) (cap:=[1,2]) rfl rfl rfl rfl Xs rfl rfl rfl) rfl (kZ rfl OQ (aD ac)) (λ_ _ _ _=>(iE (i:=0) (show List.Nodup (α:=VA) ["k","state","x"] by decide) rfl (Or.inl (Tk rfl)) (Or.inr (Tk rfl)))) (λ_ _ _ _=>cc) (λ_ _ _ _=>(aB M b rfl (aW (pv 1) (aM bE ac (pv 0)) (pv 2))))) (aa (aT 4 hG (am (bT aq ac (pv 2) (am (aW aq (am (ay aq (pv 2))) (am (ay aq ac))))))) (aa (aT 5 hG (am (gj aq (gj ac (bT aq (am (ay aq (pv 2))) (am (ay aq ac)) (aM Ft (pv 3) (aQ (aD (pv 4))))))))) (aa (aT 6 hG (aQ (bT (am (bT aq ac (pv 2) (am (ay aq ac)))) (pv 5) (aB M b rfl (aW (pv 1) ac (pv 2))) (am (bT aq ac aq (aQ (aD (aB OA b rfl (ay (pv 1) (pv 2)))))))))) (aa (j9 (i:=7) hG.nd rfl (Or.inl rfl) (eZ 1 (N:=["k","state","x"]) (cap:=[1,2]) rfl rfl rfl rfl Xs rfl rfl rfl) rfl (kZ rfl OQ (aD ac)) (λ_ _ _ _=>(iE (i:=0) (show List.Nodup (α:=VA) ["k","state","x"] by decide) rfl (Or.inl (Tk rfl)) (Or.inr (Tk rfl)))) (λ_ _ _ _=>cc) (λ_ _ _ _=>(aB M b rfl (aW (pv 1) (aM bE ac (pv 0)) (pv 2))))) (aa (aT 8 hG (aQ (aD (am (ay aq (aQ (aW ac (aB G b rfl (ay (pv 1) ac)) ac))))))) (aa (aT 9 hG (aQ (ay (am (ay aq (aM bE ac (aB G b rfl (ay (pv 1) ac))))) (am (ay aq ac))))) (ae (aw (am (bT (pv 9) (aQ (aD (am (aW aq (aB G b rfl (ay (pv 1) ac)) ac)))) (pv 8) (aQ (ay (am (aW aq (aQ bJ) (pv 6))) (am (aW aq (aQ (aD (pv 2))) (pv 7)))))))))))))))))),?_};symm;intro l B nl kB eB;have R:B l=!(.lst (X2 (g0 c))):=by
  rw[eB];unfold X2 g0;by_cases z:c<1000000000000000000;.rw [decide_eq_true z,Xf rfl];dsimp only;rw[Xf z]
  .rw [decide_eq_false z,Xe Xs];dsimp only;rw[Xe z]
 clear eB;symm;refine{by unfold S6;decide,λp2 H2 T U e2=>?_};have l2:=U _ _ R;symm;refine{(l,g0 c,8),rfl,{l2,of_decide_eq_true rfl,of_decide_eq_true rfl},λv H3 w3=>?_};let{rfl,I,l3}:=w3;dsimp only at I l3;have u:p2≠l:=λz=>by rw[z,R]at T;cases T
 have e3:=I _ _ u e2;have rr:=qx (q:=g0 c) (m:=8) Xs;have ix:=Mh rr.1 rr.2;have e:Gb l B H3:={{_,R},(pq.of U).trans I}
 rw[show x8 (tkF (g0 c) 8).1=gX c from rfl]at ix;clear U T I l2 e2 u;symm;refine bD ?_;simp only[ym];symm;refine vL e l3 Xs λv3 H4 f4 l4 W=>?_;dsimp +zetaDelta only[gA,ui,kY,o7];rw[show cI (tkF (g0 c) 8).2 8 (gX c) 2=gI c from rfl]at l4 W;have X:Gb l B H4:={e.e,e.f.trans f4}
 refine GE.use (K:=K) (l:=l) (B:=B) (d:=.tuple [.str "let",.int 10,.str (gX c),.tuple [.str "+",.tuple [.str "name",.str (gX c)],.tuple [.str "number",.int 1]]]) (q1:=(gI c).2) (by repeat infer_instance) l4 λv4 H5 f5 l5 r4=>?_;have Y:Gb l B H5:={e.e,X.f.trans f5}
 have W:=Rp.mono (fW f5) W;refine GE.use (K:=K) (l:=l) (B:=B) (d:=.tuple [.str "while",.int 7,.str "<",.tuple [.str "name",.str (gX c)],.tuple [.str "number",.int 3],.list ((gI c).1.map X1++[.tuple [.str "let",.int 10,.str (gX c),.tuple [.str "+",.tuple [.str "name",.str (gX c)],.tuple [.str "number",.int 1]]]])]) (q1:=(gI c).2) (by repeat infer_instance) l5 λv5 H6 f6 l6 r5=>?_;have Z:Gb l B H6:={e.e,Y.f.trans f6}
 refine GE.use (K:=K) (l:=l) (B:=B) (d:=.list [.tuple [.str "let",.int 6,.str (gX c),.tuple [.str "number",.int 0]],.tuple [.str "while",.int 7,.str "<",.tuple [.str "name",.str (gX c)],.tuple [.str "number",.int 3],.list ((gI c).1.map X1++[.tuple [.str "let",.int 10,.str (gX c),.tuple [.str "+",.tuple [.str "name",.str (gX c)],.tuple [.str "number",.int 1]]]])],X1 (gO c).1,.tuple [.str "start",.int 13,.str "b",.list [Xv (gE c).1]]]) (q1:=(gE c).2) (by repeat infer_instance) l6 λv6 H7 f7 l7 J=>?_;have x:Gb l B H7:={e.e,Z.f.trans f7}
 refine bD ?_;refine{3,rfl,by decide,by decide,?_};show gG (Zk 0 3) (gA 0) yF _ [none,!(.ref l),!(.str (gX c))] H7 _;refine vL x l7 Xs λv7 H8 f8 l8 r7=>?_;rw[show cI (gE c).2 16 (gX c) 3=gS c from rfl]at l8 r7;have a0:Gb l B H8:={e.e,x.f.trans f8}
 have J:=Rp.mono (fW f8) J;refine GE.use (K:=K) (l:=l) (d:=.list [.tuple [.str "r",.list [.int 1,.int (gR c).1,.int 2]]]) (q1:=(gR c).2) (by repeat infer_instance) l8 λv8 H9 f9 l9 r8=>?_;have a1:Gb l B H9:={e.e,a0.f.trans f9}
 refine GE.use (K:=K) (d:=.list [.tuple [.str "t",.int (1+(gT c).1)],.tuple [.str "u",.int 1]]) (q1:=(gT c).2) (by repeat infer_instance) l9 λv9 a2 j a3 r9=>?_;have y:Gb l B a2:={e.e,a1.f.trans j}
 have J:=Rp.mono (fW (f9.trans j)) J;have r7:=Rp.mono (fW (f9.trans j)) r7;have r8:=Rp.mono (fW j) r8;dsimp only[uj];refine GE.use (d:=.tuple [.list [.tuple [.str "t",.int (1+(gT c).1)],.tuple [.str "u",.int 1]],.list [.tuple [.str "s",.int (gU c).1,.int 4]],.list [.tuple [.str "r",.list [.int 1,.int (gR c).1,.int 2]]],.list [.tuple [.str "a",.list [],.list [.tuple [.str "let",.int 6,.str (gX c),.tuple [.str "number",.int 0]],.tuple [.str "while",.int 7,.str "<",.tuple [.str "name",.str (gX c)],.tuple [.str "number",.int 3],.list ((gI c).1.map X1++[.tuple [.str "let",.int 10,.str (gX c),.tuple [.str "+",.tuple [.str "name",.str (gX c)],.tuple [.str "number",.int 1]]]])],X1 (gO c).1,.tuple [.str "start",.int 13,.str "b",.list [Xv (gE c).1]]]],.tuple [.str "b",.list [.str (gX c)],.list ((gS c).1.map X1)]]]) (q1:=(gU c).2) (by repeat infer_instance) a3 λv n a4 a9 r=>?_;have F:pq l B n:=y.f.trans a4;have S:dA H n:=λa o h=>F _ _ (λz=>by rw[z,nl]at h;cases h) (kB _ _ h);have up:dA (hn l B n) (nw H n):=λa o h=>by let{e1,e2}:=bK h;let{e3,e4}:=dS e2;exact jg (_ao kB e3) e4
 refine q _ _ {S,?_};have:=Rp.mono up r;unfold q7 Pg.L fo qy more hdD zB;simp only[QU,SU,QT,Rb];exact this
end
end _K
#print z
def qT(t:TS):List Int:=t.que.map (·.1)
def qS(t:SS):List Int:=t.gets.map (·.1)++t.puts.map (·.1)
def wl(s:YS):List Int:=s.ag.map (·.2)++((s.ts.flatMap λp=>qT p.2)++s.ss.flatMap λp=>qS p.2)
def sT(O:List (Int×Int))(m x:Int):(Ag.XV O m x).Perm ((m,x)::O):=by refine List.perm_middle.trans (.cons _ ?_);rw[List.takeWhile_append_dropWhile]
def vM(s:YS)(m x:Int):(wl (s.put m x)).Perm (x::wl s):=by exact((sT s.ag m x).map (·.2)).append_right _
def Mj(nm:VA)(s:YS)(i:Sv):(wl (YS.wk nm s i)).Perm (i.1::wl s):=vM _ _ _
def rH(nm:VA)(a:List Sv):∀s:YS,(wl (s.wake nm a)).Perm (a.map (·.1)++wl s):=by
 induction a with
 |nil=>intro s;exact .refl _
 |cons i r b=>intro s;apply(b (YS.wk nm s i)).trans;apply((Mj nm s i).append_left _).trans;exact Se
def vN(s:YS)(h:Int)(nm:VA)(n:Int)(a:List Sv):(wl (s.given h nm n a)).Perm (a.map (·.1)++wl s):=by
 apply(rH nm a _).trans;split;.exact .refl _
 .exact .refl _
theorem ES:∀(q:List (Int×Int)) (t:TS),t.que=q->(XO q t).1++(XO q t).2.que=q
 |[],t,e=>e
 |(h,n)::q,t,e=>by
  unfold XO;by_cases c:n<=t.free;.rw [Xf c];exact congrArg ((h,n):: ·) (ES q (gn {(t.free),t.held,q} h n) rfl)
  .rw [Xe c];exact e
theorem vO(t:TS)(h n:Int):(cq t h n).1.map (·.1)++qT (cq t h n).2=qT t:=by unfold cq qT;rw[<-QT,ES t.que (gn t h (-(Zc t h n))) rfl]
theorem xS(a:List (Int×Int)):(Y0 a).map (·.1)=a.map (·.1):=by unfold Y0;rw[Rb];rfl
theorem GO(a:List (Int×Bool×Int)):(_u a).map (·.1)=a.map (·.1):=by unfold _u;rw[Rb];rfl
def BD(e:gw s=!(i,s')):(i.1::qS s').Perm (qS s):=by
 unfold gw at e;split at e;.cases e
 .rename_i h n p a;split at e;.cases e;unfold qS;rw[a];exact List.perm_middle.symm
  .cases e
def Ml(e:YD s=!(i,s')):(i.1::qS s').Perm (qS s):=by
 unfold YD at e;split at e;.exact BD e
 .rename_i h n g a;split at e;.cases e;unfold qS;rw[a];exact .refl _
  .exact BD e
def Mm(n:Nat):∀s:SS,((h9 n s).1.map (·.1)++qS (h9 n s).2).Perm (qS s):=by
 induction n with
 |zero=>intro s;exact .refl _
 |succ n a=>
  intro s;unfold h9;cases e:YD s with
  |none=>exact .refl _
  |some p=>let{i,b}:=p;exact((a b).cons _).trans (Ml e)
def rJ(s:SS):((bS s).1.map (·.1)++qS (bS s).2).Perm (qS s):=by unfold bS;rw[GO];exact Mm _ s
def mC{α:Type}{nm:VA}{t t':α}(f:α->List Int){l:List (VA×α)}(e:aJ nm l=!t):∃A B,(l.flatMap λp=>f p.2)=A++(f t++B)/\((bi nm t' l).flatMap λp=>f p.2)=A++(f t'++B):=by
 induction l with
 |nil=>cases e
 |cons p r a=>
  unfold aJ at e;unfold bi;by_cases c:p.1=nm;.rw [Xf c]at e⊢;cases e;exact{[],r.flatMap λp=>f p.2,by rw[Re];rfl,by rw[Re];rfl}
  .rw [Xe c]at e⊢;let{A,B,b,d}:=a e;exact{f p.2++A,B,by rw[Re,b,QQ],by rw[Re,d,QQ]}
def zD(e:aJ nm s.ts=!t)(h:(x++qT t').Perm (y++qT t)):(x++wl (s.X (bi nm t' s.ts))).Perm (y++wl s):=by
 let{A,B,b,c}:=mC qT e;unfold wl;show(x++(s.ag.map (·.2)++(((bi nm t' s.ts).flatMap λp=>qT p.2)++_))).Perm _;rw[b,c];have d:(x++(s.ag.map (·.2)++((A++(qT t'++B))++s.ss.flatMap λp=>qS p.2))).Perm ((x++qT t')++(s.ag.map (·.2)++(A++(B++s.ss.flatMap λp=>qS p.2)))):=by
  simp only[QQ];apply List.Perm.append_left _;have a:(s.ag.map (·.2)++(A++(qT t'++(B++s.ss.flatMap λp=>qS p.2)))).Perm ((s.ag.map (·.2)++A)++(qT t'++(B++s.ss.flatMap λp=>qS p.2))):=by rw[QQ]
  apply a.trans;apply(Rc _ _ _).trans;rw[QQ]
 have f:((qT t)++(s.ag.map (·.2)++(A++(B++s.ss.flatMap λp=>qS p.2)))).Perm (s.ag.map (·.2)++((A++(qT t++B))++s.ss.flatMap λp=>qS p.2)):=by apply(Rc _ _ _).trans;apply List.Perm.append_left _;simp only[QQ];exact Rc _ _ _
 refine d.trans ((h.append_right _).trans ?_);rw[QQ];exact f.append_left _
def qz(e:aJ nm s.ss=!t)(h:(x++qS t').Perm (y++qS t)):(x++wl (s.ae (bi nm t' s.ss))).Perm (y++wl s):=by
 let{A,B,b,c}:=mC qS e;unfold wl;show(x++(s.ag.map (·.2)++((s.ts.flatMap λp=>qT p.2)++((bi nm t' s.ss).flatMap λp=>qS p.2)))).Perm _;rw[b,c];generalize s.ag.map (·.2)=U;generalize (s.ts.flatMap λp=>qT p.2)=W;have d:(x++(U++(W++(A++(qS t'++B))))).Perm ((x++qS t')++(U++(W++(A++B)))):=by
  rw[QQ];apply List.Perm.append_left _;have a:U++(W++(A++(qS t'++B)))=(U++(W++A))++(qS t'++B):=by simp only[QQ]
  rw[a];apply(Rc _ _ _).trans;simp only[QQ];exact .refl _
 have f:(qS t++(U++(W++(A++B)))).Perm (U++(W++(A++(qS t++B)))):=by
  have a:U++(W++(A++(qS t++B)))=(U++(W++A))++(qS t++B):=by simp only[QQ]
  rw[a];refine List.Perm.trans ?_ (Rc _ _ _);simp only[QQ];exact .refl _
 refine d.trans ((h.append_right _).trans ?_);rw[QQ];exact f.append_left _
def GQ(s:YS)(h:Int)(nm:VA)(n:Int):(wl (s.give h nm n)).Perm (wl s):=by
 unfold YS.give;split
 .split
  .exact .refl _
  .rename_i t e;apply(vN _ _ _ _ _).trans;rw[xS];apply zD (y:=[]) e;rw[vO];exact .refl _
 .exact .refl _
def DP(s:YS)(nm:VA)(n:Int):(wl (s.bring nm n)).Perm (wl s):=by
 unfold YS.bring;split;.exact .refl _
 .rename_i t e;apply(rH _ _ _).trans;exact qz (x:=((bS {t with level:=t.level+Yt t n}).1.map (·.1))) (y:=[]) e (rJ _)
def GS(s:YS)(h n:Int):(wl (s.wait h n)).Perm (h::wl s):=vM _ _ _
def KJ{s:YS}(c:¬(s.M h w nm n).1=true):(s.M h w nm n).2.1= []:=by
 unfold YS.M at c⊢;split;.split<;>rfl
 .split
  .rfl
  .rename_i e1 _ t e2;rw[Xe e1,e2]at c;dsimp only at c⊢;split
   .rename_i e3;rw[Xf e3]at c;split;.rfl
    .simp_all
   .rename_i e3;rw[Xe e3]at c;split;.rfl
    .simp_all
def KK(a:gH s w nm):(wl (s.ask h w nm n).2).Perm (if(s.ask h w nm n).1=true then wl s else h::wl s):=by
 have d:((s.M h w nm n).2.1.map (·.1)++wl (s.M h w nm n).2.2).Perm (if(s.M h w nm n).1=true then wl s else h::wl s):=by
  unfold YS.M;by_cases e:w= "take"
  .let{t,b,_}:=a.t e;rw[Xf e,b];dsimp only;unfold dE;split;.rw [Xe Xp];apply zD (x:=[]) (y:=[h]) b;unfold qT;rw[QT];exact List.perm_append_singleton ..
   .rw [Xf rfl];exact zD (x:=[]) (y:=[]) b (.refl _)
  .let{t,b,_}:=a.u e;rw[Xe e,b];dsimp only;split
   .split
    .rw [Xe Xp];apply qz (x:=[]) (y:=[h]) b;show(t.gets.map (·.1)++(t.puts++[(h,n)]).map (·.1)).Perm (h::(t.gets.map (·.1)++t.puts.map (·.1)));rw[QT,<-QQ];exact List.perm_append_singleton ..
    .rw [Xf rfl];exact qz (y:=[]) b (rJ _)
   .split
    .rw [Xe Xp];apply qz (x:=[]) (y:=[h]) b;show((t.gets++[(h,n)]).map (·.1)++t.puts.map (·.1)).Perm (h::(t.gets.map (·.1)++t.puts.map (·.1)));rw[QT,QQ];exact Se
    .rw [Xf rfl];exact qz (y:=[]) b (rJ _)
 unfold YS.ask;by_cases c:(s.M h w nm n).1=true;.rw [Xf c]at d⊢;exact(rH _ _ _).trans d
 .rw [Xe c]at d⊢;have f:=KJ c;rw[f]at d;exact d
def xT(h:Int):∀a:List (VA×TS),(((cZ h a).flatMap λi=>i.2.2.map (·.1))++((a.map λp=>(p.1,cH h p.2)).flatMap λp=>qT p.2)).Perm (a.flatMap λp=>qT p.2):=by
 intro a;induction a with
 |nil=>exact .refl _
 |cons p r b=>
  rw[QU,Re,Re];unfold cZ at b⊢;rw[Rs];by_cases c:0<ci p.2.held h;.rw [Xf c];rw[Re];have e:cH h p.2=(cq p.2 h (ci p.2.held h)).2:=(by unfold cH;rw[Xf c]);rw[e,xS];rw[<-vO p.2 h (ci p.2.held h),QQ,QQ];apply List.Perm.append_left _;apply(Rc _ _ _).trans;exact b.append_left _
  .rw [Xe c];have e:cH h p.2=p.2:=(by unfold cH;rw[Xe c]);rw[e];apply(Rc _ _ _).trans;exact b.append_left _
def GT(h:Int)(l:List (VA×Int×List Sv)):∀s:YS,(wl (s.gone h l)).Perm ((l.flatMap λi=>i.2.2.map (·.1))++wl s):=by
 induction l with
 |nil=>intro s;exact .refl _
 |cons i r a=>intro s;apply(a (s.given h i.1 i.2.1 i.2.2)).trans;apply((vN s h i.1 i.2.1 i.2.2).append_left _).trans;rw[Re,QQ];exact Rc _ _ _
def BE(s:YS)(h:Int):(wl (s.ah h)).Perm (wl s):=by apply(GT h _ _).trans;apply(Rc _ _ _).trans;apply List.Perm.append_left _;rw[<-QQ];exact(xT h s.ts).append_right _
structure Iv(Hk Rk:Hd->Prop)(q:List Int)(s:YS):Prop where
 nd:(q++wl s).Nodup
 sub:∀x∈q++wl s,x∈s.hd.map (·.1)
 hp:(s.hd.map (·.1)).Pairwise (· < ·)
 hb:∀p∈s.hd,1<=p.1/\p.1<=s.beg
 bg:s.beg<=60
 tn:s.ts.map (·.1)=(["t","u"]:List VA)
 sn:s.ss.map (·.1)=(["s"]:List VA)
 pl:∃i:Nat,s.pl=([("r",(i:Int))]:List (VA×Int))/\i<3
 hk:∀p∈s.hd,Hk p.2
 rk:∀p∈s.hd,p.1∉q->Rk p.2
section
variable{Hk Rk:Hd->Prop}{q q':List Int}{s s':YS}
theorem Iv.hn(v:Iv Hk Rk q s):HN s.hd:=⟨v.hp.imp λh=>Int.ne_of_lt h,λp a=>by have:=v.hb p a;have:=v.bg;ext⟩
theorem vP:∀{l:List Int} {a b:Int},l.Pairwise (· < ·)->(∀x∈l,a<=x/\x<=b)->(l.length:Int)<=b-a+1\/l= []
 |[],_,_,_,_=>.inr rfl
 |x::r,a,b,d,h=>by
  cases d with|cons e f=>
  have i:=h x (QO ..);rcases vP f (λy c=>{e y c,(h y (QM _ c)).2})with z|z
  .grind
  .grind
theorem Iv.hl(v:Iv Hk Rk q s):s.hd.length<=60:=by
 rcases vP (a:=1) (b:=60) v.hp (λx c=>by let{p,d,rfl}:=Xl c;have:=v.hb p d;have:=v.bg;ext)with z | z;.grind
 .simp_all
theorem BF:∀{l m:List Int},l.Nodup->(∀x∈l,x∈m)->l.length<=m.length
 |[],_,_,_=>Ra _
 |x::r,m,nd,h=>by rw[RA]at nd;have a:=h x (QO ..);have c:=BF nd.2 λy b=>(List.mem_erase_of_ne (show y≠x from λz=>nd.1 (by rw[<-z];exact b))).mpr (h y (QM _ b));rw[List.length_erase_of_mem a]at c;have:0<m.length:=List.length_pos_of_mem a;rw[QP];ext
def Iv.wz(v:Iv Hk Rk q s):(q++wl s).length<=60:=Xn (by have:=BF v.nd v.sub;rwa[QL]at this) v.hl
theorem zE(s:YS):s.ag.length<=(wl s).length:=by unfold wl;rw[QN,QL];ext
def xU{f:α->List Int}(e:aJ nm l=!t):(f t).length<=(l.flatMap λp=>f p.2).length:=by let{A,B,a,_}:=mC (t':=t) f e;rw[a,QN,QN];ext
def zF(e:aJ nm s.ts=!t):t.que.length<=(wl s).length:=by have:=xU (f:=qT) e;unfold qT at this;rw[QL]at this;unfold wl;rw[QN,QN];unfold qT;ext
def uc(e:aJ nm s.ss=!t):t.gets.length+t.puts.length<=(wl s).length:=by have:=xU (f:=qS) e;unfold qS at this;rw[QN,QL,QL]at this;unfold wl;rw[QN,QN];unfold qS;ext
theorem Iv.perm(v:Iv Hk Rk q s)(p:(q'++wl s').Perm (q++wl s))(a:s'.hd=s.hd)(c:s'.beg=s.beg)(d:s'.ts.map (·.1)=s.ts.map (·.1))(e:s'.ss.map (·.1)=s.ss.map (·.1))(f:s'.pl=s.pl)(h:∀p∈s.hd,p.1∉q'->p.1∈q->Rk p.2):Iv Hk Rk q' s':=
 ⟨p.nodup_iff.mpr v.nd,λx i=>by rw[a];exact v.sub x (p.mem_iff.mp i),by rw[a];exact v.hp,by rw[a,c];exact v.hb,by rw[c];exact v.bg,by rw[d];exact v.tn,by rw[e];exact v.sn,by rw[f];exact v.pl,by rw[a];exact v.hk,λp b j=>by
  rw[a]at b;by_cases z:p.1∈q;.exact h p b j z
  .exact v.rk p b z⟩
theorem hU:∀{l:List (VA×α)},(bi nm t l).map (·.1)=l.map (·.1)
 |[]=>rfl
 |p::r=>by
  unfold bi;split;.rfl
  .rw [QU,QU,hU]
structure XR(s s':YS):Prop where
 hd:s'.hd=s.hd
 bg:s'.beg=s.beg
 ts:s'.ts.map (·.1)=s.ts.map (·.1)
 ss:s'.ss.map (·.1)=s.ss.map (·.1)
 pl:s'.pl=s.pl
 st:s'.st=s.st
def XR.refl:XR s s:={(rfl),rfl,rfl,rfl,rfl,rfl}
theorem XR.trans(a:XR s s')(b:XR s' s2):XR s s2:={b.hd.trans a.hd,b.bg.trans a.bg,b.ts.trans a.ts,b.ss.trans a.ss,b.pl.trans a.pl,b.st.trans a.st}
def rK(nm:VA)(a:List Sv):∀s:YS,XR s (s.wake nm a):=by
 induction a with
 |nil=>intro s;exact .refl
 |cons i r b=>intro s;exact XR.trans (s':=YS.wk nm s i) {(rfl),rfl,rfl,rfl,rfl,rfl} (b _)
def vQ(s:YS)(h:Int)(nm:VA)(n:Int)(a:List Sv):XR s (s.given h nm n a):=by
 refine XR.trans ?_ (rK _ _ _);split;.exact{(rfl),rfl,rfl,rfl,rfl,rfl}
 .exact .refl
def xV(s:YS)(h:Int)(nm:VA)(n:Int):XR s (s.give h nm n):=by
 unfold YS.give;split
 .split
  .exact .refl
  .refine XR.trans ?_ (vQ _ _ _ _ _);exact{(rfl),rfl,hU,rfl,rfl,rfl}
 .exact .refl
def DQ(s:YS)(nm:VA)(n:Int):XR s (s.bring nm n):=by
 unfold YS.bring;split;.exact .refl
 .refine XR.trans ?_ (rK _ _ _);exact{(rfl),rfl,rfl,hU,rfl,rfl}
def BG(s:YS)(h:Int)(w nm:VA)(n:Int):XR s (s.M h w nm n).2.2:=by
 unfold YS.M;split
 .split
  .exact .refl
  .exact{(rfl),rfl,hU,rfl,rfl,rfl}
 .split
  .exact .refl
  .split<;>split<;>exact{(rfl),rfl,rfl,hU,rfl,rfl}
def vS(s:YS)(h:Int)(w nm:VA)(n:Int):XR s (s.ask h w nm n).2:=by
 unfold YS.ask;dsimp only;split;.exact(BG s h w nm n).trans (XR.trans (s':=YS.lay _ _ _) {(rfl),rfl,rfl,rfl,rfl,rfl} (rK _ _ _))
 .exact(BG s h w nm n).trans {(rfl),rfl,rfl,rfl,rfl,rfl}
def GU(h:Int)(l:List (VA×Int×List Sv)):∀s:YS,XR s (s.gone h l):=by
 induction l with
 |nil=>intro s;exact .refl
 |cons i r a=>intro s;exact(vQ s h i.1 i.2.1 i.2.2).trans (a _)
def Iv.bj(v:Iv Hk Rk q s)(p:(q'++wl s').Perm (q++wl s))(f:XR s s')(a:∀p∈s.hd,p.1∉q'->p.1∈q->Rk p.2):Iv Hk Rk q' s':=v.perm p f.hd f.bg f.ts f.ss f.pl a
def zH{l:List (Int×Hd)}:∀p∈l,p.1∉q->p.1∈q->Rk p.2:=λ_ _ a b=>absurd b a
def ET(a:∀d,(h,d)∈s.hd->Rk d):∀p∈s.hd,p.1∉([]:List Int)->p.1∈[h]->Rk p.2:=λp b _ c=>a p.2 (by rw[<-Xh c];exact b)
theorem Iv.wait(v:Iv Hk Rk [h] s)(a:∀d,(h,d)∈s.hd->Rk d):Iv Hk Rk [] (s.wait h n):=v.bj (GS s h n) {(rfl),rfl,rfl,rfl,rfl,rfl} (ET a)
theorem Iv.give(v:Iv Hk Rk q s):Iv Hk Rk q (s.give h nm n):=v.bj ((GQ s h nm n).append_left _) (xV s h nm n) zH
theorem Iv.bring(v:Iv Hk Rk q s):Iv Hk Rk q (s.bring nm n):=v.bj ((DP s nm n).append_left _) (DQ s nm n) zH
theorem Iv.ask(v:Iv Hk Rk [h] s)(b:∀d,(h,d)∈s.hd->Rk d)(a:gH s w nm):Iv Hk Rk (if(s.ask h w nm n).1=true then [h]else []) (s.ask h w nm n).2:=by
 have p:=KK (h:=h) (n:=n) a;refine v.bj ?_ (vS s h w nm n) ?_
 rotate_left
 .split
  .exact zH
  .exact ET b
 split;.simp_all
 .simp_all
theorem Iv.lay(v:Iv Hk Rk q s):Iv Hk Rk q (s.lay h ws):=v.bj (.refl _) {(rfl),rfl,rfl,rfl,rfl,rfl} zH
def Iv.ah(v:Iv Hk Rk [h] s):Iv Hk Rk [] (s.ah h):=by
 have f:XR ((s.R (s.hd.filter λp=>decide (p.1≠h))).X (s.ts.map λp=>(p.1,cH h p.2))) (s.ah h):=by refine XR.trans ?_ (GU _ _ _);exact{(rfl),rfl,rfl,rfl,rfl,rfl}
 have e1:=f.hd;have nd:=v.nd;rw[List.singleton_append,RA]at nd;have d:List.Sublist ((s.hd.filter λp=>decide (p.1≠h)).map (·.1)) (s.hd.map (·.1)):=(List.filter_sublist).map _;refine{(BE s h).nodup_iff.mpr nd.2,λx e=>?_,by rw[e1];exact v.hp.sublist d,λp a=>?_,by rw[f.bg];exact v.bg,?_,by rw[f.ss];exact v.sn,by rw[f.pl];exact v.pl,λp a=>?_,λp a _=>?_};.have b:=(BE s h).mem_iff.mp e;let{p,a,rfl}:=Xl (v.sub x (QS _ b));rw[e1];exact List.mem_map.mpr {p,List.mem_filter.mpr {a,decide_eq_true λz=>nd.1 (by rw[<-z];exact b)},rfl}
 .rw [e1]at a;rw[f.bg];exact v.hb p (List.mem_filter.mp a).1
 .rw [f.ts];show((s.ts.map λp=>(p.1,cH h p.2)).map (·.1))=_;rw[Rb];exact v.tn
 .rw [e1]at a;exact v.hk p (List.mem_filter.mp a).1
 .rw [e1]at a;have c:=List.mem_filter.mp a;exact v.rk p c.1 λz=>of_decide_eq_true c.2 (Xh z)
theorem sU:∀{l:List (Int×Hd)},(_K.setH n x l).map (·.1)=l.map (·.1)
 |[]=>rfl
 |p::r=>by
  unfold _K.setH;split;.rfl
  .rw [QU,QU,sU]
theorem jY:∀{l:List (Int×Hd)},p∈_K.setH n x l->p∈l\/(p.1=n/\p.2=x)
 |[],h=>by cases h
 |a::r,h=>by
  unfold _K.setH at h;split at h
  .rename_i c;rcases Xi h with z|z;.rw [z];exact .inr {(c),rfl}
   .simp_all
  .rcases Xi h with z|z
   .rw [z];exact .inl (QO ..)
   .exact(jY z).imp (QM _) id
theorem Iv.setH(v:Iv Hk Rk q s)(h:n∈q)(i:Hk x):Iv Hk Rk q (s.R (_K.setH n x s.hd)):=by
 have e:(_K.setH n x s.hd).map (·.1)=s.hd.map (·.1):=sU;refine{v.nd,λy c=>?_,?_,λp a=>?_,v.bg,v.tn,v.sn,v.pl,λp a=>?_,λp a hn=>?_};.show y∈(_K.setH n x s.hd).map (·.1);rw[e];exact v.sub y c
 .show((_K.setH n x s.hd).map (·.1)).Pairwise _;rw[e];exact v.hp
 .have:p.1∈(_K.setH n x s.hd).map (·.1):=List.mem_map.mpr {(p),a,rfl};rw[e]at this;let{d,b,f}:=Xl this;rw[<-f];exact v.hb d b
 .rcases jY a with z|z
  .exact v.hk p z
  .simp_all
 .rcases jY a with z|z
  .exact v.rk p z hn
  .simp_all
end
def sm(v:Int):Prop:= -1000000<=v/\v<=1000000
def Kn(x:VA)(kn:List (VA×Int)):Prop:=kn= []\/∃v,kn= [(x,v)]/\sm v
theorem Kn.put(h:Kn x kn)(a:sm v):Kn x (mj kn x v):=by
 right;refine{v,?_,a};rcases h with rfl|⟨u,rfl,_⟩
 .unfold mj;rfl
 .unfold mj;simp
section
variable{Hk Rk:Hd->Prop}{q:List Int}{s:YS}{P:Pr}{x:VA}
def KL(s:YS)(x:Int)(p:Int×Hd)(m:Int)(n:Nat)(ws:List Ta):(wl ((((s.az n).R (s.hd++[p])).lay x ws).put m x)).Perm (x::wl s):=vM _ _ _
theorem Iv.begin(v:Iv Hk Rk q s)(u:Hk {nm,0,((aJ nm P.nms).getD []).zip xs})(d:Rk {nm,0,((aJ nm P.nms).getD []).zip xs}):Iv Hk Rk q (s.begin P nm xs):=by
 unfold YS.begin;by_cases c:s.beg=60;.rw [Xf c];exact{(v.nd),v.sub,v.hp,v.hb,v.bg,v.tn,v.sn,v.pl,v.hk,v.rk}
 .rw [Xe c];have p:=KL s ((s.beg:Int)+1) ((s.beg:Int)+1,Hd.mk nm 0 (((aJ nm P.nms).getD []).zip xs)) s.now (s.beg+1) [.str "begins",.str nm];have fresh:∀y∈q++wl s,y<=s.beg:=λy e=>by let{p,i,rfl}:=Xl (v.sub y e);exact(v.hb p i).2
  have f:=(p.append_left q).trans Se;have h:=v.bg;refine{f.nodup_iff.mpr (List.nodup_cons.mpr {λz=>by have:=fresh _ z;ext,v.nd}),λy e=>?_,?_,λr d=>?_,?_,v.tn,v.sn,v.pl,λr d=>?_,λr j n=>?_}
  .show y∈(s.hd++[((s.beg:Int)+1,Hd.mk nm 0 (((aJ nm P.nms).getD []).zip xs))]).map (·.1);rw[QT,List.mem_append];rcases Xi (f.mem_iff.mp e)with z|z
   .right;rw[z];exact QX _
   .left;exact v.sub y z
  .show((s.hd++[((s.beg:Int)+1,Hd.mk nm 0 (((aJ nm P.nms).getD []).zip xs))]).map (·.1)).Pairwise (· < ·);rw[QT,RF];refine{v.hp,List.pairwise_singleton ..,λa o b h=>?_};rw[Xh h];let{r,d,rfl}:=Xl o;have:=(v.hb r d).2;show r.1<(s.beg:Int)+1;ext
  .rcases Xk (d)with z|z
   .have:=v.hb r z;show 1<=r.1/\r.1<=((s.beg+1:Nat):Int)
    ext
   .rw [Xh z];show 1<=(s.beg:Int)+1/\(s.beg:Int)+1<=((s.beg+1:Nat):Int)
    ext
  .show s.beg+1<=60;ext
  .rcases Xk (d)with z|z
   .exact v.hk r z
   .simp_all
  .rcases Xk (j)with z|z
   .exact v.rk r z n
   .simp_all
theorem Iv.O(v:Iv Hk Rk q s)(a:h∈q)(b:∀d,Hk d->Hk (d.cf (mj d.kn y m))):Iv Hk Rk q (s.O h y m):=by
 unfold YS.O;split;.exact v
 .rename_i d e;exact v.setH a (b d (v.hk (h,d) (vw e)))
theorem Iv.draw(v:Iv Hk Rk q s)(a:aJ "r" P.drw=!ns)(hn:ns.length=3):Iv Hk Rk q (s.draw P "r").2/\∃i,i<3/\(s.draw P "r").1=ns.getD i 0:=by
 let{i,e,b}:=v.pl;have e2:aJ "r" s.pl=!(i:Int):=by rw[e];rfl
 have c:s.draw P "r" =(ns.getD i 0,s.b2 (bi "r" (((i:Int)+1)%ns.length) s.pl)):=by unfold YS.draw;rw[a,e2];rfl
 rw[c];refine{{v.nd,v.sub,v.hp,v.hb,v.bg,v.tn,v.sn,{(i+1)%3,?_,Nat.mod_lt _ Xs},v.hk,v.rk},i,b,rfl};show bi "r" (((i:Int)+1)%ns.length) s.pl=_;rw[e,hn];unfold bi;simp
theorem vU:∀a:List (VA×TS),nQ a=(a.flatMap λp=>qT p.2).length
 |[]=>rfl
 |p::r=>by rw[Re,QN,<-vU r];unfold nQ qT;rw[QU,R9,QL]
def Iv.yb(v:Iv Hk Rk q s)(hk:∀d,Hk d->d.kn.length<900):YB s:=by
 have w:=v.wz;rw[QN]at w;refine{v.hn,?_,?_,Xn (zE s) Xu,v.bg,λp a=>(v.hb p a).2,?_,?_,λp a=>hk _ (v.hk p a)};.have:=congrArg List.length v.tn;rw[QL]at this;rw[this];decide
 .rw [vU];have:(s.ts.flatMap λp=>qT p.2).length<=(wl s).length:=by unfold wl;simp only[QN];ext
  ext
 .let{i,e,_}:=v.pl;rw[e];simp
 .let{i,e,_}:=v.pl;rw[e];simp
end
structure Nm(a:Int)(s:YS):Prop where
 n0:0<=s.now
 n1:s.now<=a
 ag:∀p∈s.ag,0<=p.1/\p.1<=a+1000000
theorem Nm.put(h:Nm a s)(c:0<=w)(d:w<=1000000):Nm a (s.put (s.now+w) x):=by
 refine{h.n0,h.n1,λp b=>?_};rcases Xi ((sT s.ag (s.now+w) x).mem_iff.mp b)with z|z
 .rw [z];have:=h.n0;have:=h.n1;ext
 .exact h.ag p z
structure Gw(k:Nat)(s s':YS):Prop where
 lg:s'.lg.length<=s.lg.length+k
 nm:∀a,Nm a s->Nm a s'
 sm:s'.stm=s.stm
 dn:s'.done=s.done
theorem Gw.trans(a:Gw k s s1)(b:Gw m s1 s2):Gw (k+m) s s2:={by have:=a.lg;have:=b.lg;ext,λx h=>b.nm x (a.nm x h),b.sm.trans a.sm,b.dn.trans a.dn}
theorem Gw.le(a:Gw k s s')(h:k<=m):Gw m s s':={Xn a.lg Xu,a.nm,a.sm,a.dn}
def nq:Gw 0 s s:={Xm _,λ_ h=>h,rfl,rfl}
def fX(s:YS)(h:Int)(ws:List Ta):Gw 1 s (s.lay h ws):={by show(s.lg++[_]).length<=_;rw[QN];exact Xm _,λ_ h=>{(h.n0),h.n1,h.ag},rfl,rfl}
def BH(s:YS)(x:Int):Gw 0 s (s.put s.now x):={Xm _,λa h=>by have:=h.put (w:=0) (x:=x) Xs Xs;rw[Int.add_zero]at this;exact this,rfl,rfl}
def Mn(nm:VA)(s:YS)(i:Sv):Gw 1 s (YS.wk nm s i):=(fX s i.1 _).trans (BH _ _)
def rL(nm:VA)(a:List Sv):∀s:YS,Gw a.length s (s.wake nm a):=by
 induction a with
 |nil=>intro s;exact nq
 |cons i r b=>intro s;exact((Mn nm s i).trans (b _)).le (by rw[QP];ext)
def vV(s:YS)(h:Int)(nm:VA)(n:Int)(a:List Sv):Gw (1+a.length) s (s.given h nm n a):=by
 refine Gw.trans ?_ (rL _ _ _);split;.exact fX _ _ _
 .exact nq.le Xs
def zI(s:YS)(l:List (VA×TS)):Gw 0 s (s.X l):={Xm _,λ_ h=>{(h.n0),h.n1,h.ag},rfl,rfl}
def EU(s:YS)(l:List (VA×SS)):Gw 0 s (s.ae l):={Xm _,λ_ h=>{(h.n0),h.n1,h.ag},rfl,rfl}
def EV(s:YS)(l:List (Int×Hd)):Gw 0 s (s.R l):={Xm _,λ_ h=>{(h.n0),h.n1,h.ag},rfl,rfl}
def KM(t:TS)(h n:Int):(cq t h n).1.length<=t.que.length:=by have:=congrArg List.length (vO t h n);unfold qT at this;simp only[QN,QL]at this;ext
def GV(s:YS)(h:Int)(nm:VA)(n:Int):Gw (1+(wl s).length) s (s.give h nm n):=by
 unfold YS.give;split
 .split
  .exact nq.le Xu
  .rename_i t e;apply((zI s _).trans (vV _ _ _ _ _)).le;have:=zF e;have:=KM t h n;unfold Y0;rw[QL];ext
 .exact nq.le Xu
def DR(s:YS)(nm:VA)(n:Int):Gw (1+(wl s).length) s (s.bring nm n):=by
 unfold YS.bring;split;.exact nq.le Xu
 .rename_i t e;apply(((EU s _).trans (fX _ _ _)).trans (rL _ _ _)).le;have:=uc e;have:=kE {t with level:=t.level+Yt t n};dsimp only at this;ext
def BI(s:YS)(h:Int)(w nm:VA)(n:Int):Gw 0 s (s.M h w nm n).2.2:=by
 unfold YS.M;split
 .split
  .exact nq
  .exact zI _ _
 .split
  .exact nq
  .split<;>split<;>exact EU _ _
def KN(a:gH s w nm):Gw 101 s (s.ask h w nm n).2:=by
 unfold YS.ask;dsimp only;split;.apply (((BI s h w nm n).trans (fX _ _ _)).trans (rL _ _ _)).le;have:=Bs (h:=h) (n:=n) a;ext
 .exact((BI s h w nm n).trans (fX _ _ _)).le Xu
def GW(h:Int)(l:List (VA×Int×List Sv)):∀s:YS,Gw (l.length+(l.flatMap λi=>i.2.2.map (·.1)).length) s (s.gone h l):=by
 induction l with
 |nil=>intro s;exact nq
 |cons i r a=>intro s;apply((vV s h i.1 i.2.1 i.2.2).trans (a _)).le;rw[Re,QN,QP,QL];ext
def KO(s:YS)(h:Int):Gw (1+s.ts.length+(wl s).length) s (s.ah h):=by
 apply((((EV s _).trans (fX _ _ _)).trans (zI _ _)).trans (GW _ _ _)).le;have b:(cZ h s.ts).length<=s.ts.length:=by unfold cZ;exact List.length_filterMap_le ..
 have a:=(xT h s.ts).length_eq;rw[QN]at a;have c:(s.ts.flatMap λp=>qT p.2).length<=(wl s).length:=by unfold wl;simp only[QN];ext
 ext
def GX(b:0<=n)(c:n<=1000000):Gw 1 s (s.wait h n):=Gw.trans (m:=0) (fX s h [.str "waits",.int n]) {Xm _,λa z=>z.put b c,rfl,rfl}
def xW(s:YS)(h:Int)(x:VA)(n:Int):Gw 0 s (s.O h x n):=by
 unfold YS.O;split;.exact nq
 .exact EV _ _
def GY(P:Pr)(s:YS)(r:VA):Gw 0 s (s.draw P r).2:=by
 unfold YS.draw;split;.exact{Xm _,λ_ h=>{(h.n0),h.n1,h.ag},rfl,rfl}
 .exact nq
def oZ(P:Pr)(s:YS)(nm:VA)(xs:List Int):Gw 1 s (s.begin P nm xs):=by
 unfold YS.begin;split;.exact{R0 _,λ_ h=>{(h.n0),h.n1,h.ag},rfl,rfl}
 .have a:Gw 0 s ((s.az (s.beg+1)).R (s.hd++[((s.beg:Int)+1,Hd.mk nm 0 (((aJ nm P.nms).getD []).zip xs))])):={Xm _,λ_ h=>{(h.n0),h.n1,h.ag},rfl,rfl}
  exact(a.trans (fX _ _ _)).trans (BH _ _)
def EL:Tr->Prop
 |.num n=>sm n
 |.bin _ a b=>EL a/\EL b
 |_=>True
def EK:Tr->Prop
 |.now=>False
 |e=>EL e
inductive XT (x:VA):Pl->Prop
 |take {k:Int} {nm:VA} {e:Tr}:(nm= "t"\/nm= "u")->EK e->XT x (.one "take" k nm e)
 |give {k:Int} {nm:VA} {e:Tr}:(nm= "t"\/nm= "u")->EK e->XT x (.one "give" k nm e)
 |put {k:Int} {e:Tr}:EK e->XT x (.one "put" k "s" e)
 |get {k:Int} {e:Tr}:EK e->XT x (.one "get" k "s" e)
 |say {k:Int} {nm:VA} {e:Tr}:EK e->XT x (.one "say" k nm e)
 |letS {k:Int} {e:Tr}:EK e->XT x (.one "let" k x e)
 |wait {k:Int} {e:Tr}:EK e->XT x (.wait k e)
 |draw {k:Int}:XT x (.draw k x "r")
 |start {k:Int} {e:Tr}:EK e->XT x (.start k "b" [e])
structure PF(x:VA)(P:Pr)(Hk Rk:Hd->Prop):Prop where
 bn:aJ "b" P.nms=some [x]
 dr:∃r,aJ "r" P.drw=some [1,r,2]/\sm r
 kn:∀d,Hk d->Kn x d.kn
 pu:∀d m,Hk d->sm m->Hk (d.cf (mj d.kn x m))
 be:∀v,sm v->Hk {"b",0,[(x,v)]}
 br:∀v,Rk {"b",0,[(x,v)]}
def ZV(h:Int)(s s':YS):Prop:=∀a,(h,a)∈s'.hd->∃d,(h,d)∈s.hd/\a.nm=d.nm
def kJ(e:s'.hd=s.hd):ZV h s s':=λa b=>{a,by rw[<-e];exact b,rfl}
def KP(e:x.nm=d.nm)(f:(n,d)∈s.hd):ZV h s (s.R (_K.setH n x s.hd)):=λi a=>by
 rcases jY a with z|z;.exact{(i),z,rfl}
 .let{b,c}:=z;dsimp only at b c;exact{d,by rw[b];exact f,by rw[c];exact e}
def BJ:ZV h s (s.O n y m):=by
 unfold YS.O;split;.exact kJ rfl
 .rename_i d e;exact KP (d:=d) rfl (vw e)
def KQ(v:Iv Hk Rk q s)(b:h∈q):ZV h s (s.begin P nm xs):=by
 unfold YS.begin;split;.exact kJ rfl
 .intro c a;rcases Xk (a)with z|z;.exact{(c),z,rfl}
  .have e:=(Prod.mk.inj (Xh z)).1;let{p,d,e2}:=Xl (v.sub h (Q9 _ b));have:=(v.hb p d).2;ext
structure ZT(Hk Rk:Hd->Prop)(h:Int)(s:YS)(r:Bool×YS):Prop where
 t:r.1=true->Iv Hk Rk [h] r.2/\r.2.st=none
 f:r.1=false->Iv Hk Rk [] r.2\/(r.2.st≠none/\Iv Hk Rk [h] r.2)
 g:Gw 200 s r.2
 n:ZV h s r.2
section
variable{Hk Rk:Hd->Prop}{s:YS}{P:Pr}{x:VA}{h:Int}
def ZT.yes(v:Iv Hk Rk [h] s')(st:s'.st=none)(g:Gw 200 s s')(n:ZV h s s'):ZT Hk Rk h s (true,s'):={λ_=>{(v),st},(λz=>by cases z),g,n}
theorem ZT.no(v:Iv Hk Rk [] s')(g:Gw 200 s s')(n:ZV h s s'):ZT Hk Rk h s (false,s'):={(λz=>by cases z),λ_=>.inl v,g,n}
theorem ZT.st(v:Iv Hk Rk [h] s')(g:Gw 200 s s')(n:ZV h s s'):ZT Hk Rk h s (s'.st.isNone,s'):={λz=>{v,Option.isNone_iff_eq_none.mp z},λz=>.inr {(λe=>by rw[e]at z;cases z),v},g,n}
def KR{α:Type}{l:List (VA×α)}(h:l.map (·.1)= [a,b]):∃p r,l= [p,r]/\p.1=a/\r.1=b:=by
 cases l with
 |nil=>cases h
 |cons p l=>simp_all
def xX(v:Iv Hk Rk [h] s){nm:VA}(hn:nm= "t"\/nm= "u"):∃t,aJ nm s.ts=!t:=by
 let{p,r,e,a,b}:=KR v.tn;rw[e];unfold aJ;by_cases c:p.1=nm;.simp_all
 .rw [Xe c];unfold aJ;rcases hn with rfl|rfl
  .simp_all
  .simp_all
def xY(v:Iv Hk Rk [h] s):∃t,aJ "s" s.ss=!t:=by
 have z:=v.sn;cases e:s.ss with
 |nil=>simp_all
 |cons p l=>rw[e]at z;unfold aJ;rw[Xf (List.cons.inj z).1];exact{_,rfl}
def vW(v:Iv Hk Rk [h] s)(b:∀d,(h,d)∈s.hd->Rk d)(a:gH s w nm)(st:s.st=none):ZT Hk Rk h s (s.deed P h w [nm] [m]):=by
 rw[vF a.w];split;.exact .yes v st (nq.le Xs) (kJ rfl)
 .have p:=v.ask (n:=m) b a;refine{λz=>{by rw[Xf z]at p;exact p,(vS s h w nm m).st.trans st},λz=>.inl (by rw[Xe (by rw[z];decide)]at p;exact p),(KN a).le Xs,kJ (vS s h w nm m).hd}
def GZ(pf:PF x P Hk Rk)(v:Iv Hk Rk [h] s)(c:∀d,(h,d)∈s.hd->Rk d)(st:s.st=none)(u:XT x p)(e:∀y∈vs,sm y)(hl:vs.length=p.es.length):dY P s p.w p.ns vs/\ZT Hk Rk h s (s.deed P h p.w p.ns vs):=by
 have wz:=v.wz;rw[List.singleton_append,QP]at wz;cases u with
 |take hn _=>
  let{m,rfl}:=List.length_eq_one_iff.mp hl;let{t,b}:=xX v hn;have a:gH s "take" _:={.inl rfl,λ_=>{t,b,Xn (zF b) Xu},λz=>absurd rfl z}
  exact{.ask a,vW v c a st}
 |give hn _=>let{m,rfl}:=List.length_eq_one_iff.mp hl;let{t,b}:=xX v hn;refine{.give b (Xn (zF b) Xu),?_};exact .st v.give ((GV s h _ m).le Xu) (kJ (xV s h _ m).hd)
 |put _=>
  let{m,rfl}:=List.length_eq_one_iff.mp hl;let{t,b}:=xY v;have a:gH s "put" "s":={.inr (.inl rfl),λz=>absurd z Xs,λ_=>{t,b,Xn (uc b) Xu}}
  exact{.ask a,vW v c a st}
 |get _=>
  let{m,rfl}:=List.length_eq_one_iff.mp hl;let{t,b}:=xY v;have a:gH s "get" "s":={.inr (.inr rfl),λz=>absurd z Xs,λ_=>{t,b,Xn (uc b) Xu}}
  exact{.ask a,vW v c a st}
 |say _=>let{m,rfl}:=List.length_eq_one_iff.mp hl;refine{.say,?_};exact .st v.lay ((fX s h _).le Xs) (kJ rfl)
 |letS _=>let{m,rfl}:=List.length_eq_one_iff.mp hl;refine{.letS,?_};exact .st (v.O (QX _) λd f=>pf.pu d m f (e m (QX _))) ((xW s h x m).le Xs) BJ
 |wait _=>let{m,rfl}:=List.length_eq_one_iff.mp hl;refine{.wait,?_};dsimp only[Pl.w,Pl.ns];have A:=e m (QX _);rw[sQ];unfold sm at A;exact .no (v.wait c) ((GX (by split<;>ext) (by split<;>ext)).le Xs) (kJ rfl)
 |draw=>
  have ev:=List.length_eq_zero_iff.mp hl;subst ev;let{r,o,B}:=pf.dr;let{C,i,K,E}:=v.draw o rfl;let{j,F,G}:=v.pl;refine{.draw o (by rw[F];rfl) G (of_decide_eq_true rfl),?_};have H:sm (s.draw P "r").1:=by
   rw[E];have:i=0\/i=1\/i=2:=(by ext);rcases this with rfl|rfl|rfl
   .exact{of_decide_eq_true rfl,of_decide_eq_true rfl}
   .exact B
   .exact{of_decide_eq_true rfl,of_decide_eq_true rfl}
  exact .st (C.O (QX _) λd f=>pf.pu d _ f H) (((GY P s "r").trans (xW _ _ _ _)).le Xs) (λI n=>by let{d,q,J}:=BJ I n;rw[xK]at q;exact{(d),q,J})
 |start _=>
  let{m,rfl}:=List.length_eq_one_iff.mp hl;refine{.start pf.bn eq (of_decide_eq_true rfl),?_};dsimp only[Pl.w,Pl.ns];rw[zp];refine .st (v.begin ?_ ?_) ((oZ P s "b" [m]).le Xs) (KQ v (QX _));.rw [pf.bn];exact pf.be m (e m (QX _))
  .rw [pf.bn];exact pf.br m
end
def GR(P:Pr)(h:Int)(C:List Cs)(F:YS->Prop)(f:Nat)(s:YS)(a:Option Nat)(st:List Int):Prop:=zv P h C f s a st/\F (s.goOn P h C f a st)
section
variable{P:Pr}{h:Int}{C:List Cs}{F:YS->Prop}{f:Nat}{s:YS}{st:List Int}{x:VA}{d:Hd}
theorem GR.none(a:F s):GR P h C F f s none st:=by refine{?_,by rw[xP];exact a};cases f<;>trivial
theorem GR.step(e:C[a]? =!c)(o:DJ P h s d c st)(g:GR P h C F f (s.aq P h d a st c).2.1 (s.aq P h d a st c).1 (s.aq P h d a st c).2.2):GR P h C F (f+1) s (!a) st:=
 {{(c),d,e,o,g.1},by rw[xO e (cJ o.yb.hn.nd o.hd)];exact g.2}
structure Ev(h:Int)(s:YS)(d:Hd):Prop where
 hd:(h,d)∈s.hd
 yb:YB s
 kn:∀p∈d.kn,sm p.2
 nw:0<=s.now/\s.now<=1000000000000
 hh:1<=h/\h<=60
 lg:s.lg.length+500<16000000
theorem mX(h:sm v):Wo.Bd v:=by unfold sm at h;unfold Wo.Bd;ext
theorem Ev.ok(v:Ev h s d)(o:ZY P s c st)(a:∀y∈st,Wo.Bd y)(b:st.length<=1000):DJ P h s d c st:={v.hd,v.yb,o,λp e=>mX (v.kn p e),a,b,v.lg}
def cW(e:C.drop i=c::R):C[i]? =!c/\C.drop (i+1)=R:=by
 have a:(C.drop i)[0]? =!c:=by rw[e];rfl
 rw[Rw]at a;refine{a,?_};rw[<-So,e];rfl
def cT(e:C.drop i=A++R):C.drop (i+A.length)=R:=by rw[<-So,e,SA]
def G0(hk:∀p∈kn,sm p.2)(e:Wo.look (X4 kn) y=.val n):sm n:=by
 unfold Wo.look at e;split at e;.rename_i m q;cases e;let{c,a,e2}:=uw q;let{p,b,rfl}:=Xl a;cases e2;exact hk p b
 .cases e
def KS(e:Wo._t m=.val n):sm n:=by
 unfold Wo._t at e;by_cases c:1000000<(if m<0 then -m else m);.simp_all
 .rw [Xe c]at e;cases e;unfold sm;split at c<;>ext
theorem G5(e:(fm kn s.now h c st).1=.val n):s.an h kn c st=(true,s,n::(fm kn s.now h c st).2):=by unfold YS.an;rw[e]
def BK{c:Cs}{kn:List (VA×Int)}(e:∀n,(fm kn s.now h c st).1≠.val n):∃ds,s.an h kn c st=(false,s.af (!ds),(fm kn s.now h c st).2):=by
 unfold YS.an;split;.rename_i n a;exact absurd a (e n)
 .exact{_,rfl}
def qA(v:Ev h s d)(o:fU c st)(e:C[i]? =!c)(j:∀y∈st,Wo.Bd y)(p:st.length<=1000)(b:∀ds,F (s.af (!ds)))(k:∀n,(fm d.kn s.now h c st).1=.val n->GR P h C F f s (!(i+1)) (n::(fm d.kn s.now h c st).2)):GR P h C F (f+1) s (!i) st:=by
 refine .step e (v.ok (.wos o) j p) ?_;rw[xN o];cases a:(fm d.kn s.now h c st).1 with
 |val n=>rw[G5 a];exact k n a
 |unk y=>let{ds,e2}:=BK (λn z=>by rw[a]at z;cases z);rw[e2];exact .none (b ds)
 |big=>let{ds,e2}:=BK (λn z=>by rw[a]at z;cases z);rw[e2];exact .none (b ds)
def gz(h:Wo.Bd v)(a:∀y∈st,Wo.Bd y):∀y∈v::st,Wo.Bd y:=λy b=>by
 rcases Xi b with z|z;.simp_all
 .exact a y z
def sV(e:Tr):1<=(az e).length:=by
 cases e with
 |bin o a b=>show 1<=(az a++az b++[Cs.op o]).length;rw[QN];exact Nat.le_add_left ..
 |_=>exact Xm 1
def zJ(v:Ev h s d)(A:∀ds,F (s.af (!ds))):∀(e:Tr),EL e->∀{i f:Nat} {R:List Cs} {st:List Int},C.drop i=az e++R->(∀y∈st,Wo.Bd y)->st.length+(az e).length<=1000->(∀n,(EK e->sm n)->Wo.Bd n->GR P h C F f s (!(i+(az e).length)) (n::st))->GR P h C F (f+(az e).length) s (!i) st:=by
 intro e;induction e with
 |name y=>intro p i f R st j c B k;refine qA v .nam (cW j).1 c (by have:(az (.name y)).length=1:=rfl;ext) A λn q=>?_;have:=G0 v.kn q;exact k n (λ_=>this) (mX this)
 |num m=>intro p i f R st j c B k;refine qA v .num (cW j).1 c (by have:(az (.num m)).length=1:=rfl;ext) A λn q=>?_;cases q;exact k m (λ_=>p) (mX p)
 |now=>intro p i f R st j c B k;refine qA v .now (cW j).1 c (by have:(az .now).length=1:=rfl;ext) A λn q=>?_;cases q;exact k _ (λz=>z.elim) (by have:=v.nw;unfold Wo.Bd;ext)
 |own=>
  intro p i f R st j c B k;refine qA v .own (cW j).1 c (by have:(az .own).length=1:=rfl;ext) A λn q=>?_;cases q;have hs:sm h:=by have:=v.hh;unfold sm;ext
  exact k _ (λ_=>hs) (mX hs)
 |bin o a b E G=>
  intro p i f R st j c B k;have K:(az (.bin o a b)).length=(az a).length+(az b).length+1:=by show(az a++az b++[Cs.op o]).length=_;rw[QN,QN];rfl
  have u:C.drop i=az a++(az b++(Cs.op o::R)):=by rw[j];show(az a++az b++[Cs.op o])++R=_;simp only[QQ];rfl
  rw[K]at B k⊢;rw[show f+((az a).length+(az b).length+1)=(f+1+(az b).length)+(az a).length by ext];refine E p.1 u c Xu λm _ I=>?_;refine G p.2 (cT u) (gz I c) (by rw[QP];ext) λn _ M=>?_;have H:=cW (cT (cT u));have O:=sV a;refine qA v .op H.1 (gz M (gz I c)) (by rw[QP,QP];ext) A λr N=>?_;have J:=KS N;have:=k r (λ_=>J) (mX J);rw[show i+((az a).length+(az b).length+1)=i+(az a).length+(az b).length+1 by ext]at this;exact this
end
inductive Su (x:VA) (Rr:Int->Prop) (L:Prop) (n:Nat) (W:List Cs):List Cs->Prop
 |pl {p:Pl} {R:List Cs}:XT x p->(p.es.flatMap az).length<=10->Rr p.k->Su x Rr L n W R->Su x Rr L n W (su p++R)
 |stop:Su x Rr L n W [.deed "stop" []]
 |jmp {R:List Cs}:L->Su x Rr L n W (.jmp n::R)
 |wh:L->Su x Rr L n W W
structure Wh(x:VA)(Rr:Int->Prop)(L:Prop)(n:Nat)(W C:List Cs):Prop where
 ex:∃(k:Int) (sg:VA) (a b:Tr) (e:Nat) (I:List Cs),W=.beg k::(az a++(az b++(.unl sg e::I)))/\C.drop n=W/\EL a/\EL b/\(az a).length+(az b).length<=10/\Su x Rr L n W I/\Su x Rr L n W (C.drop e)
structure Bt(Hk Rk:Hd->Prop)(a:Int)(D g:Nat)(s:YS):Prop where
 iv:∃q,Iv Hk Rk q s/\(q= []\/s.st≠none)
 nm:Nm a s
 lg:s.lg.length<=g
 dn:s.done=D
section
variable{P:Pr}{s:YS}{h:Int}{C:List Cs}{x nm:VA}{Hk Rk:Hd->Prop}{Rr:Int->Prop}{L:Prop}{n:Nat}{W:List Cs}{a:Int}{D g:Nat}
theorem sW{n:Int}{x:Hd}:∀{l:List (Int×Hd)},(∃d,(n,d)∈l)->(n,x)∈_K.setH n x l
 |[],h=>by let{d,h}:=h;cases h
 |p::r,h=>by
  unfold _K.setH;split;.simp_all
  .rename_i c;let{d,h}:=h;rcases Xi h with z|z
   .rw [<-z]at c;exact absurd rfl c
   .exact QM _ (sW {(d),z})
structure Tn(x nm:VA)(P:Pr)(Hk Rk:Hd->Prop)(Rr:Int->Prop)(h a:Int):Prop where
 pf:PF x P Hk Rk
 ro:∀(d:Hd) (k:Int),Hk d->Hk (d.Y k)
 rr:∀(d:Hd) (k:Int),Rr k->d.nm=nm->Rk (d.Y k)
 ab:0<=a/\a<=1000000000
structure Go(nm:VA)(Hk Rk:Hd->Prop)(h a:Int)(D g:Nat)(s:YS):Prop where
 iv:Iv Hk Rk [h] s
 st:s.st=none
 mo:Nm a s
 lg:s.lg.length<=g
 kd:∀(d:Hd),(h,d)∈s.hd->d.nm=nm
 dn:s.done=D
theorem Go.ev(t:Tn x nm P Hk Rk Rr h a)(v:Go nm Hk Rk h a D g s)(e:g+500<16000000)(b:(h,d)∈s.hd):Ev h s d:=by
 have c:∀d,Hk d->d.kn.length<900:=λd b=>by
  rcases t.pf.kn d b with z|⟨u,z,_⟩<;>rw[z];.decide
  .simp_all
 refine{b,v.iv.yb c,λp f=>?_,?_,?_,by have:=v.lg;ext}
 .rcases t.pf.kn d (v.iv.hk _ b)with z|⟨u,z,i⟩
  .grind
  .simp_all
 .have:=v.mo.n0;have:=v.mo.n1;have:=t.ab;ext
 .have j:=v.iv.hb _ b;have:=v.iv.bg;ext
theorem Go.stop(v:Go nm Hk Rk h a D g s)(ds:List Ta):Bt Hk Rk a D g (s.af (!ds)):={{[h],{(v.iv.nd),v.iv.sub,v.iv.hp,v.iv.hb,v.iv.bg,v.iv.tn,v.iv.sn,v.iv.pl,v.iv.hk,v.iv.rk},.inr (by show some ds≠none;exact λz=>by cases z)},{(v.mo.n0),v.mo.n1,v.mo.ag},v.lg,v.dn}
theorem Go.hand(v:Go nm Hk Rk h a D g s):∃d,(h,d)∈s.hd:=by let{p,b,e}:=Xl (v.iv.sub h (Q9 _ (QX _)));exact{p.2,by rw[<-e];exact b}
theorem Go.enter(t:Tn x nm P Hk Rk Rr h a)(v:Go nm Hk Rk h a D g s)(b:(h,d)∈s.hd)(k:Int):Go nm Hk Rk h a D g ((s.Q (s.stm+1)).R (_K.setH h (d.Y k) s.hd))/\(h,d.Y k)∈_K.setH h (d.Y k) s.hd:=by
 have i:Iv Hk Rk [h] (s.Q (s.stm+1)):={(v.iv.nd),v.iv.sub,v.iv.hp,v.iv.hb,v.iv.bg,v.iv.tn,v.iv.sn,v.iv.pl,v.iv.hk,v.iv.rk}
 refine{{i.setH (QX _) (t.ro d k (v.iv.hk _ b)),v.st,{(v.mo.n0),v.mo.n1,v.mo.ag},v.lg,λf c=>?_,v.dn},sW {(d),b}};rcases jY c with z|z
 .exact v.kd f z
 .have e:f=d.Y k:=z.2;rw[e];exact v.kd d b
def BL(t:Tn x nm P Hk Rk Rr h a)(v:Go nm Hk Rk h a D g s)(r:g<=G)(u:G+500<16000000)(e:C[i]? =!(.beg k))(c:∀(d:Hd),s.stm≠100->(h,d.Y k)∈_K.setH h (d.Y k) s.hd->Go nm Hk Rk h a D g ((s.Q (s.stm+1)).R (_K.setH h (d.Y k) s.hd))->d.nm=nm->GR P h C (Bt Hk Rk a D G) f ((s.Q (s.stm+1)).R (_K.setH h (d.Y k) s.hd)) (!(i+1)) []):GR P h C (Bt Hk Rk a D G) (f+1) s (!i) []:=by
 let{d,j}:=v.hand;refine .step e ((v.ev t Xu j).ok .beg (λy o=>by cases o) (Ra _)) ?_;by_cases z:s.stm=100;.show GR P h C _ f (if s.stm=100 then _ else _) (Z2 ((not (decide (s.stm=100)))) i) [];rw[Xf z,decide_eq_true z];have b:=v.stop [.str "endless",.int h];exact .none {b.iv,b.nm,by have:=b.lg;ext,b.dn}
 .show GR P h C _ f (if s.stm=100 then _ else _) (Z2 ((not (decide (s.stm=100)))) i) [];rw[Xe z,decide_eq_false z];let{p,q}:=v.enter t j k;exact c d z q p (v.kd d j)
def Mo{d:Hd}(v:Ev h s d)(q:∀ds,F (s.af (!ds))):∀(es:List Tr),(∀e∈es,EL e/\EK e)->∀{i f:Nat} {R:List Cs} {st:List Int},C.drop i=es.flatMap az++R->(∀y∈st,Wo.Bd y)->st.length+(es.flatMap az).length<=1000->(∀(vs:List Int),vs.length=es.length->(∀y∈vs,sm y)->GR P h C F f s (!(i+(es.flatMap az).length)) (vs.reverse++st))->GR P h C F (f+(es.flatMap az).length) s (!i) st:=by
 intro es;induction es with
 |nil=>intro _ i f R st _ _ _ k;exact k [] rfl (λy c=>by cases c)
 |cons e r u=>
  intro j i f R st b o p k;rw[Re]at b p k⊢;rw[QN]at p k⊢;rw[QQ]at b;let{A,J}:=j e (QO ..);have K:=sV e;rw[show f+((az e).length+(r.flatMap az).length)=(f+(r.flatMap az).length)+(az e).length by ext];refine zJ v q e A b o Xu λm B E=>?_;refine u (λG z=>j G (QM _ z)) (cT b) (gz E o) (by rw[QP];ext) λvs H I=>?_;have:=k (m::vs) (by rw[QP,QP,H]) (λy c=>by
   rcases Xi c with z|z;.simp_all
   .exact I y z)
  rw[R8,QQ,<-SB]at this;exact this
def KU(h:XT x p):∀e∈p.es,EL e/\EK e:=by
 have k:∀e:Tr,EK e->EL e/\EK e:=λe b=>{by cases e<;>first|exact b|exact b.elim,b}
 intro e b;cases h with
 |draw=>cases b
 |_=>rename_i z;rw[Xh b];exact k _ (by assumption)
def G6(t:Tn x nm P Hk Rk Rr h a)(v:Go nm Hk Rk h a D g s)(O:g+200<=G)(Q:G+500<16000000)(B:(h,d)∈s.hd)(E:XT x p)(H:Rk d){vs:List Int}(I:vs.length=p.es.length)(F:∀y∈vs,sm y)(e:C[i]? =!(.deed p.w p.ns))(c:∀s',Go nm Hk Rk h a D (g+200) s'->s'.stm=s.stm->GR P h C (Bt Hk Rk a D G) f s' (!(i+1)) []):GR P h C (Bt Hk Rk a D G) (f+1) s (!i) vs.reverse:=by
 have un:∀j,(h,j)∈s.hd->j=d:=λj b=>by have A:=cJ v.iv.hn.nd B;rw[cJ v.iv.hn.nd b]at A;exact Xr A
 let{o,r}:=GZ t.pf v.iv (λj b=>by rw[un j b];exact H) v.st E F I;have ev:=v.ev t Xu B;have R:p.es.length<=1000:=by cases E<;>exact of_decide_eq_true rfl
 refine .step e (ev.ok (.deed (by rw[List.reverse_reverse];exact o)) (λy J=>mX (F y (List.mem_reverse.mp J))) (by rw[RK];ext)) ?_;show GR P h C _ f (s.deed P h p.w p.ns vs.reverse.reverse).2 (Z2 (s.deed P h p.w p.ns vs.reverse.reverse).1 i) [];rw[List.reverse_reverse];have S:=r.g.lg;have K:=v.lg;cases z:(s.deed P h p.w p.ns vs).1 with
 |true=>let{u,q}:=r.t z;exact c _ ⟨u,q,r.g.nm a v.mo,by ext,λj b=>by let{M,A,N}:=r.n j b;rw[N];exact v.kd M A,r.g.dn.trans v.dn⟩ r.g.sm
 |false=>
  refine .none {?_,r.g.nm a v.mo,by ext,r.g.dn.trans v.dn};rcases r.f z with u|⟨q,u⟩
  .exact{[],u,.inl rfl}
  .exact{[h],u,.inr q}
def xZ(t:Tn x nm P Hk Rk Rr h a)(X:L->Wh x Rr L n W C)(H:G+500<16000000)(v:Go nm Hk Rk h a D g s)(hg:g+200<=G)(E:Su x Rr L n W (C.drop i))(hf:14<=f)(J:s.stm≠100->∀(s':YS) (Y A o:Nat),s'.stm=s.stm+1->Go nm Hk Rk h a D Y s'->Y<=g+200->Su x Rr L n W (C.drop A)->f<=o+14->GR P h C (Bt Hk Rk a D G) o s' (!A) []):GR P h C (Bt Hk Rk a D G) f s (!i) []:=by
 generalize F:C.drop i=R at E;have fin:∀{s':YS},Go nm Hk Rk h a D g s'->∀K,Bt Hk Rk a D G (s'.af (!K)):=λv' K=>by have b:=v'.stop K;exact{b.iv,b.nm,by have:=b.lg;ext,b.dn}
 have r:L->∀{A o:Nat},C.drop A=W->13<=o->f<=o+1->GR P h C (Bt Hk Rk a D G) o s (!A) []:=λl {A o} Z a0 a1=>by
  let{k,sg,M,N,e,I,eW,_,la,lb,lz,s1,s2}:=(X l).ex;obtain⟨c,rfl⟩:∃c,o=c+1+(az N).length+(az M).length+1:={o-2-(az N).length-(az M).length,by ext}
  rw[eW]at Z;let{O,B}:=cW Z;refine BL t v Xu H O λd z u q _=>?_;have ev:=q.ev t Xu u;refine zJ ev (fin q) M la B (λy j=>by cases j) (by rw[Rl];ext) λm _ bm=>?_;refine zJ ev (fin q) N lb (cT B) (gz bm (λy j=>by cases j)) (by rw[QP,Rl];ext) λm2 _ Q=>?_;let{S,T}:=cW (cT (cT B));refine .step S (ev.ok .unl (gz Q (gz bm (λy j=>by cases j))) (of_decide_eq_true rfl)) ?_;show GR P h C _ _ _ (!(if jU sg ([m2,m].getD 1 0) ([m2,m].getD 0 0)=true then _ else e)) [];split;.exact J z _ g _ _ rfl q Xu (by rw[T];exact s1) Xu
  .exact J z _ g _ _ rfl q Xu s2 Xu
 cases E with
 | @pl p R pk lz rp E=>
  obtain⟨c,rfl⟩:∃c,f=c+1+(p.es.flatMap az).length+1:={f-2-(p.es.flatMap az).length,by ext}
  have e1:C.drop i=.beg p.k::(p.es.flatMap az++(.deed p.w p.ns::R)):=by rw[F];unfold su fV;simp only[QQ,Rn];rfl
  let{O,B}:=cW e1;refine BL t v Xu H O λd z u q U=>?_;refine Mo (q.ev t Xu u) (fin q) p.es (KU pk) B (λy j=>by cases j) (by rw[Rl];ext) λvs lv hv=>?_;rw[Rf];let{S,T}:=cW (cT B);refine G6 t q hg H u pk (t.rr d p.k rp U) lv hv S λs' v2 es=>?_;exact J z s' _ _ _ es v2 (Xm _) (by rw[T];exact E) Xu
 |stop=>
  obtain⟨c,rfl⟩:∃c,f=c+1:={f-1,by ext}
  let{d,u}:=v.hand;refine .step (cW F).1 ((v.ev t Xu u).ok (.deed .stop) (λy j=>by cases j) (Ra _)) ?_;have w:=KO s h;have wz:=v.iv.wz;rw[List.singleton_append,QP]at wz;have tl:s.ts.length=2:=by have:=congrArg List.length v.iv.tn;rw[QL]at this;exact this
  have:=w.lg;have:=v.lg;exact .none {{[],v.iv.ah,.inl rfl},w.nm a v.mo,by show(s.ah h).lg.length<=G;ext,w.dn.trans v.dn}
 |jmp l=>
  obtain⟨c,rfl⟩:∃c,f=c+1:={f-1,by ext}
  let{d,u}:=v.hand;refine .step (cW F).1 ((v.ev t Xu u).ok .jmp (λy j=>by cases j) (Ra _)) ?_;let{_,_,_,_,_,_,_,U,_}:=(X l).ex;exact r l U Xu (Xm _)
 |wh l=>exact r l F Xu Xu
def Mp(t:Tn x nm P Hk Rk Rr h a)(d:L->Wh x Rr L n W C)(j:G+500<16000000):∀(k:Nat) {s:YS} {g i f:Nat},s.stm+k=100->Go nm Hk Rk h a D g s->g+200*(k+1)<=G->Su x Rr L n W (C.drop i)->14*(k+1)<=f->GR P h C (Bt Hk Rk a D G) f s (!i) []:=by
 intro k;induction k with
 |zero=>intro s g i f e v o b p;exact xZ t d j v Xu b Xu λz=>absurd Xu z
 |succ k q=>intro s g i f e v o b p;exact xZ t d j v Xu b Xu λz B E F H r u y c A=>q (by rw[r];ext) u Xu c Xu
end
def YO(b:Cd)(k:Int):Prop:=∃a,b.2.lookup k=!a
def _P(x:VA)(a:Int->Prop)(p:Pl):Prop:=XT x p/\(p.es.flatMap az).length<=10/\a p.k
structure GC(x:VA)(cd:Cd):Prop where
 ex:∃(L:Prop) (n:Nat) (W:List Cs),(L->Wh x (YO cd) L n W cd.1)/\∀q∈cd.2,Su x (YO cd) L n W (cd.1.drop q.2)
section
variable{x:VA}{Rr:Int->Prop}{L:Prop}{n:Nat}{W C:List Cs}
theorem yc:∀{l:List (Int×Nat)},l.lookup k=!v->(k,v)∈l
 |[],h=>by cases h
 |p::r,h=>by
  rw[Ru]at h;by_cases c:k=p.1;.rw [show(k==p.1)=true by simpa using c]at h;cases h;rw[c];exact QO ..
  .rw [show(k==p.1)=false by simpa using c]at h;exact QM _ (yc h)
theorem rM:∀{l:List (Int×Nat)},(k,v)∈l->∃b,l.lookup k=!b
 |[],h=>by cases h
 |p::r,h=>by
  rw[Ru];by_cases c:k=p.1;.simp_all
  .rw [show(k==p.1)=false by simpa using c];rcases Xi h with z|z;.rw [<-z]at c;exact absurd rfl c
   .exact rM z
theorem qB:∀(l:List Pl) {o:Nat} {R:List Cs},(∀p∈l,_P x Rr p)->Su x Rr L n W R->Su x Rr L n W ((NJ o l).1++R)
 |[],_,_,_,a=>a
 |p::r,o,R,h,a=>by let{b,c,d}:=h p (QO ..);show Su x Rr L n W ((su p++(NJ (o+(su p).length) r).1)++R);rw[QQ];exact .pl b c d (qB r (λq e=>h q (QM _ e)) a)
theorem ud:∀(l:List Pl) {o:Nat} {R:List Cs},C.drop o=(NJ o l).1++R->(∀p∈l,_P x Rr p)->Su x Rr L n W R->∀q∈(NJ o l).2,Su x Rr L n W (C.drop q.2)
 |[],_,_,_,_,_,q,a=>by cases a
 |p::r,o,R,e,h,b,q,a=>by
  have d:C.drop o=su p++((NJ (o+(su p).length) r).1++R):=by rw[e];show(su p++(NJ (o+(su p).length) r).1)++R=_;rw[QQ]
  have c:=λq a=>h q (QM _ a);have e2:=cT d;rcases Xi (a)with z|z
  .rw [z];rw[e2];exact qB r c b
  .exact ud r e2 c b q z
theorem qC:∀(l:List Pl) {o:Nat} {p:Pl},p∈l->∃a,(p.k,a)∈(NJ o l).2
 |[],_,_,h=>by cases h
 |q::r,o,p,h=>by
  rcases Xi h with z|z;.rw [z];exact{_,QO ..}
  .let{a,b}:=qC r (o:=o+(su q).length) z;exact{a,QM _ b}
def Nl{l:List Pl}(h:∀p∈l,XT x p/\(p.es.flatMap az).length<=10):GC x (IH (l.map .pl)):=by
 have e:IH (l.map .pl)=((NJ 0 l).1++[.deed "stop" []],(0,0)::(NJ 0 l).2):=by unfold IH;rw[qw]
 rw[e];have c:∀p∈l,_P x (YO ((NJ 0 l).1++[.deed "stop" []],(0,0)::(NJ 0 l).2)) p:=λp b=>by let{a,d}:=qC l b;exact{(h p b).1,(h p b).2,rM (QM _ d)}
 refine{False,0,[],λz=>z.elim,λq f=>?_};rcases Xi f with z|z
 .rw [z];exact qB l c .stop
 .exact ud l rfl c .stop q z
def Nn{l:List Pl}(M:XT x p0/\(p0.es.flatMap az).length<=10)(Y:EL a)(Z:EL b)(E:(az a).length+(az b).length<=10)(O:∀p∈I,XT x p/\(p.es.flatMap az).length<=10)(h:∀p∈l,XT x p/\(p.es.flatMap az).length<=10):GC x (IH (.pl p0::.wh k sg a b I::l.map .pl)):=by
 generalize F:(su p0).length=N;generalize P:fV (.wh k sg a b I)=j;generalize u:NJ (N+j.length+1) I=i;generalize G:j++(.unl sg (N+j.length+1+i.1.length+1)::(i.1++[.jmp N]))=w;generalize v:NJ (N+w.length) l=r;have es:XY N (.wh k sg a b I)=(w,i.2):=by rw[<-G,<-u,<-P];show(_++_::_++_,_)=_;simp only[QQ,Rn]
 have e:IH (.pl p0::.wh k sg a b I::l.map .pl)=(su p0++(w++(r.1++[.deed "stop" []])),(0,0)::(p0.k,N)::(i.2++r.2)):=by
  unfold IH;rw[ql,ql];have e0:XY 0 (.pl p0)=(su p0,[(p0.k,N)]):=by show(su p0,[(p0.k,0+(su p0).length)])=_;rw[SK,F]
  rw[e0];dsimp only;rw[SK,F,es];dsimp only;rw[qw,v];simp only[QQ,Rn,RB]
 rw[e];generalize H:su p0++(w++(r.1++[Cs.deed "stop" []]))=C;generalize B:((0,0)::(p0.k,N)::(i.2++r.2):List (Int×Nat))=Q;have d:∀{p:Pl},(∃c,(p.k,c)∈Q)->YO (C,Q) p.k:=λ⟨c,hc⟩=>rM hc;have gI:∀p∈I,_P x (YO (C,Q)) p:=λp f=>by let{c,hc}:=qC I f;rw[u]at hc;exact{(O p f).1,(O p f).2,d {c,by rw[<-B];exact QM _ (QM _ (Q9 _ hc))}}
 have S:∀p∈l,_P x (YO (C,Q)) p:=λp f=>by let{c,hc}:=qC l f;rw[v]at hc;exact{(h p f).1,(h p f).2,d {c,by rw[<-B];exact QM _ (QM _ (QS _ hc))}}
 have g0:=d {N,by rw[<-B];exact QM _ (QO ..)};have y:C.drop N=w++(r.1++[.deed "stop" []]):=by rw[<-H,<-F,SA]
 have T:=cT y;have J:Su x (YO (C,Q)) True N (w++(r.1++[.deed "stop" []])) (r.1++[.deed "stop" []]):=by rw[<-v];exact qB l S .stop
 have A:Su x (YO (C,Q)) True N (w++(r.1++[.deed "stop" []])) (.jmp N::(r.1++[.deed "stop" []])):=.jmp trivial;have K:Su x (YO (C,Q)) True N (w++(r.1++[.deed "stop" []])) (i.1++(.jmp N::(r.1++[.deed "stop" []]))):=by rw[<-u];exact qB I gI A
 have U:w++(r.1++[.deed "stop" []])=j++(.unl sg (N+j.length+1+i.1.length+1)::(i.1++(.jmp N::(r.1++[.deed "stop" []])))):=by rw[<-G];simp only[QQ,Rn,RB]
 have lw:w.length=j.length+1+i.1.length+1:=by rw[<-G];simp only[QN,QP,Rl];ext
 have X:j=.beg k::(az a++az b):=by rw[<-P];show _::([a,b].flatMap az)=_;rw[Re,Re,R1,Rf];rfl
 refine{True,N,w++(r.1++[.deed "stop" []]),λ_=>{k,sg,a,b,N+w.length,i.1++(.jmp N::(r.1++[.deed "stop" []])),?_,y,Y,Z,E,K,by show Su _ _ _ _ _ (C.drop _);rw[T];exact J},λq o=>?_};.rw [U,X,lw,X];simp only[QQ,Rn,QP,SB]
 .rw [<-B]at o;rcases Xi o with z|o;.rw [z,List.drop_zero,<-H];exact .pl M.1 M.2 (by rw[H];exact g0) (.wh trivial)
  rcases Xi o with z|o;.rw [z];rw[y];exact .wh trivial
  rcases Xk o with z|z;.rw [<-u]at z;refine ud I (R:=.jmp N::(r.1++[.deed "stop" []])) ?_ gI A q z;rw[u];rw[U]at y;have:=(cW (cT y)).2;exact this
  .rw [<-v]at z;exact ud l (by rw[v];exact T) S .stop q z
end
def XX(x:VA)(d:Hd):Prop:=Kn x d.kn/\(d.nm= "a"\/d.nm= "b")
def X0(P:Pr)(d:Hd):Prop:=∃a,aJ d.nm P.cds=!a/\YO a d.row
structure GP(x:VA)(P:Pr):Prop where
 c:∀nm:VA,nm= "a"\/nm= "b"->∃cd,aJ nm P.cds=!cd/\GC x cd/\cd.1.length<1000/\cd.2.length<1000/\YO cd 0
 na:aJ "a" P.nms=some []
 nb:aJ "b" P.nms=some [x]
 dr:∃r,aJ "r" P.drw=some [1,r,2]/\sm r
 ou:∀o∈P.out,0<=o.m/\o.m<=10/\((∃m,o=.start m "a" [])\/(∃m,o=.start m "b" [2])\/∃m,o=.bring m "s" 3)
section
variable{P:Pr}{s:YS}{x:VA}{a:Int}{D g:Nat}
theorem GP.pf(p:GP x P):PF x P (XX x) (X0 P):=⟨p.nb,p.dr,λd h=>h.1,λd m h b=>{h.1.put b,h.2},λv c=>{.inr {(v),rfl,c},.inr rfl},λv=>by let{e,f,_,_,_,i}:=p.c "b" (.inr rfl);exact{(e),f,i}⟩
def Bt.up(b:Bt (XX x) (X0 P) a D g s)(h:s.st=none):Iv (XX x) (X0 P) [] s:=by
 let{q,v,z}:=b.iv;rcases z with rfl|z
 .exact v
 .simp_all
theorem Iv.C(v:Iv Hk Rk q s)(m:Int):Iv Hk Rk q (s.C m).up:=by
 unfold YS.C;split;.exact{(v.nd),v.sub,v.hp,v.hb,v.bg,v.tn,v.sn,v.pl,v.hk,v.rk}
 .exact{(v.nd),v.sub,v.hp,v.hb,v.bg,v.tn,v.sn,v.pl,v.hk,v.rk}
def EW(s:YS)(m:Int):(s.C m).up.ag=s.ag/\(s.C m).up.lg=s.lg/\(s.C m).up.st=s.st/\(s.C m).up.done=s.done/\(s.C m).up.hd=s.hd/\(s.C m).up.now=(if s.now<m then m else s.now):=by unfold YS.C;split<;>exact{(rfl),rfl,rfl,rfl,rfl,rfl}
theorem Nm.C(v:Nm a s)(c:0<=m)(d:m<=a+1000000):Nm (a+1000000) (s.C m).up:=by
 let{e1,_,_,_,_,e2}:=EW s m;refine{?_,?_,λp b=>?_};.rw [e2];have:=v.n0;split<;>ext
 .rw [e2];have:=v.n1;split<;>ext
 .rw [e1]at b;have:=v.ag p b;ext
def KW(p:GP x P)(v:Nm a s)(d:10<=a)(e:s.next P=!m):s.st=none/\0<=m/\m<=a+1000000:=by
 unfold YS.next at e;split at e;.cases e
 .rename_i z;refine{by cases h:s.st with
   |none=>rfl
   | some o=>rw[h]at z;exact absurd rfl z,?_}
  split at e;.let{o,b,rfl}:=Xq e;have:=p.ou o (QW b);ext
  .unfold YS.first at e;let{q,c,rfl}:=Xq e;exact v.ag q (List.mem_of_mem_head? c)
def G7(p:GP x P)(I:0<=a/\a<=1000000000)(J:G+500<16000000)(v:Iv (XX x) (X0 P) [] s)(st:s.st=none)(mo:Nm a s)(K:s.lg.length<=g)(hg:g+20200<=G)(e:s.ag=(t,h)::r):GoP P h ((s.ad r).Q 0)/\Bt (XX x) (X0 P) a s.done G (((s.ad r).Q 0).Z P h):=by
 have B:wl s= [h]++wl ((s.ad r).Q 0):=by unfold wl;rw[e];rfl
 have M:Iv (XX x) (X0 P) [h] ((s.ad r).Q 0):={by rw[<-B];exact v.nd,λy F=>v.sub y (by rw[<-B]at F;exact F),v.hp,v.hb,v.bg,v.tn,v.sn,v.pl,v.hk,λq c _=>v.rk q c (λz=>by cases z)}
 let{q,c,N}:=Xl (v.sub h (by rw[B];exact QO ..));let{j,d}:=q;subst N;have C:=cJ v.hn.nd c;let{u,hc,A,b}:=v.rk _ c (λz=>by cases z);let{O,o,Q,R,S,_}:=p.c d.nm (v.hk _ c).2;rw[hc]at o;cases o;let{L,n,W,T,hs}:=Q.ex;have U:Tn x d.nm P (XX x) (X0 P) (YO u) j a:={p.pf,λd k h=>h,λH k hk X=>{u,by show aJ H.nm P.cds=_;rw[X];exact hc,hk},I}
 have Y:Go d.nm (XX x) (X0 P) j a s.done g ((s.ad r).Q 0):=⟨M,st,{mo.n0,mo.n1,λq c=>mo.ag q (by rw[e];exact QM _ c)},K,λH E=>by have:=cJ v.hn.nd E;rw[C]at this;cases this;rfl,rfl⟩
 have Z:=hs (d.row,A) (yc b);have gr:=Mp U T J 100 (s:=(s.ad r).Q 0) (i:=A) (f:=4000) (by show(0:Int)+(100:Nat)=100;rfl) Y Xu Z Xs;refine{{d,u,C,hc,{(A),b},R,S,by rw[b];exact gr.1},?_};have eF:((s.ad r).Q 0).Z P j=((s.ad r).Q 0).goOn P j u.1 4000 (!A) []:=by unfold YS.Z;rw[show fT j ((s.ad r).Q 0).hd=some d from C];dsimp only;rw[hc];dsimp only;rw[b]
 rw[eF];exact gr.2
def No:∀d,XX x d->d.kn.length<900:=λd b=>by
 rcases b.1 with z|⟨u,z,_⟩<;>rw[z];.decide
 .simp_all
def DT(p:GP x P)(v:Iv (XX x) (X0 P) [] s)(mo:Nm a s)(A:s.lg.length<=g)(e:P.out[s.done]? =!o):zr P s o/\Bt (XX x) (X0 P) a (s.done+1) (g+200) (s.U P):=by
 have wz:=v.wz;rw[RB]at wz;have f:Iv (XX x) (X0 P) [] (s.S (s.done+1)):={(v.nd),v.sub,v.hp,v.hb,v.bg,v.tn,v.sn,v.pl,v.hk,v.rk}
 have g0:∀{k:Nat} {d:YS},Gw k (s.S (s.done+1)) d->k<=200->Iv (XX x) (X0 P) [] d->Bt (XX x) (X0 P) a (s.done+1) (g+200) d:=λw hk n=>{{[],n,.inl rfl},w.nm a {(mo.n0),mo.n1,mo.ag},by have:=w.lg;have e2:(s.S (s.done+1)).lg=s.lg:=rfl;rw[e2]at this;ext,w.dn}
 have q:∃t,aJ "s" s.ss=!t:=by
  have z:=v.sn;cases e:s.ss with
  |nil=>simp_all
  |cons p l=>rw[e]at z;unfold aJ;rw[Xf (List.cons.inj z).1];exact{_,rfl}
 have h:∀b:VA,b= "a"\/b= "b"->∀i,X0 P ⟨b,0,i⟩:=λb hn i=>by let{r,u,_,_,_,y}:=p.c b hn;exact{(r),u,y}
 obtain⟨_,_,⟨m,rfl⟩|⟨m,rfl⟩|⟨m,rfl⟩⟩:=p.ou o (QW e)
 .have c:s.U P=(s.S (s.done+1)).begin P "a" []:=by unfold YS.U;rw[e]
  rw[c];refine{{[],p.na,.nil,Ra _},g0 (oZ ..) Xs (f.begin ?_ ?_)};.rw [p.na];exact{.inl rfl,.inl rfl}
  .exact h "a" (.inl rfl) _
 .have c:s.U P=(s.S (s.done+1)).begin P "b" [2]:=by unfold YS.U;rw[e]
  rw[c];refine{{[x],p.nb,by simp,of_decide_eq_true rfl},g0 (oZ ..) Xs (f.begin ?_ ?_)};.rw [p.nb];exact{.inr {2,rfl,by decide,by decide},.inr rfl}
  .exact h "b" (.inr rfl) _
 .have c:s.U P=(s.S (s.done+1)).bring "s" 3:=by unfold YS.U;rw[e]
  rw[c];let{t,j}:=q;refine{{t,j,Xn (uc j) Xu},g0 (DR ..) ?_ f.bring};have:wl (s.S (s.done+1))=wl s:=rfl;rw[this];ext
def yd(p:GP x P)(b:Bt (XX x) (X0 P) a D g s)(I:10<=a)(T:a+1000000<=1000000000)(u:D<=P.out.length)(U:g+30000<16000000):qr P s/\∃F,F<=P.out.length/\Bt (XX x) (X0 P) (a+1000000) F (g+21000) (s.step P):=by
 have e:s.done<=P.out.length:=by rw[b.dn];exact u
 have stay:∀{E:YS},Bt (XX x) (X0 P) a D g E->Bt (XX x) (X0 P) (a+1000000) D (g+21000) E:=λj=>{j.iv,{j.nm.n0,by have:=j.nm.n1;ext,λq J=>by have:=j.nm.ag q J;ext},by have:=j.lg;ext,j.dn}
 cases d:s.next P with
 |none=>refine{{e,λm z=>by rw[d]at z;cases z},D,u,?_};rw[sR d];exact stay b
 |some m=>
  let{st,K,M}:=KW p b.nm I d;have v:=b.up st;have c:=v.C m;have mo:=b.nm.C K M;let{G,N,O,y,Q,W}:=EW s m;have n:(s.C m).up.lg.length<=g:=by rw[N];exact b.lg
  have yb:=c.yb No;rw[sS d];have wz:=c.wz;rw[RB]at wz;have X:=zE (s.C m).up;by_cases ch:(s.C m).hap=500
  .rw [Xf ch];refine{{e,λH z R=>?_},D,u,?_};.rw [d]at z;cases z;exact absurd ch R
   .refine{{[],?_,.inl rfl},?_,?_,?_}
    .exact{(c.nd),c.sub,c.hp,c.hb,c.bg,c.tn,c.sn,c.pl,c.hk,c.rk}
    .exact{(mo.n0),mo.n1,mo.ag}
    .show(s.C m).up.lg.length<=_;ext
    .show(s.C m).up.done=D;rw[y];exact b.dn
  .rw [Xe ch];cases i:(s.C m).up.H P with
   |true=>
    obtain⟨o,A⟩:∃o,P.out[(s.C m).up.done]? =!o:=by
     unfold YS.H at i;cases z:P.out[(s.C m).up.done]? with
     |none=>rw[z]at i;cases i
     |some o=>exact{(o),rfl}
    let{ok,f}:=DT p c mo n A;refine{{e,λH z _=>?_},(s.C m).up.done+1,(Xj A).1,{f.iv,f.nm,Xn f.lg Xu,f.dn}};rw[d]at z;cases z;exact{λ_=>{o,A,ok,yb,by ext},λz=>by rw[i]at z;cases z}
   |false=>
    rw[Xe Xp];obtain⟨t,h,r,B⟩:∃t h r,(s.C m).up.ag=(t,h)::r:=by
     cases z:(s.C m).up.ag with
     |cons q r=>grind
     |nil=>have C:s.H P=false:=(by unfold YS.H YS.first at i⊢;rw[y,G]at i;exact i);unfold YS.next at d;rw[st,C,Xe Xs,Xe Xs]at d;unfold YS.first at d;rw[<-G,z]at d;cases d
    let{S,f}:=G7 p {by ext,by ext} Xu c (O.trans st) mo n (Xm _) B;refine{{e,λH z _=>?_},D,u,?_};.rw [d]at z;cases z;exact{λz=>(by rw[i]at z;cases z),λ_=>{t,h,r,B,by ext,by rw[<-Q];exact c.hn,S}}
    .rw [B];exact{f.iv,f.nm,Xn f.lg Xu,by rw[f.dn,y];exact b.dn}
end
def ue(q:Int×Int)(x:VA):EK (eF q x).1/\(az (eF q x).1).length<=3/\(eF q x).1.depth<2:=by
 have b:∀a,sm (tkF a 3).1/\sm (1+(tkF a 3).1):=λa=>by have:=qx (q:=a) (m:=3) Xs;unfold sm;ext
 unfold eF;split;.exact{(b _).2,by show 1<=3;decide,by show 0<2;decide}
 .split
  .exact{trivial,by show 1<=3;decide,by show 0<2;decide}
  .split
   .exact{{trivial,(b _).1},by show 3<=3;decide,by show 1<2;decide}
   .exact{{(trivial),trivial},by show 3<=3;decide,by show 1<2;decide}
def Yu(x:VA)(k:Int)(p:Pl):Prop:=XT x p/\(p.es.flatMap az).length<=3/\p.k=k/\p.ok/\∀e∈p.es,e.depth<2
theorem BM(i:Int):_B i= "t"\/_B i= "u":=by unfold _B;split<;>simp
theorem iG(q:Int×Int)(k:Int)(x:VA):Yu x k (ig q k x).1:=by
 have one:∀(w d:VA) (a:Int×Int),XT x (.one w k d (eF a x).1)->w∈(["take","give","put","get","let","say"]:List VA)->Yu x k (.one w k d (eF a x).1):=λw d a h hw=>by let{_,f,i}:=ue a x;refine{h,?_,rfl,hw,λe b=>by rw[Xh b];exact i};show([(eF a x).1].flatMap az).length<=3;rw[Re,R1,Rf];exact f
 have c:=λa=>(ue a x).1;unfold ig;split;.exact one _ _ _ (.take (BM _) (c _)) eq
 split;.exact one _ _ _ (.give (BM _) (c _)) eq
 split;.exact one _ _ _ (.put (c _)) eq
 split;.exact one _ _ _ (.get (c _)) eq
 split;.exact{.draw,by show 0<=3;decide,rfl,trivial,λe b=>by cases b}
 split;.exact one _ _ _ (.say (c _)) eq
 .let{j,f,i}:=ue (tkF q 8).2 x;refine{.wait j,?_,rfl,trivial,λe b=>by rw[Xh b];exact i};show([(eF (tkF q 8).2 x).1].flatMap az).length<=3;rw[Re,R1,Rf];exact f
def G8(q:Int×Int)(b:Int)(x:VA):∀n,∀(i:Nat) (p:Pl),(cI q b x n).1[i]? =!p->Yu x (b+i) p/\i<n:=by
 intro n;induction n with
 |zero=>intro i p h;cases i<;>cases h
 |succ n d=>
  intro i p h;have e:(cI q b x n).1.length=n:=by
   clear d h;induction n with
   |zero=>rfl
   |succ n d=>show((cI q b x n).1++[_]).length=_;rw[QN,d];rfl
  have a:((cI q b x n).1++[(ig (cI q b x n).2 (b+n) x).1])[i]? =!p:=h;by_cases c:i<n;.rw [List.getElem?_append_left Xu]at a;exact{(d i p a).1,by ext}
  .rw [List.getElem?_append_right Xu,e]at a;have:i=n:=(by have:=(Xj a).1;simp only[QP,Rl]at this;ext);subst this;rw[Nat.sub_self]at a;cases a;exact{iG _ _ _,by ext}
def kK(h:p∈(cI q b x n).1):∃i:Nat,Yu x (b+i) p/\i<n:=by let{i,a}:=List.getElem?_of_mem h;exact{i,G8 q b x n i p a}
theorem Yu.g(h:Yu x k p):XT x p/\(p.es.flatMap az).length<=10:={h.1,by have:=h.2.1;ext}
def BN(x:VA):Yu x 10 (more x):={.letS {trivial,by decide,by decide},by show 3<=3;decide,rfl,by show _∈_;simp,λe a=>by rw[Xh a];show 1<2;decide}
def zK(x:VA):Yu x 6 (.one "let" 6 x (.num 0)):={.letS {by decide,by decide},by show 1<=3;decide,rfl,by show _∈_;simp,λe a=>by rw[Xh a];show 0<2;decide}
def rN(q:Int×Int)(x:VA):Yu x 13 (.start 13 "b" [(eF q x).1]):=by let{a,b,c}:=ue q x;refine{.start a,?_,rfl,trivial,λe d=>by rw[Xh d];exact c};show([(eF q x).1].flatMap az).length<=3;rw[Re,R1,Rf];exact b
theorem gcA(c:Int):GC (gX c) (IH (fo c)):=by
 have e:fo c=.pl (.one "let" 6 (gX c) (.num 0))::.wh 7 "<" (.name (gX c)) (.num 3) ((gI c).1++[more (gX c)])::[(gO c).1,.start 13 "b" [(gE c).1]].map .pl:=rfl;rw[e];refine Nn (zK _).g trivial {by decide,by decide} (by show 1+1<=10;decide) (λp a=>?_) λp a=>?_
 .rcases Xk a with z|z
  .let{i,h,_}:=kK z;exact h.g
  .rw [Xh z];exact(BN _).g
 .rcases Xi a with z|z
  .rw [z];exact(iG _ _ _).g
  .rw [Xh z];exact(rN _ _).g
theorem gcB(c:Int):GC (gX c) (IH ((gS c).1.map .pl)):=Nl λp a=>by let{i,h,_}:=kK a;exact h.g
theorem kL(q:Int×Int)(b:Int)(x:VA):∀n,(cI q b x n).1.length=n
 |0=>rfl
 |n+1=>by show((cI q b x n).1++[_]).length=_;rw[QN,kL];rfl
def mY(h:Yu x k p):(su p).length<=5:=by have:=h.2.1;unfold su fV;rw[QN];show(p.es.flatMap az).length+1+1<=5;ext
theorem rO:∀(l:List Pl) (o:Nat),(∀p∈l,∃k,Yu x k p)->(NJ o l).1.length<=5*l.length/\(NJ o l).2.length=l.length
 |[],_,_=>{Xm _,rfl}
 |p::r,o,h=>by
  let{k,a}:=h p (QO ..);have:=mY a;let{d,b}:=rO r (o+(su p).length) λq c=>h q (QM _ c);refine{?_,?_};.show(su p++(NJ (o+(su p).length) r).1).length<=_;rw[QN,QP];ext
  .show((p.k,o+(su p).length)::(NJ (o+(su p).length) r).2).length=_;rw[QP,QP,b]
def pI(c:Int):∀p∈(gI c).1++[more (gX c)],∃k,Yu (gX c) k p:=λp a=>by
 rcases Xk a with z|z;.let{i,h,_}:=kK z;exact{_,h}
 .rw [Xh z];exact{_,BN _}
def pS(c:Int):∀p∈(gS c).1,∃k,Yu (gX c) k p:=λp a=>by let{i,h,_}:=kK a;exact{_,h}
def DU(c:Int):(IH ((gS c).1.map .pl)).1.length<=20/\(IH ((gS c).1.map .pl)).2.length=4:=by let{b,a}:=rO (gS c).1 0 (pS c);have l:(gS c).1.length=3:=kL ..;unfold IH;rw[QN];rw[l]at b a;refine{?_,by show(NJ 0 (gS c).1).2.length+1=4;rw[a]};show(NJ 0 (gS c).1).1.length+1<=20;ext
def DW(c:Int):(IH (fo c)).1.length<=60/\(IH (fo c)).2.length=7:=by
 have n:=mY (zK (gX c));have a:=mY (iG (gI c).2 12 (gX c));have d:=mY (rN (gO c).2 (gX c));have li:((gI c).1++[more (gX c)]).length=3:=by rw[QN];show(cI _ _ _ 2).1.length+1=3;rw[kL]
 have e:=λo=>rO ((gI c).1++[more (gX c)]) o (pI c);unfold IH fo qy;simp only[ql,XY,QN,QP,Rl,Rf];have b:(fV (.wh 7 "<" (.name (gX c)) (.num 3) ((gI c).1++[more (gX c)]))).length=3:=rfl;rw[b];generalize hn:0+(su (.one "let" 6 (gX c) (.num 0))).length+3+1=m;let{f,h}:=e m;rw[li]at f h;have i:(su (gO c).1).length<=5:=a;have j:(su (.start 13 "b" [(gE c).1])).length<=5:=d;refine{by ext,by ext}
section
variable{out:List Ot}
def Mq(a:∀o∈out,0<=o.m/\o.m<=10/\((∃m,o=.start m "a" [])\/(∃m,o=.start m "b" [2])\/∃m,o=.bring m "s" 3)):GP (gX c) (ja (q7 c) out):=by
 have b:aJ "a" (ja (q7 c) out).cds=!(IH (fo c)):=by show aJ "a" [(VA.ofString "a",IH (fo c)),("b",IH ((gS c).1.map .pl))]=_;unfold aJ;rw[Xf rfl]
 have d:aJ "b" (ja (q7 c) out).cds=!(IH ((gS c).1.map .pl)):=by show aJ "b" [(VA.ofString "a",IH (fo c)),("b",IH ((gS c).1.map .pl))]=_;unfold aJ;rw[Xe (show ¬VA.ofString "a" =VA.ofString "b" by decide)];unfold aJ;rw[Xf rfl]
 refine{λe hn=>?_,?_,?_,{(gR c).1,rfl,?_},a}
 .rcases hn with rfl|rfl
  .have:=DW c;exact{_,b,gcA c,by ext,by ext,0,by unfold IH;rfl}
  .have:=DU c;exact{_,d,gcB c,by ext,by ext,0,by unfold IH;rfl}
 .show aJ "a" [(VA.ofString "a",([]:List VA)),("b",[gX c])]=_;unfold aJ;rw[Xf rfl]
 .show aJ "b" [(VA.ofString "a",([]:List VA)),("b",[gX c])]=_;unfold aJ;rw[Xe (show ¬VA.ofString "a" =VA.ofString "b" by decide)];unfold aJ;rw[Xf rfl]
 .have:=qx (q:=(gS c).2) (m:=4) Xs;unfold gR sm;ext
def Np(c:Int):Bt (XX (gX c)) (X0 P) 10 0 0 (ys0 (q7 c)):=by
 refine{{[],{?_,?_,.nil,λp a=>(by cases a),by show 0<=60;decide,rfl,rfl,{0,rfl,by decide},λp a=>(by cases a),λp a=>by cases a},.inl rfl},{by show(0:Int)<=0;decide,by show(0:Int)<=10;decide,λp a=>by cases a},Xm _,rfl};.exact .nil
 .intro y b;cases b
theorem Iv.view(v:Iv (XX x) Rk q s):mw s:=by
 have w:=v.wz;rw[QN]at w;have b:=zE s;have hl:=v.hl;refine{v.hn,v.hp,by ext,by ext,λp a=>?_,?_,?_,?_}
 .rcases (v.hk p a).1 with z|⟨u,z,_⟩<;>rw[z]
  .decide
  .simp_all
 .let{i,e,_}:=v.pl;rw[e];show 1<1000;decide
 .have:=congrArg List.length v.tn;rw[QL]at this;rw[this];decide
 .have:=congrArg List.length v.sn;rw[QL]at this;rw[this];decide
end
theorem vX(q:Int×Int)(b:Int)(x:VA):∀n,(cI q b x n).1.map Pl.k=(List.range n).map λ(i:Nat)=>b+(i:Int)
 |0=>rfl
 |n+1=>by show((cI q b x n).1++[_]).map Pl.k=_;rw[QT,vX q b x n,List.range_succ,QT,QU,SU,(iG _ _ _).2.2.1];rfl
theorem zL:∀(l:List Pl) (o:Nat),(NJ o l).2.map (·.1)=l.map Pl.k
 |[],_=>rfl
 |p::r,o=>by show((p.k,o+(su p).length)::(NJ (o+(su p).length) r).2).map (·.1)=_;rw[QU,zL];rfl
def ndB(c:Int):((IH ((gS c).1.map .pl)).2.map (·.1)).Nodup:=by unfold IH;rw[qw];rw[QU,zL,show(gS c).1.map Pl.k=(List.range 3).map λ(i:Nat)=>(16:Int)+(i:Int)from vX ..];decide
def ndA(c:Int):((IH (fo c)).2.map (·.1)).Nodup:=by unfold IH fo qy;simp only[ql,XY,QU,QT,zL];rw[show(gI c).1.map Pl.k=(List.range 2).map λ(i:Nat)=>(8:Int)+(i:Int)from vX ..,show(gO c).1.k=12 from(iG _ _ _).2.2.1];show List.Nodup (0::([(6:Int)]++(((List.range 2).map λ(i:Nat)=>(8:Int)+(i:Int))++[10]++([12]++[13]))));decide
def KY(c:Int):CdK (q7 c):=λh a=>by
 rcases Xi a with z|z;.rw [z];exact{by have:=(DW c).2;dsimp only;ext,ndA c}
 .rw [Xh z];exact{by have:=(DU c).2;dsimp only;ext,ndB c}
def KZ(c:Int):PgI (q7 c):=by
 refine{{by show 2<=10;decide,?_},{by show 1<=10;decide,?_},{by show 1<=10;decide,?_},{by show 2<=10;decide,?_}};.show List.Nodup (α:=VA) ["t","u"];decide
 .show List.Nodup (α:=VA) ["s"];decide
 .show List.Nodup (α:=VA) ["r"];decide
 .show List.Nodup (α:=VA) ["a","b"];decide
def mD(h:Yu x k p):(Sm.pl p).ok/\(Sm.pl p).depth 2:={(h.2.2.2.1),h.2.2.2.2,trivial}
def qD(c:Int):PgK 2 (q7 c):=by
 refine{by show 2<=100;decide,λh f=>?_};rcases Xi f with z|z
 .rw [z];have b:∀s∈fo c,s.ok/\s.depth 2:=λs hs=>by
   unfold fo at hs;simp only[RH,Q7,or_false]at hs;rcases hs with rfl|rfl|rfl|rfl
   .exact mD (zK _)
   .refine{λp a=>?_,λe d=>?_,λp a e d=>?_}
    .let{k,h}:=pI c p a;exact h.2.2.2.1
    .have:e=.name (gX c)\/e=.num 3:=by simpa[Sm.es,qy]using d
     rcases this with rfl|rfl<;>(show 0<2;decide)
    .let{k,h}:=pI c p a;exact h.2.2.2.2 e d
   .exact mD (iG _ _ _)
   .exact mD (rN _ _)
  have l:=DW c;unfold IH at l;rw[QN,QP,QP,Rl]at l;exact{λs hs=>(b s hs).1,λs hs=>(b s hs).2,by dsimp only;ext,by dsimp only;ext}
 .rw [Xh z];have l:=DU c;unfold IH at l;rw[QN,QP,QP,Rl]at l;refine{λs hs=>?_,λs hs=>?_,by dsimp only;ext,by dsimp only;ext};.let{p,a,rfl}:=Xl hs;let{k,h}:=pS c p a;exact(mD h).1
  .let{p,a,rfl}:=Xl hs;let{k,h}:=pS c p a;exact(mD h).2
def stN(P:Pr)(s:YS):Nat->YS
 |0=>s
 |n+1=>(stN P s n).step P
def K0:Option Int->Ta
 |none=>.none
 |some i=>.int i
def vY(P:Pr)(s:YS):Ta:=.tuple [.list s.lg,.tuple (.int s.now::vH s::vT s::vR s),stD s.st,K0 (s.next P)]
structure YI(C:CA)(K:RP)(Pp:Pr)(D H:Hp)(n:Nat)(xs:List V)(cs:Nat->Ce×(Tu->Nat))(st:Nat->YS):Prop where
 d:dA D H
 y:∀i,i<n->xs[i]? =!(.ref (cs i).1.y)/\Yd C K Pp H (cs i).1 (st i) (cs i).2/\∀a,D a≠none->(cs i).2 a=0
 o:∀i j,i<n->j<n->i≠j->∀a,(cs i).2 a≠0->(cs j).2 a=0
def zM(k:dA H B)(b:dA G H'):dA (fr B G) (fr H H'):=λa o h=>by
 obtain⟨e,⟨c,rfl⟩|⟨c,rfl,n⟩⟩:=hJ h;.exact dH (b _ _ e)
 .exact cL (b _ _ e) (_ao k n)
def G9(k:dA H H')(e:H D=!(.lst xs)):dA (fr H H') (bF D H'):=λa o h=>by
 obtain⟨e1,⟨b,rfl⟩|⟨b,rfl,n⟩⟩:=hJ h;.exact aV (λz=>by rw[z,k _ _ e]at e1;cases e1) e1
 .exact aV (λz=>by rw[z,e]at n;cases n) e1
def ye(k:dA H H')(e:H D=!(.lst xs)):dA (tp H) (bF D H'):=λa o h=>by let{b,rfl,e1}:=jV h;exact aV (λz=>by rw[z,e]at e1;cases e1) (k _ _ e1)
#print c
def VwQ.rpf(h:VwQ K H H' v s):Rp K (fr H H') v (.tuple (.int s.now::vH s::vT s::vR s)):=by let{p,j,n,o,B,q,rfl,e,a,d,b,f,c,i}:=h;exact .tup (dH e) (.cons (.int _) (.cons (Rp.mono (fI (ai b c)) d) (.cons (Rp.mono (zM a c) f) (jk.mono (zM (ai a b) λ_ _ h=>h) i))))
theorem YI.step(m:YI C K Pp D H n xs cs st)(r:i<n)(g:Yq C K {Pp,(cs i).1,st i,(cs i).2} H H' s'):∃f,YI C K Pp D H' n xs f (λj=>if j=i then s' else st j):=by
 let{x,b,G,Y,p,y}:=g;let{I,A,u}:=m.y i r;have off:∀a o,H a=!o->(cs i).2 a=0->b a=0:=λa o e z=>by
  rcases Q6 (b a)with q|q;.exact q
  .rcases y a (Ri q)with w|w
   .simp_all
   .grind
 have J:=λa h=>by
  cases e:D a with
  |none=>exact absurd e h
  |some o=>exact off a o (m.d _ _ e) (u a h)
 refine{λj=>if j=i then(x,b)else cs j,λa o e=>p a o (u a (by rw[e];exact R7 _)) (m.d _ _ e),λj c=>?_,λj k c hk d a=>?_}
 .by_cases z:j=i
  .simp_all
  .simp only[Xe z];let{B,E,F}:=m.y j c;exact{B,E.sub (λa xs e=>p a _ (A.tg.tup e) e) (λa o q e=>p a o (m.o j i c r z a q) e),F}
 .by_cases z:j=i
  .subst z;simp only[Xf,Xe (Ne.symm d)];intro q;rcases Q6 ((cs k).2 a)with w|w
   .exact w
   .let{o,e,_}:=(m.y k hk).2.1.tg.own a (Ri w);exact absurd (off a o e (m.o k j hk c (Ne.symm d) a (Ri w))) q
  .by_cases v:k=i
   .subst v;simp only[Xe d];intro q;let{o,e,_}:=(m.y j c).2.1.tg.own a q;exact off a o e (m.o j k c hk d a q)
   .simp only[Xe z,Xe v];exact m.o j k c hk d a
structure LsA where
 l:Tu
 xs:List V
 n:Nat
 m:Nat
 D:Hp
 cs:Nat->Ce×(Tu->Nat)
 s:YS
 P:Pr
structure LsP(C:CA)(K:RP)(a:LsA)(H:Hp):Prop where
 m:YI C K a.P a.D H a.n a.xs a.cs λ_=>a.s
 l:a.D a.l=!(.lst a.xs)
 n:a.xs.length=a.n/\a.n<=10/\a.m<=100
 k:∀k,k<a.m->qr a.P (stN a.P a.s k)
 v:mw (stN a.P a.s a.m)
 d:(stN a.P a.s a.m).done<=a.P.out.length
def K1(C:CA)(K:RP):Sp:=G3 (A:=LsA) (λa=>[.ref a.l,.int a.m]) (LsP C K) (λa _ v b=>dA a.D b/\Rp K b v (.list (Sf a.n (vY a.P (stN a.P a.s a.m)))))
def Mr(D:hW K mg "_law_steps" lZ ["yards","steps"])(OQ:mg "range" =none)(Om:%[10,C.y,"step",[]|vG C K])(Oz:%[1,C.y,"log",[]|zt C K])(Ow:%[3,C.y,"view",[]|vJ C K])(O7:%[1,C.y,"end",[]|ZU C K (λ_=>True) λg=>g.c.sv])(Oa:%[3,C.y,"next_moment",[]|ZU C K (λg=>g.s.done<=g.P.out.length) λg=>oT (g.s.next g.P)]):%[11,"_law_steps",["yards","steps"]|K1 C K]:=by
 exists D.I h8;let{l,xs,n,m,D,cs,s,b}:=a;let{M,hl,{T,Z,F},hk,hv,hd}:=p;dsimp only at M hl T Z F hk hv hd q⊢;have hu:=bA hr;refine{_,(aa (cE Tl.never rfl (kZ rfl OQ (aD (pv 1))) (aZ 2 h8) (ae (cE Tl.never rfl (bC (pv 0)) (aZ 3 h8) (ae (av (bL Om hr (pv 3))))))) (ae (aw (dv 1 ["yard"] [] (bC (pv 0)) (λn _ _ _ _=>(dq 0 n)) (λ_ _ _ _=>cc) (λ_ _ _ _=>(am (bT (bL Oz hr (pv 0)) (bL Ow hr (pv 0)) (bL O7 hr (pv 0)) (bL Oa hr (pv 0))))))))),?_};symm;have big:=_bg
 apply ce;unfold ym;symm;refine{by ext,by ext,rS (λi σ G=>(∃I J,σ= [!(.ref l),!(.int m),I,J])/\∃e,YI C K b D G n xs e λ_=>stN b s i) {{_,_,rfl},cs,M} ?_ ?_}
 .rintro k σ H1 a1 ⟨⟨I,J,rfl⟩,c,M1⟩;have so:=hk k Xu;symm;apply ce;unfold cC;symm;refine{{_,ip.of (M1.d _ _ hl)},cQ (xs:=xs) (λi σ G=>(∃I J,σ= [!(.ref l),!(.int m),I,J])/\∃e,YI C K b D G n xs e λj=>if j<i then stN b s (k+1)else stN b s k) {{_,_,rfl},c,M1} (λi σ H4 _ zz=>?_) ?_ ?_};.let{_,_,M4}:=zz;exact ip.of (M4.d _ _ hl)
  .rintro i x σ H2 y ⟨⟨u2,u3,rfl⟩,d,M2⟩;have B:i<n:=(by rw[<-T];exact(Xj y).1);let{U,N,_}:=M2.y i B;rw[Xe (Ro _)]at N;cases y.symm.trans U;clear y U;have h0:=N.obj;symm;refine{{b,(d i).1,stN b s k,(d i).2},rfl,{(N),so},λv H3 O=>?_};let{rfl,O}:=O;let{a0,M3}:=M2.step B (by rw[Xe (Ro _)];exact O);refine{a0,?_};rw[show(λj=>if j<i+1 then stN b s (k+1)else stN b s k)=λj=>if j=i then(stN b s k).step b else if j<i then stN b s (k+1)else stN b s k from ?_];.exact M3
   .funext j;by_cases z:j=i;.rw [Xf z,Xf Xu];rfl
    .rw [Xe z];by_cases z':j<i;.rw [Xf z',Xf Xu]
     .rw [Xe z',Xe Xu]
  .rintro σ H2 ⟨⟨u2,u3,rfl⟩,d,M2⟩;refine{{_,_,rfl},d,M2.d,λi B=>?_,M2.o};have:=M2.y i B;rw[Xf Xu]at this;exact this
 .rintro σ H1 ⟨⟨I,J,rfl⟩,c,M1⟩;symm;apply bD;simp only[cC];symm;refine{{_,ip.of (M1.d _ _ hl)},de (M1.d _ _ hl) Xu (λR i ys σ1 G=>jk K (bF R G) ys (Sf i (vY b (stN b s m)))/\∃v0,σ1= [v0]) (λ_ _ _ _ _=>{.nil,_,rfl}) ?_ ?_}
  .rintro R i x ys σ1 H2 y o ⟨W,v0,rfl⟩;have B:i<n:=(by rw[<-T];exact(Xj y).1);let{U,N,_}:=M1.y i B;cases y.symm.trans U;have Y2:=N.same o.same;have lR:=o.lst;have h0:=Y2.obj;symm;refine{{b,(c i).1,stN b s m,(c i).2},rfl,Y2,λv H3 O=>?_};let{r,vs,rfl,n3,k3,e3,f3}:=O;have Y3:=Y2.same k3;have a2:=Y3.obj;symm;refine{{b,(c i).1,stN b s m,(c i).2},rfl,{(Y3),hv},λv4 H4 w4=>?_};let{X,w4}:=w4;have r4:=w4.rpf;have Y:=Y3.same X;have a3:=Y.obj;symm;refine{{b,(c i).1,stN b s m,(c i).2},rfl,{(Y),trivial},λv5 H5 w5=>?_};let{rfl,rfl}:=w5;symm;refine{{b,(c i).1,stN b s m,(c i).2},rfl,{(Y),hd},λv5 H5 w5=>?_};let{rfl,rfl}:=w5;intro p6 H6 n6 k6 e6;have u:=ai X k6;have S:=ai k3 u;have l3:=k3 _ _ lR;have l4:=X _ _ l3;refine o.put S λH7 mu=>{?_,_,rfl}
   rw[List.replicate_succ'];refine eM (jk.mono ((dU S).trans (eI mu)) W) (jk.mono (eI mu) (.cons ?_ .nil));refine .tup (aV (λz=>by rw[z,l4]at n6;cases n6) e6) (.cons (.lst (aV (λz=>by rw[z,lR]at n3;cases n3) (u _ _ e3)) (jk.mono (ye u l3) f3)) (.cons (Rp.mono (ai (G9 X l3) (dU k6)) r4) (.cons (Rp.mono (ye k6 l4) Y.sv) (.cons ?_ .nil))));show Rp K _ (oT _) (K0 _);cases YS.next b (stN b s m)with
   |none=>exact .non
   |some i=>exact .int i
  .rintro R ys σ1 H2 n2 g2 e2 _ ⟨W,_⟩;rw[T]at W;exact q _ _ {ai M1.d g2,.lst e2 (jk.mono cz W)}
end
section
variable{K:RP}
def K2(h:Rp K H v d)(h':Rp K H v d'):d=d':=by
 revert d' h';refine Rp.rec (motive_1:=λv d _=>∀{d'},Rp K H v d'->d=d') (motive_2:=λq n _=>∀{ds'},jk K H q ds'->n=ds') ?_ ?_ ?_ ?_ ?_ ?_ ?_ ?_ h;.intro _ h';cases h';rfl
 .intro _ _ h';cases h';rfl
 .intro _ _ h';cases h';rfl
 .intro _ _ h';cases h';rfl
 .intro a p n e _ o _ h';cases h' with
  |lst c f=>rw[e]at c;cases c;rw[o f]
  |tup c f=>simp_all
 .intro a p n e _ o _ h';cases h' with
  |lst c f=>simp_all
  |tup c f=>rw[e]at c;cases c;rw[o f]
 .intro _ h';cases h';rfl
 .intro x d p n _ _ i j _ h';cases h' with|cons a b=>rw[i a,j b]
def Lp(d:Ta):Prop:=∃r a b c,d=.list (.tuple (a::.list b::c)::r)
def K3:Xv t≠.tuple (a::.list b::c):=by
 unfold Xv;cases t with
 |bin o l r=>cases l<;>simp[Wo.Tr.toD]
 |_=>simp[Wo.Tr.toD]
def BO{p:Pl}:p.L≠a::.list b::c:=by cases p<;>simp[Pl.L]
def K4{s:Sm}:s.L≠a::.list b::c:=by
 cases s with
 |pl p=>exact BO
 |wh=>simp[Sm.L]
def mZ{α:Type}{l:List α}{f:α->Ta}(h:∀x a b c,f x≠.tuple (a::.list b::c)):¬Lp (.list (l.map f)):=by
 rintro⟨r,a,b,c,e⟩;cases l with
 |nil=>cases e
 |cons x l=>simp_all
def DX:¬Lp (zB l):=mZ λx a b c e=>by injection e with e;exact K4 e
def BP{l:List VA}:¬Lp (.list (l.map .str)):=mZ λx a b c e=>by cases e
def qE:¬Lp (Xv t):=by rintro⟨r,a,b,c,e⟩;unfold Xv at e;cases t<;>simp[Wo.Tr.toD]at e
def Hr{p:Pl}(h:d∈p.L):¬Lp d:=by
 cases p<;>simp only[Pl.L,RH,Q7,or_false]at h
 .rcases h with rfl|rfl|rfl|rfl
  .rintro⟨_,_,_,_,e⟩;cases e
  .rintro⟨_,_,_,_,e⟩;cases e
  .rintro⟨_,_,_,_,e⟩;cases e
  .exact qE
 .rcases h with rfl|rfl|rfl
  .rintro⟨_,_,_,_,e⟩;cases e
  .rintro⟨_,_,_,_,e⟩;cases e
  .exact qE
 .rcases h with rfl|rfl|rfl|rfl<;>(rintro⟨_,_,_,_,e⟩;cases e)
 .rcases h with rfl|rfl|rfl|rfl
  .rintro⟨_,_,_,_,e⟩;cases e
  .rintro⟨_,_,_,_,e⟩;cases e
  .rintro⟨_,_,_,_,e⟩;cases e
  .exact mZ λx a b c e=>K3 e
def DY{s:Sm}(h:d∈s.L):¬Lp d:=by
 cases s with
 |pl p=>exact Hr h
 |wh=>
  simp only[Sm.L,RH,Q7,or_false]at h;rcases h with rfl|rfl|rfl|rfl|rfl|rfl
  .rintro⟨_,_,_,_,e⟩;cases e
  .rintro⟨_,_,_,_,e⟩;cases e
  .rintro⟨_,_,_,_,e⟩;cases e
  .exact qE
  .exact qE
  .exact mZ λx a b c e=>by injection e with e;exact BO e
def HB{d:Ta}(h:d∈fs)(h':.tuple fs∈bs):d≠.list bs:=λe=>by have a:=List.sizeOf_lt_of_mem h;have b:=List.sizeOf_lt_of_mem h';rw[e]at a;simp at a b;ext
structure Jv(N H0:Hp)(n:Nat)(H:Hp):Prop where
 o:∀a o,N a=none->H0 a=!o->H a=!o
 t:∀a xs,N a=!(.tup xs)->H a=!(.tup xs)
 l:∀a xs,N a=!(.lst xs)->∃ys,H a=!(.lst ys)/\ys.length<=xs.length+n/\∀r z,xs=.ref r::z->∀v∈ys,v∈xs
def Jv.mu(j:Jv N H0 n H)(e:N a=!(.lst xs))(m:Mu H a (.lst zs) H')(hn:n<=n')(hl:zs.length<=xs.length+n')(d:∀r z,xs=.ref r::z->∀v∈zs,v∈xs):Jv N H0 n' H':=by
 refine{λb o z h=>m.old (j.o b o z h) λq=>(by rw[q,e]at z;cases z),λb c h=>m.old (j.t b c h) λq=>(by rw[q,e]at h;cases h),λb c h=>?_};by_cases q:b=a;.subst q;rw[e]at h;cases h;exact{(zs),m.at_,hl,d}
 .let{f,i,u,p}:=j.l b c h;exact{f,m.old i q,by ext,p}
def yf(h:jk K H vs ds)(a:v∈vs):∃d∈ds,Rp K H v d:=by let{i,e}:=List.getElem?_of_mem a;let{d,b,r}:=cK h e;exact{d,QW b,r}
end
section
variable{K:RP}{N H0 H:Hp}{n:Nat}
def EX(h:Rp K N (.ref a) d)(h':Rp K N (.ref b) e)(ne:d≠e):a≠b:=λz=>by subst z;exact ne (K2 h h')
def _o(K:RP)(N b H:Hp):Prop:=∀a e o,Rp K N (.ref a) e->Lp e->b a=!o->H a=!o
def _o.mu(s:_o K N H1 H)(h:Rp K N (.ref a) d)(c:¬Lp d)(m:Mu H a x H'):_o K N H1 H':=λb e o r l q=>
 m.old (s b e o r l q) (EX r h λz=>c (z▸l))
def Jl(N H:Hp):Prop:=∀a b,N a=!(.lst b)->∃c,H a=!(.lst c)/\c.length=b.length
theorem yg(h:G a=none):fr B G a=none:=by unfold fr;rw[h]
def Ms(h:fr B G a=!o):(∃xs,o=.tup xs)\/∃xs,o=.lst xs:=by
 obtain⟨_,z|⟨xs,z,_⟩⟩:=hJ h;.exact .inl z
 .exact .inr {(xs),z}
def Jv.keep(j:Jv (fr B G) H0 n H)(k:dA (fr B G) H0){o:HO}(h:H0 a=!o)(b:∀xs,fr B G a≠!(.lst xs)):H a=!o:=by
 cases e:fr B G a with
 |none=>exact j.o a o e h
 |some x=>
  have:=k _ _ e;rw[h]at this;cases this;rcases Ms e with ⟨xs,rfl⟩|⟨xs,rfl⟩
  .exact j.t a xs e
  .exact absurd e (b xs)
def Ch(B G H b:Hp):Prop:=∀a o,H a=!o->(∀c,fr B G a≠!(.lst c))->b a=!o
def Ch.mu(c:Ch B G H H1)(h:fr B G a=!(.lst xs))(m:Mu H1 a x H2):Ch B G H H2:=λb o e n=>m.old (c b o e n) λz=>n xs (z▸h)
theorem Ch.same(c:Ch B G H H1)(k:dA H1 H2):Ch B G H H2:=λb o e n=>k _ _ (c b o e n)
theorem Ch.kt(c:Ch B G H H1)(k:dA (fr B G) H):Kt H H1:=λa b e=>c a _ e λd z=>by rw[k _ _ z]at e;cases e
structure Kp(B W:Hp)(n:Nat)(H:Hp):Prop where
 k:dA B H
 t:Kt W H
 l:∀a xs,W a=!(.lst xs)->B a=none->∃ys,H a=!(.lst ys)/\ys.length<=xs.length+n
theorem Kp.same(p:Kp B W n H)(k:dA H H'):Kp B W n H':={ai p.k k,λa b e=>k _ _ (p.t a b e),λa b e z=>by let{c,h,l}:=p.l a b e z;exact{c,k _ _ h,l}}
def Kp.mu(p:Kp B W n H)(h:H a=!(.lst ys))(f:B a=none)(m:Mu H a (.lst (ys++[v])) H'):Kp B W (n+1) H':=by
 refine{λb o e=>m.old (p.k _ _ e) λz=>(by rw[z,f]at e;cases e),λb c e=>m.old (p.t b c e) λz=>(by have:=p.t b c e;rw[z,h]at this;cases this),λb c e z=>?_};let{i,d,j}:=p.l b c e z;by_cases q:b=a;.subst q;rw[h]at d;cases d;exact{_,m.at_,by rw[QN,Q0];ext}
 .exact{_,m.old d q,by ext}
theorem vZ:dO (xs++[v]) none (!(-1))=xs:=by unfold dO _T.sIx;simp;rw[show(-1+((xs.length:Int)+1)).toNat=xs.length by ext,List.take_append_of_le_length (Xm _),List.take_length]
def K5(Y:Yd C K Pp H c s tg):∀p∈s.ts,(jv p.2).length<=1000/\p.2.que.length<=1000:=λp a=>by
 rw[<-Y.ts]at a;let{e,b,rfl}:=Xl a;let{i,j,_,_,_,_,nd,hk,o}:=Y.go.2.2.2.1 e b;refine{?_,by show e.t.que.length<=1000;ext};have r:(jv e.t).length<=e.t.held.length:=by unfold jv;rw[List.length_mergeSort];exact List.length_filter_le ..
 have d:=tU nd λx f=>by let{q,h,rfl}:=Xl f;exact hk.1 q h
 have u:hs.length=60:=by unfold hs;rw[QL,RX]
 rw[QL]at d;show(jv e.t).length<=1000;ext
def K6:∀h∈(q7 c).hs,h.2.2≠[]:=λh a=>by
 rcases Xi a with z|z;.rw [z];intro q;cases(q)
 .rw [Xh z];intro q;have:((gS c).1.map Sm.pl).length=3:=by rw[QL];exact kL ..
  rw[show(gS c).1.map Sm.pl= []from q]at this;cases this
end
def YU(a b:Int):List Ta:=[.tuple [.int 0,.str "start",.str "a",.list []],.tuple [.int a,.str "start",.str "b",.list [.int 2]],.tuple [.int b,.str "bring",.str "s",.int 3]]
structure SpA where
 p:Tu
 o:Tu
 g:Gy
 c:Int
 a:Int
 b:Int
 B:Hp
 G1:Hp
 G:Hp
structure SpP(C:CA)(K:RP)(a:SpA)(H:Hp):Prop where
 p:Rp K (fr a.B a.G1) (.ref a.p) (.tuple (q7 a.c).L)
 o:Rp K (fr a.G1 a.G) (.ref a.o) (.list (YU a.a a.b))
 k1:dA a.B a.G1
 k2:dA a.G1 a.G
 n:dA (fr a.B a.G) H
 y:Yd C K a.g.P H a.g.c a.g.s a.g.tg
 v:mw a.g.s
 l:a.g.s.lg.length<1000000
 z:∀x,a.G x≠none->a.g.tg x=0
def EY(C:CA)(K:RP):Sp:=G3 (A:=SpA) (λa=>[.ref a.p,.ref a.o,.ref a.g.c.y]) (SpP C K) (λa H v b=>v=.non/\Ch a.B a.G H b)
#print c
def K7(D:hW K mg "_law_spoilt" kS ["program","outer","yard"])(OQ:mg "range" =none)(Oi:mg "isinstance" =none)(N5:mg "list" =none)(Oz:%[1,C.y,"log",[]|zt C K])(Ow:%[3,C.y,"view",[]|vJ C K]):%[4,"_law_spoilt",["program","outer","yard"]|EY C K]:=by
 refine D.I bv (λ_=>rfl) λa f h0 A ej s0 H Q E hr ek q=>?_;let{p,o,g,c,ca,cb,B,G1,G}:=a;let{rp,ro,kb,kg,kn,Y,vo,el,tz}:=ek;dsimp only at rp ro kb kg kn Y vo el tz q⊢;have hu:=bA hr;have big:10000000<=S6:=by unfold S6;decide
 have O:dA (fr B G1) H:=ai (fI kg) kn;let{_,ps,ep,hp,cs}:=rp.E;cases ep;let{_,os,eo,ho,em}:=ro.lst_inv;cases eo;have ct:=Y;clear Y;have cx:=O _ _ hp;exists _,(aa (cE Tl.never rfl (pe (pv 0)) (aZ 3 bv) (ae (av (eY Tb U1 U2 xn (pv 3))))) (aa (cE Tl.never rfl (bC (ar (pv 0) ac)) (bG 3 rfl (aC (aZ 4 bv) (aC (aZ 5 bv) (aC (aZ 6 bv) bB)))) (aa (cE Tl.never rfl (bC (pv 6)) (aZ 7 bv) (ae (cE Tl.never rfl (pe (pv 7)) (aZ 3 bv) (ae (aH (gK (fL (id:="isinstance") (r:=yD K) uy rfl Oi Xs (ay (pv 3) (qL (n:="list") (T:="list") rfl N5 Xs)))) (ae (av (eY Tb T9 Ua jj (pv 3)))) aE))))) (aa (av (a8 (pv 5) aq)) (ae (av (eY Tb T9 Ua jj (pv 6))))))) (aa (av (a8 (ar (ar (ar (pv 0) ac) ac) ac) ac)) (aa (av (a8 (ar (ar (pv 1) ac) ac) ac)) (aa (av (eY Tb T9 Ua jj (ar (ar (pv 1) ac) ac))) (aa (av (eY Tb U1 U2 xn (pv 1))) (aa (aT 8 bv (bL Ow hr (pv 2))) (aa (cE Tl.never rfl (Aa rfl OQ (ay ac ac)) (aZ 9 bv) (ae (av (a8 (ar (pv 8) (pv 9)) ac)))) (aa (cE Tl.never rfl (bC (j5 Co (ar (pv 8) ac) mI (mJ (yo um ac)))) (aZ 10 bv) (aa (av (a8 (ar (pv 10) ac) (am (ay ac ac)))) (ae (av (a8 (ar (pv 10) ac) (am (ay ac ac))))))) (aa (cE Tl.never rfl (bC (j5 Co (ar (pv 8) ac) mI (mJ (yo um ac)))) (aZ 11 bv) (ae (av (a8 (ar (pv 11) ac) (am (ay aq ac)))))) (ae (av (a8 (bL Oz hr (pv 2)) (am (gj ac (bT ac aq aq ac))))))))))))))));symm;refine ce ?_;unfold yl;symm;refine{{_,qu.of cx},wO (xs:=ps) (λi σ F=>(∃v3,σ= [!(.ref p),!(.ref o),!(.ref g.c.y),v3,none,none,none,none,none,none,none,none])/\Jv (fr B G1) H 0 F/\Jl (fr B G1) F) {{_,rfl},{λ_ _ _ h=>h,λa xs h=>O _ _ h,λa xs h=>{xs,O _ _ h,Xm _,λ_ _ _ _ h=>h}},λa xs h=>{xs,O _ _ h,rfl}} (λi σ H4 _ zz=>qu.of (zz.2.1.t _ _ hp)) ?_ ?_}
 .rintro i x σ H1 U ⟨⟨v3,rfl⟩,j1,l1⟩;let{d,W,rx}:=cK cs U;have:∃ds,d=.list ds:=by have:=QW W;simp only[Pg.L,RH,Q7,or_false]at this;rcases this with rfl|rfl|rfl|rfl<;>exact{_,rfl}
  let{ds,rfl}:=this;let{a,xs,rfl,ha,_}:=rx.lst_inv;let{ys,R,ly,my}:=j1.l _ _ ha;let{en,et,eu}:=l1 _ _ ha;cases R.symm.trans et;clear U;symm;refine{{_,ip.of R},_,_,rfl,rfl,R,λH2 m2=>?_};refine{{_,rfl},j1.mu ha m2 (Xm _) (by rw[RK];ext) λr z e v hv=>my r z e v (List.mem_reverse.mp hv),λb zs e=>?_};by_cases z:b=a;.subst z;rw[ha]at e;cases e;exact{_,m2.at_,by rw[RK];exact eu}
  .let{ws,Z,h2}:=l1 b zs e;exact{ws,m2.old Z z,h2}
 rintro σ H1 ⟨⟨v3,rfl⟩,j1,l1⟩;clear cx;let{v0,v1,v2,v4,rfl,_,_,rr,rh}:=_d cs;let{ra,h6,rfl,bn,cy}:=rr.lst_inv;let{h7,ew,rfl,M,al}:=rh.lst_inv;let{b6,bo,ex,d0}:=j1.l _ _ M;have mh:∀v∈b6,v∈ew:=by let{x,r,rfl,x1,_}:=al.cons_inv;let{t,_,rfl,_}:=x1.E;exact d0 _ _ rfl
 have ey:Lp (.list ((q7 c).hs.map hdD)):={_,_,_,_,rfl}
 have ez:Lp (.list ((q7 c).rs.map λt=>.tuple [.str t.1,.list (t.2.map .int)])):={_,_,_,_,rfl}
 have f3:=j1.t _ _ hp;symm;refine ce ?_;unfold cC;symm;refine{{_,ip.of bo},cQ (xs:=b6) (λi σ F=>(∃v3 v4 v5 v6 v7,σ= [!(.ref p),!(.ref o),!(.ref g.c.y),v3,v4,v5,v6,v7,none,none,none,none])/\Jv (fr B G1) H i F/\_o K (fr B G1) H1 F) {{_,_,_,_,_,rfl},j1,λ_ _ _ _ _ h=>h} (λi σ H4 _ zz=>ip.of (zz.2.2 _ _ _ rh ey bo)) ?_ ?_}
 .rintro i x σ H2 U ⟨⟨v3,v4,v5,v6,v7,rfl⟩,j2,s2⟩;let{d,W,rx}:=yf al (mh x (QW U));have i2:i<2:=by have Z:=(Xj U).1;have h2:=aX al;have h3:((q7 c).hs.map hdD).length=2:=rfl;ext
  let{{nm,ns,bd},hb,rfl}:=Xl W;have f4:=K6 _ hb;let{t,ts,rfl,ht,f5}:=Rp.E rx;let{w0,w1,w2,rfl,r0,r1,r2}:=_n f5;cases r0.str_inv;let{na,nx,rfl,d1,br}:=r1.lst_inv;let{ba,bx,rfl,bt,d2}:=Rp.lst_inv r2;let{b7,d3,_,f6}:=j2.l _ _ bt;have mb:∀v∈b7,v∈bx:=by
   cases bd with
   |nil=>exact absurd rfl f4
   |cons s r=>let{x,r,rfl,x1,_}:=d2.cons_inv;let{t,_,rfl,_}:=x1.E;exact f6 _ _ rfl
  have bu:=j2.t _ _ ht;clear U;symm;refine ce ?_;symm;refine{{_,ip.of d3},cQ (xs:=b7) (λj σ F=>(∃v3 v7,σ= [!(.ref p),!(.ref o),!(.ref g.c.y),v3,!(.str nm),!(.ref na),!(.ref ba),v7,none,none,none,none])/\Jv (fr B G1) H i F/\_o K (fr B G1) H1 F/\F ba=!(.lst b7)) {{_,_,rfl},j2,s2,d3} (λi σ H4 _ zz=>ip.of zz.2.2.2) ?_ ?_}
  .rintro j y σ H3 R ⟨⟨u3,u7,rfl⟩,j3,s3,b3⟩;let{d,W,ry}:=yf d2 (mb y (QW R));let{sm,f7,rfl}:=Xl W;let{t2,fs,rfl,bu,an}:=Rp.E ry;have f8:=j3.t _ _ bu;clear R;symm;refine ce ?_;unfold yl;symm;refine{{_,qu.of f8},wO (xs:=fs) (λk σ F=>(∃v3,σ= [!(.ref p),!(.ref o),!(.ref g.c.y),v3,!(.str nm),!(.ref na),!(.ref ba),!(.ref t2),none,none,none,none])/\Jv (fr B G1) H i F/\_o K (fr B G1) H1 F/\F ba=!(.lst b7)) {{_,rfl},j3,s3,b3} (λi σ H4 _ zz=>qu.of (zz.2.1.t _ _ bu)) ?_ ?_}
   .rintro k z σ H4 hz ⟨⟨x3,rfl⟩,j4,s4,b4⟩;let{d,W,rz}:=cK an hz;have W:=QW W;clear hz;have nl:=DY W;have nb:=HB W (Rj (f:=λs:Sm=>Ta.tuple s.L) f7);cases rz with
    |lst ha rs=>let{ys,R,_}:=j4.l _ _ ha;have rz:=Rp.lst ha rs;symm;refine{{_,ip.of R},_,_,rfl,rfl,R,λH5 m5=>?_};exact{{_,rfl},j4.mu ha m5 (Xm _) (Ra _) λ_ _ _ v hv=>(by cases hv),s4.mu rz nl m5,m5.old b4 (EX r2 rz nb.symm)}
    |tup ha rs=>have hc:=j4.t _ _ ha;symm
    |_=>symm
   .rintro σ H4 ⟨⟨x3,rfl⟩,j4,s4,b4⟩;exact{{_,_,rfl},j4,s4,b4}
  .rintro σ H3 ⟨⟨u3,u7,rfl⟩,j3,s3,b3⟩;let{he,f9,fa,_}:=j3.l _ _ d1;have hf:nx.length<=1:=by
    have Z:=aX br;rw[QL]at Z;have h2:ns.length<=1:=by
     have e:(q7 c).hs= [(VA.ofString "a",[],fo c),("b",[gX c],(gS c).1.map .pl)]:=rfl;rw[e]at hb;rcases Xi hb with z|z
     .cases z;exact Ra _
     .cases Xh z;exact Xm _
    dsimp only at Z;ext
   have c0:∀r z,nx=.ref r::z->False:=λr z e=>by
    subst e;cases ns with
    |nil=>cases br
    |cons n ns=>let{x,y,e,x1,_}:=br.cons_inv;cases e;cases x1
   symm;refine{by ext,λH4 m4=>?_};have j4:=j3.mu d1 m4 (R0 i) (by rw[QN,Q0];ext) λr z e=>absurd e (c0 r z);have s4:=s3.mu r1 BP m4;clear f9 fa j3 s3 b3 m4;let{hg,d4,_}:=j4.l _ _ bt;symm;refine{{_,ip.of d4},_,_,rfl,rfl,d4,λH5 m5=>?_};exact{{_,_,_,_,_,rfl},j4.mu bt m5 (Xm _) (Ra _) λ_ _ _ v hv=>(by cases hv),s4.mu r2 DX m5}
 rintro σ H2 ⟨⟨w3,w4,w5,w6,w7,rfl⟩,j2,s2⟩;have ex:b6.length<=2:=by have h2:=aX al;have h3:((q7 c).hs.map hdD).length=2:=rfl;ext
 let{x,r,rfl,x1,xe}:=jk.cons_inv (ds:=[]) cy;cases xe;let{rt,y0,y2,rfl,fd,y1,y3}:=x1.aw;cases y1.str_inv;let{la,d5,rfl,da,c7}:=y3.lst_inv;have er:H2 ra=!(.lst [.ref rt]):=by let{ys,Z,_,h3}:=j1.l _ _ bn;let{en,fe,fi}:=l1 _ _ bn;cases Z.symm.trans fe;let{y,rfl}:=List.length_eq_one_iff.mp fi;cases Xh (h3 _ _ rfl y (QX _));exact s2 _ _ _ rr ez Z
 have fl:=j2.t _ _ hp;have db:=j2.t _ _ fd;let{hh,fn,fp,_}:=j2.l _ _ da;have hj:d5.length=3:=aX c7;have c0:∀r z,d5=.ref r::z->False:=λr z e=>by subst e;let{x,y,e,x1,_}:=jk.cons_inv (d:=.int 1) c7;cases e;cases x1
 clear f3 bo;symm;refine{by ext,λH3 m3=>?_};have j3:=j2.mu da m3 (R0 _) (by rw[QN,Q0];ext) λr z e=>absurd e (c0 r z);clear fl db fn fp er m3 j2 s2 cy rr c7 y3 j1 l1 al rh mh d0 M bn;have c3:Ch B G H H3:=λa o e n=>j3.keep O e λxs z=>n xs (fI kg _ _ z);have b8:dA (fr G1 G) (fr B G):=zM kb λ_ _ h=>h;have old:∀a x,fr G1 G a=!x->H3 a=!x:=λa x e=>by
  have e1:=kn _ _ (b8 _ _ e);obtain⟨e2,⟨xs,rfl⟩|⟨xs,rfl,n⟩⟩:=hJ e;.exact j3.keep O e1 λys z=>by rw[O _ _ z]at e1;cases e1
  .exact j3.o _ _ (yg n) e1
 let{o0,o1,o2,rfl,z0,z1,_}:=_n em;let{t0,f0,rfl,ft,z0}:=z0.E;let{t1,f1,rfl,dd,z1}:=z1.E;let{a0,S,a2,a3,rfl,_,_,_,x0}:=_d z0;let{b0,b1,b2,b3,rfl,_,_,_,x1}:=_d z1;let{k0,e0,rfl,df,xx}:=x0.lst_inv;cases xx;let{k1,e1,rfl,c8,xx}:=x1.lst_inv;let{xv,xr,rfl,_,xx}:=xx.cons_inv;cases xx;have b9:=old _ _ ho;have dg:=old _ _ ft;have a9:=old _ _ df;symm;refine{by ext,λH4 m4=>?_};have c4:=c3.mu (b8 _ _ df) m4;have bb:=m4.old b9 λz=>by rw[z,a9]at b9;cases b9
 have dh:=m4.old (old _ _ dd) λz=>by have:=old _ _ dd;rw[z,a9]at this;cases this
 have ab:=m4.old (old _ _ c8) λz=>by have:=old _ _ c8;rw[z,a9]at this;cases this
 clear b9 dg a9;symm;refine{{_,ip.of ab},_,_,rfl,rfl,ab,λH5 m5=>?_};have c5:=c4.mu (b8 _ _ c8) m5;have cd:=m5.old bb λz=>by rw[z,ab]at bb;cases bb
 clear bb dh ab;symm;refine{{_,ip.of cd},_,_,rfl,rfl,cd,λH6 m6=>?_};have c6:=c5.mu (b8 _ _ ho) m6;clear cd m4 m5 m6 c3 c4 c5 old j3;have Y6:=ct.sub (c6.kt kn) λa x ne e=>c6 a x e λxs z=>ne (tz a (by rw[cu _ _ z];exact R7 _));have oy:=Y6.obj;symm;refine{{(g.P),g.c,g.s,g.tg},rfl,{(Y6),vo},λv H7 w7=>?_};let{k7,pv,l1,l2,vs,B1,B2,rfl,be,b5,fv,cj,fx,N,fy}:=w7;clear oy;symm;let{l3,l4,l5,rfl,q3,q4,q5}:=_n fy;let{_,af,e,Z,di}:=Rp.lst_inv fv;cases e;let{_,ag,e,h2,dj}:=Rp.lst_inv fx;cases e;let{l3,fz,rfl,h3,g3}:=Rp.lst_inv q3;let{l4,g4,rfl,h4,g5}:=Rp.lst_inv q4;let{l5,g6,rfl,h5,g7}:=Rp.lst_inv q5;have I:∀{X Y:Hp} {a:Tu} {xs:List V},fr X Y a=!(.lst xs)->X a=none:=λh=>by
  obtain⟨_,⟨_,z⟩|⟨_,_,n⟩⟩:=hJ h;.cases z
  .exact n
 have u1:=ai cj N;have g1:=u1 _ _ (cu _ _ Z);have g2:=N _ _ (cu _ _ h2);have b2:=I h2;have n1:=I Z;have n2:=_ao b5 b2;have g8:=ai b5 cj;have ad:af.length<=1000/\ag.length<=1000/\fz.length<=1000/\g4.length<=1000/\g6.length<=1000:=by have S:=aX di;have a2:=aX dj;have a3:=aX g3;have a4:=aX g5;have a5:=aX g7;rw[QL]at S a2 a3 a4 a5;dsimp only at S a2 a3 a4 a5;have:=vo.hl;have:=vo.al;have:=vo.pl;have:=vo.tl;have:=vo.sl;ext
 have ix:∀i:Nat,i<5->∃a xs,NB ([V.int g.s.now,V.ref l1,V.ref l2,V.ref l3,V.ref l4,V.ref l5]:List V) (1+(i:Int))=!(V.ref a)/\H7 a=!(.lst xs)/\H6 a=none/\xs.length<=1000/\(a=l1↔i=0)/\(a=l2↔i=1):=λi hi=>by
  have dl:l1≠l2:=λz=>by rw[<-z,cu _ _ Z]at b2;cases b2
  have f2:∀a xs,fr B2 H7 a=!(.lst xs)->a≠l1/\a≠l2/\H6 a=none:=λa xs e=>{λz=>(by have:=I e;rw[z,cj _ _ (cu _ _ Z)]at this;cases this),λz=>(by have:=I e;rw[z,cu _ _ h2]at this;cases this),_ao g8 (I e)}
  let{c1,c2,c3,c4,c5}:=ad;have e:i=0\/i=1\/i=2\/i=3\/i=4:=by ext
  rcases e with rfl|rfl|rfl|rfl|rfl;.exact{_,_,rfl,g1,n1,c1,by simp,by simp[dl]}
  .exact{_,_,rfl,g2,n2,c2,by simp[dl.symm],by simp}
  .exact{_,_,rfl,cu _ _ h3,(f2 _ _ h3).2.2,c3,by simp[(f2 _ _ h3).1],by simp[(f2 _ _ h3).2.1]}
  .exact{_,_,rfl,cu _ _ h4,(f2 _ _ h4).2.2,c4,by simp[(f2 _ _ h4).1],by simp[(f2 _ _ h4).2.1]}
  .exact{_,_,rfl,cu _ _ h5,(f2 _ _ h5).2.2,c5,by simp[(f2 _ _ h5).1],by simp[(f2 _ _ h5).2.1]}
 refine ce ?_;unfold Ec;symm;refine rS (lo:=1) (n:=5) (λi σ F=>(∃v9,σ= [!(.ref p),!(.ref o),!(.ref g.c.y),w3,w4,w5,w6,w7,!(.ref pv),v9,none,none])/\Kp H6 H7 i F/\F l1=!(.lst (af++if i=0 then []else [V.int 7]))/\F l2=!(.lst (ag++if i<=1 then []else [V.int 7]))) {{_,rfl},{k7,λ_ _ h=>h,λa xs h _=>{xs,h,Xm _}},by rw[Xf rfl,Rf];exact g1,by rw[Xf Xs,Rf];exact g2} ?_ ?_
 .rintro i σ Ha hi ⟨⟨v9,rfl⟩,u,S,a2⟩;let{a,xs,ea,g9,na,lx,i1,i2}:=ix i hi;let{ys,R,ly}:=u.l a xs g9 na;have gy:=u.t _ _ be;clear be;symm;refine{by ext,λHb mb=>?_};refine{{_,rfl},u.mu R na mb,?_,?_}
  .by_cases z:i=0
   .have e:=i1.mpr z;subst e z;rw[S]at R;cases R;rw[mb.at_];simp
   .rw [mb.old S λq=>z (i1.mp q.symm),Xe z,Xe (Nat.succ_ne_zero _)]
  .by_cases z:i=1
   .have e:=i2.mpr z;subst e z;rw[a2]at R;cases R;rw[mb.at_];simp
   .rw [mb.old a2 λq=>z (i2.mp q.symm)];by_cases y:i<=1;.rw [Xf y,Xf Xu]
    .rw [Xe y,Xe Xu]
 rintro σ H8 ⟨⟨v9,rfl⟩,u,S,a2⟩;rw[Xe Xs]at S a2;have dm:=u.t _ _ be;symm;refine ce ?_;unfold cC;symm;intro l9 H9 n9 k9 e9;rw[vZ]at e9;have dn:=k9 _ _ S;have dp:=u.same k9;have tl:=K5 ct;have o9:∀a xs,H7 a=!(.lst xs)->H6 a=none->l9≠a:=λa xs e z q=>by let{ys,h,_}:=u.l a xs e z;rw[<-q,n9]at h;cases h
 clear S a2 dm u;symm;refine{{_,ip.of e9},cQ (xs:=ag) (λi σ F=>(∃bf,σ= [!(.ref p),!(.ref o),!(.ref g.c.y),w3,w4,w5,w6,w7,!(.ref pv),v9,bf,none])/\Kp H6 H7 (5+2*i) F/\F l1=!(.lst (af++[V.int 7]))/\F l9=!(.lst ag)) {{_,rfl},dp,dn,e9} (λi σ H4 _ zz=>ip.of zz.2.2.2) ?_ ?_}
 .rintro i x σ Ha U ⟨⟨bf,rfl⟩,u,S,dr⟩;let{d,W,rx}:=cK dj U;let{{nm,ts},gb,rfl}:=Xl (QW W);let{bh,bq}:=tl _ gb;let{t,fs,rfl,ht,an}:=Rp.E rx;let{y0,y1,y2,rfl,x0,x1,x2}:=_n an;cases x0.int_inv;let{ha,b6,rfl,M,rh}:=x1.lst_inv;let{qa,hm,rfl,bg,rq}:=x2.lst_inv;have lh:=aX rh;have lq:=aX rq;rw[QL]at lh lq;have li:i<ag.length:=(Xj U).1;have gc:=ad.2.1;have dt:=u.t _ _ (N _ _ (cu _ _ ht));let{zs,hz,lz}:=u.l _ _ (N _ _ (cu _ _ M)) (_ao b5 (I M));have off:∀{a:Tu} {xs:List V},fr B1 B2 a=!(.lst xs)->l1≠a:=λh z=>by have:=I h;rw[<-z,cu _ _ Z]at this;cases this
  clear U;symm;intro p1 Hb nb J eb;have ak:=J _ _ hz;have bm:=u.same J;refine{zs,ak,by ext,λHc mc=>?_};have dx:=_ao b5 (I M);have cl:=_ao b5 (I bg);have cm:=bm.mu ak dx mc;have gd:=mc.old (J _ _ S) (off M);have gg:=mc.old (J _ _ dr) (o9 _ _ (N _ _ (cu _ _ M)) dx);have hq:=cm.t _ _ (N _ _ (cu _ _ ht));let{ws,hw,lw}:=cm.l _ _ (N _ _ (cu _ _ bg)) cl;clear dt hz ak bm mc u S dr J eb nb;symm;intro p2 Hd nd kd ed;have e3:=kd _ _ hw;refine{ws,e3,by ext,λHe me=>?_};exact{{_,rfl},(cm.same kd).mu e3 cl me,me.old (kd _ _ gd) (off bg),me.old (kd _ _ gg) (o9 _ _ (N _ _ (cu _ _ bg)) cl)}
 rintro σ i0 ⟨⟨bf,rfl⟩,u,S,_⟩;have e4:=u.t _ _ be;clear o9 e9 dp n9 k9 dn;symm;refine ce ?_;unfold cC;symm;intro e5 i3 e6 e7 bl;rw[vZ]at bl;have e8:=u.same e7;have ec:∀a xs,H7 a=!(.lst xs)->H6 a=none->e5≠a:=λa xs e z q=>by let{ys,h,_}:=u.l a xs e z;rw[<-q,e6]at h;cases h
 clear S e4 u;symm;refine{{_,ip.of bl},cQ (xs:=af) (λi σ F=>(∃co,σ= [!(.ref p),!(.ref o),!(.ref g.c.y),w3,w4,w5,w6,w7,!(.ref pv),v9,bf,co])/\Kp H6 H7 (5+2*ag.length+i) F/\F e5=!(.lst af)) {{_,rfl},e8,bl} (λi σ H4 _ zz=>ip.of zz.2.2) ?_ ?_};.rintro i x σ Ha U ⟨⟨co,rfl⟩,u,ee⟩;let{d,W,rx}:=cK di U;let{{hn,hv},gi,rfl}:=Xl (QW W);have bk:=vo.kn _ gi;let{t,fs,rfl,ht,an}:=Rp.E rx;let{y0,y1,y2,y3,rfl,_,_,_,x3}:=_d an;let{ka,i5,rfl,ef,rk}:=x3.lst_inv;have lk:=aX rk;rw[QL]at lk;dsimp only at bk lk;have li:i<af.length:=(Xj U).1;have ia:=ad.1;have gc:=ad.2.1;have dt:=u.t _ _ (u1 _ _ (cu _ _ ht));have eg:=u1 _ _ (cu _ _ ef);have cp:=I ef;let{zs,hz,lz}:=u.l _ _ eg cp;clear U;symm;intro p1 Hb nb J eb;have ak:=J _ _ hz;refine{zs,ak,by ext,λHc mc=>?_};exact{{_,rfl},(u.same J).mu ak cp mc,mc.old (J _ _ ee) (ec _ _ eg cp)}
 rintro σ ib ⟨⟨co,rfl⟩,u,_⟩;have eh:=Y6.same u.k;have oy:=eh.obj;have ck:=c6.same u.k;clear u ec bl e6 e7;symm;refine{{(g.P),g.c,g.s,g.tg},rfl,eh,λv ic gl=>?_};let{r,vs,rfl,go,gp,gs,gu}:=gl;have lf:=aX gu;dsimp only at lf;symm;intro ie ih ij ei ik;refine{vs,ei _ _ gs,by ext,λil gx=>?_};refine q _ _ {rfl,?_};exact λa x e n=>gx.old (ei _ _ (gp _ _ (ck a x e n))) λz=>by(have:=ck a x e n;rw[z,go]at this;cases this)
end
abbrev Ly(n:Nat)(d:Ta):Prop:=d.depth<=n
def mF{n:Nat}{l:List Ta}(h:∀d∈l,Ly n d):Ta.depthAll l<=n:=by
 induction l with
 |nil=>exact Ra _
 |cons x r a=>exact Nat.max_le.mpr {h x QO,a λd b=>h d (QM _ b)}
def fc{n:Nat}{l:List Ta}(h:∀d∈l,Ly n d):Ly (n+1) (.tuple l):=Rh (mF h)
def ff{n:Nat}{l:List Ta}(h:∀d∈l,Ly n d):Ly (n+1) (.list l):=Rh (mF h)
def hV:∀d∈([]:List Ta),Ly n d:=λ_ h=>by cases h
def aY(h:Ly n x)(t:∀d∈l,Ly n d):∀d∈x::l,Ly n d:=λd a=>by
 rcases Xi a with z|z;.simp_all
 .exact t d z
def dc{α:Type}{f:α->Ta}{l:List α}(h:∀x∈l,Ly n (f x)):∀d∈l.map f,Ly n d:=λd a=>by let{x,b,rfl}:=Xl a;exact h x b
def Ll(s:YS):Prop:=(∀r∈s.lg,Ly 1 r)/\∀a,s.st=!a->Ta.depthAll a=0
section
variable{s:YS}{h n:Int}{nm w:VA}{P:Pr}{sv:List Sv}
theorem Ll.lay(a:Ll s){ws:List Ta}(hw:‹Ta.depthAll ws=0›):Ll (s.lay h ws):={λr b=>by
 rcases Xk b with z|z;.exact a.1 r z
 .rw [Xh z];show max 0 (max 0 (Ta.depthAll ws))+1<=1;rw[hw];decide,a.2}
theorem Ll.st(a:Ll s){ds:List Ta}(b:‹Ta.depthAll ds=0›):Ll (s.af (!ds)):={a.1,λes e=>by cases e;exact b}
theorem Ll.wake{b:List Sv}:∀{s:YS},Ll s->Ll (s.wake nm b):=by
 induction b with
 |nil=>exact id
 |cons i r c=>exact λa=>c (s:=YS.wk nm _ i) a.lay
theorem Ll.given(a:Ll s):Ll (s.given h nm n sv):=by
 unfold YS.given;refine Ll.wake ?_;split;.exact a.lay
 .exact a
theorem Ll.gone{l:List (VA×Int×List Sv)}:∀{s:YS},Ll s->Ll (s.gone h l):=by
 induction l with
 |nil=>exact id
 |cons i r b=>exact λa=>b a.given
theorem Ll.bring(a:Ll s):Ll (s.bring nm n):=by
 unfold YS.bring;split;.exact a
 .exact Ll.wake (Ll.lay (s:=s.ae _) a)
theorem Ll.M(a:Ll s):Ll (s.M h w nm n).2.2:=by
 unfold YS.M
 repeat' split
 all_goals exact a
theorem Ll.ask(a:Ll s):Ll (s.ask h w nm n).2:=by
 unfold YS.ask;dsimp only;split;.exact a.M.lay.wake
 .exact a.M.lay
theorem Ll.give(a:Ll s):Ll (s.give h nm n):=by
 unfold YS.give
 repeat' split
 .exact a
 .exact Ll.given (s:=s.X _) a
 .exact a
theorem Ll.O(a:Ll s):Ll (s.O h nm n):=by unfold YS.O;split<;>exact a
theorem Ll.draw(a:Ll s):Ll (s.draw P nm).2:=by unfold YS.draw;split<;>exact a
theorem Ll.begin(a:Ll s){xs:List Int}:Ll (s.begin P nm xs):=by
 unfold YS.begin;split;.exact a.st
 .exact Ll.lay (s:=(s.az _).R _) a
theorem Ll.deed(a:Ll s){ns:List VA}{xs:List Int}:Ll (s.deed P h w ns xs).2:=by
 unfold YS.deed;dsimp only;split;.exact a.lay (ws:=[.str _,.int _])
 split;.refine Ll.gone ?_;exact Ll.lay (s:=s.R (s.hd.filter λp=>decide (p.1≠h))) (ws:=[.str _]) a
 split
 .split
  .exact a
  .exact a.ask
 split;.exact a.give
 split;.exact a.O
 split;.exact a.draw.O
 split;.exact a.lay
 .exact a.begin
theorem Ll.goOn{b:List Cs}(f:Nat){s:YS}(a:Ll s)(o:Option Nat)(st:List Int):Ll (s.goOn P h b f o st):=by
 induction f generalizing s o st with
 |zero=>cases o<;>(unfold YS.goOn;exact a)
 |succ f c=>
  cases o with
  |none=>unfold YS.goOn;exact a
  |some i=>
   unfold YS.goOn;split
   .refine c ?_ _ _;unfold YS.aq;split;.exact a
    .exact a
    .dsimp only;split;.exact a.st
     .exact a
    .exact a.deed
    .unfold YS.an;split;.exact a
     .refine a.st ?_;unfold EE;split<;>rfl
   .exact a
theorem Ll.step(a:Ll s):Ll (s.step P):=by
 unfold YS.step;split;.exact a
 rename_i m _;dsimp only;have b:Ll (if s.now<m then(s.a0 m).ac 0 else s):=by split<;>exact a
 generalize (if s.now<m then(s.a0 m).ac 0 else s)=d at b;split;.exact b.st
 have c:Ll (d.ac (d.hap+1)):=b;generalize d.ac (d.hap+1)=e at c;split
 .unfold YS.U;split;.exact c
  .refine Ll.begin ?_;exact c
  .refine Ll.bring ?_;exact c
 .split
  .exact c
  .unfold YS.Z
   repeat' split
   .exact c
   .exact c
   .refine Ll.goOn _ ?_ _ _;exact c
theorem Ll.stN(a:Ll s)(n:Nat):Ll (stN P s n):=by
 induction n with
 |zero=>exact a
 |succ n b=>exact b.step
end
def mz{b n:Nat}(h:b<=n):max 0 b<=n:=Nat.max_le.mpr {Ra _,h}
def mo{b n:Nat}(h:b<=n):max b 0<=n:=Nat.max_le.mpr {h,Ra _}
def Mt(e:Tr):Ly (e.depth+1) (Xv e):=by
 induction e with
 |bin o a b c d=>exact Rh (mz (Nat.max_le.mpr {Xn c (Rh (Nat.le_max_left _ _)),mo (Xn d (Rh (Nat.le_max_right _ _)))}))
 |_=>exact Xm _
def zN{l:List Tr}(d:∀e∈l,e.depth<2):Ta.depthAll (l.map Xv)<=2:=mF (dc λe a=>Xn (Mt e) (d e a))
def EZ{p:Pl}(d:∀e∈p.es,e.depth<2):Ta.depthAll p.L<=3:=by
 have:=zN d;cases p with
 |one w k x e=>have:=zN d;have:max (Xv e).depth 0<=2:=this;exact mz (mz (mz (Nat.le_succ_of_le this)))
 |wait k e=>have:max (Xv e).depth 0<=2:=this;exact mz (mz (Nat.le_succ_of_le this))
 |draw k x r=>exact Ra _
 |start k x es=>exact mz (mz (mz (mo (Rh this))))
def Mv{s:Sm}(d:s.depth 2):Ta.depthAll s.L<=5:=by
 cases s with
 |pl p=>exact Xn (EZ d.1) Xs
 |wh k sg a b x=>have c:max (Xv a).depth (max (Xv b).depth 0)<=2:=zN d.1;have e:Ta.depthAll (x.map X1)<=4:=mF (dc λp f=>Rh (EZ (d.2 p f)));exact mz (mz (mz (Nat.max_le.mpr {Xn (Nat.max_le.mp c).1 Xs,Nat.max_le.mpr {Xn (Nat.max_le.mp (Nat.max_le.mp c).2).1 Xs,mo (Rh e)}})))
def Mw(l:List VA):Ta.depthAll (l.map .str)<=0:=mF (dc λ_ _=>Ra _)
def Mx(c:Cs):Ta.depthAll c.L<=1:=by
 cases c with
 |deed w ns=>have:=Mw ns;exact mz (mz (mo (Rh this)))
 |_=>exact Ra _
def Mz(c:Int):Ly 10 (.tuple (q7 c).L):=by have k:=qD c;refine fc (aY (Q3 rfl) (aY (Q3 rfl) (aY (Q3 rfl) (aY (ff (n:=8) (dc λh a=>?_)) hV))));exact fc (n:=7) (aY (Ra _) (aY (ff (n:=6) (dc λ_ _=>Ra _)) (aY (ff (n:=6) (dc λs hs=>Rh (Mv ((k.2 h a).dp s hs)))) hV)))
def MA(c:Int):Ly 5 (.tuple ((Zt (q7 c)).map λh=>cdD h.1 h.2)):=fc (dc λh _=>fc (n:=3) (aY (Ra _) (aY (fc (n:=2) (dc λk _=>Rh (Mx k))) (aY (fc (n:=2) (dc λp _=>Q3 rfl)) hV))))
def zP{n:Nat}(l:List (Int×Int)):Ly (n+2) (.list (l.map ZC)):=ff (dc λp _=>Rh (Ra n))
def K8{P:Pr}{s:YS}(a:Ll s):Ly 6 (vY P s):=by
 have b:∀{α:Type} (f:α->Int) (g h:α->List (Int×Int)) (l:List α),Ly 4 (.list (l.map λp=>.tuple [.int (f p),.list ((g p).map ZC),.list ((h p).map ZC)])):=λf g h l=>ff (dc λp _=>fc (aY (Ra _) (aY (zP _) (aY (zP _) hV))));refine fc (aY (ff λr c=>Xn (a.1 r c) Xs) (aY (fc (aY (Ra _) (aY (ff (dc λp _=>fc (n:=2) (aY (Ra _) (aY (Ra _) (aY (Ra _) (aY (ff (dc λz _=>Xm _)) hV)))))) (aY (b _ _ _ _) (aY (b _ _ _ _) (aY (ff (dc λp _=>Ra _)) (aY (zP _) hV))))))) (aY ?_ (aY ?_ hV))))
 .cases e:s.st with
  |none=>exact Ra _
  |some d=>exact Rh (Xn (Sh (a.2 d e)) (Ra _))
 .cases s.next P<;>exact Ra _
theorem dZ:∀k,stN P (s.step P) k=stN P s (k+1)
 |0=>rfl
 |k+1=>congrArg (YS.step P) (dZ k)
def YK(a b:Int):List Ot:=[.start 0 "a" [],.start a "b" [2],.bring b "s" 3]
structure RnK(P:Pr)(s:YS):Prop where
 st:qr P s
 v:mw s
 lg:s.lg.length<1000000
 d:s.done<=P.out.length
 ly:Ly 6 (vY P s)
def K9(c:Int){a b:Int}(i:0<=a/\a<=10)(j:0<=b/\b<=10):∀k,k<=21->RnK (ja (q7 c) (YK a b)) (stN (ja (q7 c) (YK a b)) (ys0 (q7 c)) k):=λk hk=>by
 have n:GP (gX c) (ja (q7 c) (YK a b)):=Mq λo e=>by
  unfold YK at e;simp only[RH,Q7,or_false]at e;rcases e with rfl|rfl|rfl
  .exact{by decide,by decide,.inl {_,rfl}}
  .exact{i.1,i.2,.inr (.inl {_,rfl})}
  .exact{j.1,j.2,.inr (.inr {_,rfl})}
 have p:∀k:Nat,k<=21->∃D,D<=(ja (q7 c) (YK a b)).out.length/\Bt (XX (gX c)) (X0 (ja (q7 c) (YK a b))) (10+1000000*(k:Int)) D (21000*k) (stN (ja (q7 c) (YK a b)) (ys0 (q7 c)) k):=λk=>by
  induction k with
  |zero=>exact λ_=>{0,Ra _,Np c}
  |succ k r=>intro hk;let{D,d,b}:=r Xu;let{_,u,f,v}:=yd n b Xu Xu d Xu;exists u,f;rw[show(10+1000000*((k+1:Nat):Int))=10+1000000*(k:Int)+1000000 by ext,show 21000*(k+1)=21000*k+21000 by ext];exact v
 let{D,d,b}:=p k hk;let{x,_}:=yd n b Xu Xu d Xu;let{q,y,_}:=b.iv;exact{x,y.view,by have:=b.lg;ext,by rw[b.dn];exact d,K8 (Ll.stN {λ_ h=>(by cases h),λ_ h=>(by cases h)} k)}
theorem MB{K:RP}{B G:Hp}{v:V}{d:Ta}(h:Rp K (nw B G) v d):Rp K (fr B G) v d:=
 Rp.rec (motive_1:=λv d _=>Rp K (fr B G) v d) (motive_2:=λv d _=>jk K (fr B G) v d) .non .bl .int .str (λh _ i=>.lst (cL (dS h).2 (dS h).1) i) (λh _ i=>.tup (dH (dS h).2) i) .nil (λ_ _ i j=>.cons i j) h
def rP{K:RP}{H:Hp}{a:Tu}{y:V}{d:Ta}{b:VK}(c:Rp K H (.ref a) d)(e:Rp K H y d)(f:d.depth<=64)(k:b (.bl false) H):Jm K (.ref a) y H b:={d,c,e,f,{(a),rfl},k}
def un(tg:Tu->Nat)(H:Hp):Hp:=λa=>if tg a=0 then H a else none
theorem zQ(z:tg a=0)(e:H a=!o):un tg H a=!o:=by unfold un;rw[Xf z];exact e
def BQ(e:un tg H a=!o):tg a=0/\H a=!o:=by
 unfold un at e;split at e;.rename_i z;exact{(z),e}
 .cases e
def zR(e:un tg H a≠none):tg a=0:=by
 cases q:un tg H a with
 |none=>exact absurd q e
 |some o=>exact(BQ q).1
def E1:dA (un tg H) H:=λ_ _ e=>(BQ e).2
def E2(k:dA G H)(n:∀x,tg x≠0->G x=none):dA G (un tg H):=λa o e=>by
 rcases Q6 (tg a)with z|z;.exact zQ z (k _ _ e)
 .rw [n a (Ri z)]at e;cases e
noncomputable def ZE(B G D:Hp):Hp:=λa=>open Classical in if ∃b,fr B G a=some (.lst b)then none else D a
def BR(n:∀xs,fr B G a≠!(.lst xs))(e:D a=!o):ZE B G D a=!o:=by unfold ZE;rw[Xe (λ⟨xs,z⟩=>n xs z)];exact e
def yh(e:ZE B G D a=!o):(∀xs,fr B G a≠!(.lst xs))/\D a=!o:=by
 unfold ZE at e;split at e;.cases e
 .simp_all
def La(e:B a=!o):∀xs,fr B G a≠!(.lst xs):=λxs z=>by
 obtain⟨_,⟨_,z⟩|⟨_,_,n⟩⟩:=hJ z;.cases z
 .grind
#print c
def DZ(j:dA H H1)(ao:Ag.AO C.l C.h H1 kd ag al [])(r:H ag=none)(v:H al=none)(e:H1 y=none)(n:dA H1 H2)(o:H2 y=!(.ins C.y dx [])):∃tg,Bn H H2 y tg (λG=>Ag.AO C.l C.h G kd ag al [])/\tg ag=5/\tg al=5:=by
 have b:=zg ao;let{x,e1,_}:=b ag QO;let{A,e2,_}:=b al (QM _ QO);have p:ag≠y:=λz=>by rw[z,e]at e1;cases e1
 have q:al≠y:=λz=>by rw[z,e]at e2;cases e2
 have d:=tY ao λc u _ h=>n _ _ h;refine{λa=>if a=y then 1 else if a=ag\/a=al then 5 else 0,{j.trans n,Xf rfl,{_,_,_,o},λa h=>?_,λa h=>?_,λG B s z=>tY z λc u hc f=>?_,d},(Xe p).trans (Xf (.inl rfl)),(Xe q).trans (Xf (.inr rfl))}
 .by_cases c:a=y
  .rw [c];exact{_,o,trivial}
  .by_cases i:a=ag\/a=al
   .exact zg d a (by rcases i with rfl|rfl<;>simp)
   .simp_all
 .by_cases c:a=y
  .rw [c];exact j.free e
  .by_cases i:a=ag\/a=al
   .rcases i with rfl|rfl
    .exact r
    .exact v
   .simp_all
 .rcases hc with rfl|rfl|⟨E,rfl⟩
  .exact s.2 _ _ p f
  .exact s.2 _ _ q f
  .exact s.kt _ _ f
def Nq(Y:Yd C K Pp H c s tg):YI C K Pp (un tg H) H 1 [.ref c.y] (λ_=>(c,tg)) λ_=>s:=⟨E1,λi b=>by cases Nat.lt_one_iff.mp b;exact{rfl,Y,λa=>zR},λi j b d e=>by ext⟩
def Nr(Y:Yd C K Pp H c s tg)(d:Yd C K Pp H c' s tg')(o:∀a,tg a≠0->tg' a=0):YI C K Pp (un (λa=>tg a+tg' a) H) H 2 [.ref c.y,.ref c'.y] (λi=>if i=0 then(c,tg)else(c',tg')) λ_=>s:=by
 refine{E1,λi b=>?_,λi j b e f a=>?_}
 .match i,b with
  |0,_=>exact{rfl,Y,λa h=>by have:tg a+tg' a=0:=zR (tg:=λa=>tg a+tg' a) h;show tg a=0;ext}
  |1,_=>exact{rfl,d,λa h=>by have:tg a+tg' a=0:=zR (tg:=λa=>tg a+tg' a) h;show tg' a=0;ext}
 .have n:∀a,tg' a≠0->tg a=0:=λa h=>by
   rcases Q6 (tg a)with z|z
   .exact z
   .exact absurd (o a (Ri z)) h
  match i,j,b,e,f with
  |0,0,_,_,z=>simp_all
  |1,1,_,_,z=>simp_all
  |0,1,_,_,_=>exact o a
  |1,0,_,_,_=>exact n a
theorem YI.ch(m:YI C K Pp D H n xs cs st)(c:Ch B G H H')(k:dA (fr B G) D):YI C K Pp (ZE B G D) H' n xs cs st:=by
 refine{λa o e=>c a o (m.d _ _ (yh e).2) (yh e).1,λi d=>?_,m.o};let{f,Y,b}:=m.y i d;refine{f,Y.sub (c.kt (ai k m.d)) λa o z e=>c a o e λj q=>z (b a (by rw[k _ _ q];exact R7 _)),λa h=>b a λq=>h ?_};unfold ZE;split;.rfl
 .exact q
def MC(a b:Int):Sz 7 (.list (YU a b)):=by
 have nil:∀{n:Nat},∀x∈([]:List Ta),Sz n x:=λx h=>by cases h
 have cons:∀{n:Nat} {y:Ta} {l:List Ta},Sz n y->(∀x∈l,Sz n x)->∀x∈y::l,Sz n x:=λh t x c=>by
  rcases Xi c with z|z;.simp_all
  .exact t x z
 exact .list (by show 3<=1000;decide) (cons (.tuple (by show 4<=1000;decide) (cons (.int _) (cons (.str _) (cons (.str _) (cons (.list (by show 0<=1000;decide) nil) nil))))) (cons (.tuple (by show 4<=1000;decide) (cons (.int _) (cons (.str _) (cons (.str _) (cons (.list (by show 1<=1000;decide) (cons (.int _) nil)) nil))))) (cons (.tuple (by show 4<=1000;decide) (cons (.int _) (cons (.str _) (cons (.str _) (cons (.int _) nil))))) nil)))
def Lb(a b:Int):frz (.list (YU a b))=.tuple ((YK a b).map Ot.D):=by rfl
def zS(e:dA H0 H1)(ao:Ag.AO C.l C.h H1 kd ag al [])(f:H0 ag=none)(h:H0 al=none)(i:H1 y=none)(j:dA H1 H2)(d:H2 y=!(.ins C.y dx []))(n:Rp K H0 (.ref pp) (.tuple (q7 c).L))(o:Rp K H0 (.ref po) (.list (YU a b))):∃tg,YaP C K {y,dx,pp,po,ag,al,kd,H0,q7 c,YK a b,YU a b,tg} H2/\PgK 2 (q7 c)/\CdK (q7 c):=by let{tg,b,p,q}:=DZ e ao f h i j d;exact{tg,{b,d,p,q,n,KZ c,o,MC _ _,Lb _ _},qD c,KY c}
end
def D5(ns:List Int)(lo a:Option Int):∃b:List Int,dO (ns.map V.int) lo a=b.map V.int/\b.length<=ns.length:=by
 have e:dO (ns.map V.int) lo a=((ns.drop (_T.sIx (ns.map V.int).length 0 lo)).take (_T.sIx (ns.map V.int).length (ns.map V.int).length a-_T.sIx (ns.map V.int).length 0 lo)).map V.int:=by unfold dO;rw[<-Sx,<-Sw]
 exists _,e;rw[Rv,RS];exact Xn (RV _ _) (SZ _ _)
theorem E3(h:X lo=!(.lst [.ref ta,.ref tb,.ref tc]))(c:X ta=!(.tup [.int 0,.str "start",.str "a",.ref la]))(d:X la=!(.lst []))(e:X tb=!(.tup [.int a,.str "start",.str "b",.ref lb]))(f:X lb=!(.lst [.int 2]))(i:X tc=!(.tup [.int b,.str "bring",.str "s",.int 3])):Rp K X (.ref lo) (.list (YU a b)):=
 .lst h (.cons (.tup c (.cons (.int _) (.cons (.str _) (.cons (.str _) (.cons (.lst d .nil) .nil))))) (.cons (.tup e (.cons (.int _) (.cons (.str _) (.cons (.str _) (.cons (.lst f (.cons (.int _) .nil)) .nil))))) (.cons (.tup i (.cons (.int _) (.cons (.str _) (.cons (.str _) (.cons (.int _) .nil))))) .nil)))
section
variable{C:CA}{P:S9}{w:Td}{K:RP}{mg:VA->Option S5}{base:Heap}
def Lc{fa:Tu}{fd:VB}(F:YQ K "law" "law" y9 fa fd)(OE:%[4,"_law_program",["cell"]|KI K])(OM:%[9,"code_of",["program"]|DN K 2])(Pi:%[1,"ListAgenda",C.l,[]|Ag._6 C.l])(OW:%[1,"HeapAgenda",C.h,[]|Ag._5 C.h])(OV:%[20,"CodeYard",C.y,["program","outer","agenda"]|Kq C K 2])(Om:%[10,C.y,"step",[]|vG C K])(OX:%[11,"_law_steps",["yards","steps"]|K1 C K])(Pc:%[4,"_law_spoilt",["program","outer","yard"]|EY C K])(Pz:mg "enumerate" =none):fh P w K mg base Yb 24 fa fd ["script"] (yE K):=by
 refine F.ok dG (λvs H Q E h=>?_) (λel A da s H vs Q E B h=>?_);.let{a,ns,rfl,_}:=h;rfl
 let{a,ns,rfl,hS,en,q}:=h;have hu:=bA B;have a0:=B.units;exists _,(aa (cE Tl.never rfl (Fu rfl Pz (aD (j5 MW (pv 0) mI (mJ ac)))) (bG 2 rfl (aC (aZ 1 dG) (aC (aZ 2 dG) bB))) (aa (aT 3 dG (aQ (aW (am (bT ac aq aq (aQ bJ))) (am (bT (aM eX (pv 2) ac) aq aq (aQ (aD ac)))) (am (bT (aM bE ac (aM eX (pv 2) ac)) aq aq ac))))) (aa (aT 4 dG (aB OE B rfl (aD (pv 2)))) (aa (aT 5 dG (aB OM B rfl (aD (pv 4)))) (aa (aH (PW.pt (tO (aK (uR a0) (aB OM B rfl (aD (pv 4))) (pv 5)) (o6 (aK (uR a0) (pv 4) (aB OE B rfl (aD (pv 2))))))) (ae (aw cX)) aE) (aa (aT 6 dG (fj OV B rfl (aW (pv 4) (pv 3) (lG OW B rfl)))) (aa (av (bL Om B (pv 6))) (aa (aT 7 dG (ar (aB OX B rfl (ay (aQ (aD (pv 6))) ac)) ac)) (aa (aT 8 dG (aB OE B rfl (aD (pv 2)))) (aa (aT 9 dG (aQ (aW (am (bT ac aq aq (aQ bJ))) (am (bT (aM eX (pv 2) ac) aq aq (aQ (aD ac)))) (ar (pv 3) ac)))) (aa (aT 10 dG (aQ (ay (fj OV B rfl (aW (pv 8) (pv 9) (lG Pi B rfl))) (fj OV B rfl (aW (pv 8) (pv 9) (lG OW B rfl)))))) (aa (cE Tl.never rfl (bC (pv 10)) (aZ 11 dG) (ae (av (bL Om B (pv 11))))) (aa (av (aB Pc B rfl (aW (pv 8) (pv 9) (ar (pv 10) (aM eX (pv 1) ac))))) (ae (aH (aK (uR a0) (aB OX B rfl (ay (pv 10) ac)) (aQ (ay (pv 7) (pv 7)))) (ae (aw cX)) aE))))))))))))))) (ae (aw cX)));refine ce ?_;simp only[Em];symm;let{ms,em,lm}:=D5 ns none (!10);refine{a,_,rfl,hS,λp1 H1 n1 g1 e1=>?_};rw[em]at e1;refine{p1,rfl,rfl,{_,ip.of e1},Cq (ms.map V.int) (λi σ H'=>(∃x1 x2 x3 x4 x5 x6 x7 x8 x9 xa xb,σ= [!(.ref a),x1,x2,x3,x4,x5,x6,x7,x8,x9,xa,xb])/\dA H1 H') {{_,_,_,_,_,_,_,_,_,_,_,rfl},λ_ _ h=>h} (λi σ H2 _ z=>ip.of (z.2 _ _ e1)) ?_ ?_}
 .rintro i x σ H2 p3 H3 hx ⟨⟨x1,x2,x3,x4,x5,x6,x7,x8,x9,xa,xb,rfl⟩,g2⟩ n3 g3 h3;obtain⟨c,rfl⟩:∃c:Int,x=V.int c:=by rw[QY]at hx;let{n,_,e}:=Xq hx;exact{(n),e.symm}
  clear hx;have S3:=g2.trans g3;symm;intro la Ha na ka ea;symm;intro ta Hb nb kb eb;symm;intro lb Hc nc kc ec;symm;intro tb Hd nd kd ed;symm;intro tc He ne ke ee;symm;intro lo Hf nf kf ef;symm;have b6:=ai kb (ai kc (ai kd (ai ke kf)));have bm:=ai kc (ai kd (ai ke kf));have b7:Hf tc=!(.tup [.int (4+c%5),.str "bring",.str "s",.int 3]):=kf _ _ ee;have ro:Rp K Hf (.ref lo) (.list (YU (c%4) (4+c%5))):=E3 ef (bm _ _ eb) (b6 _ _ ea) (ai ke kf _ _ ed) (ai kd (ai ke kf) _ _ ec) b7;have SF:dA H1 Hf:=ai S3 (ai ka b6);clear b6 bm kb kc kd ke kf na nb nc nd ne nf ea eb ec ed ee ka S3 g2 g3 n3 h3;refine{c,rfl,trivial,λv Hg wg=>?_};let{kg,rg}:=wg;have R:=Rp.mono Es rg;have⟨pp,_,db,_,_⟩:=R.E;subst db;refine{(.ref pp,q7 c),rfl,{R,qD c},λv Hh wh=>?_};let{q1,rfl,kh,f1}:=wh;refine{(.ref pp,q7 c),rfl,{Rp.mono kh R,qD c},λv Hi wi=>?_};let{q2,rfl,ki,f2}:=wi;refine rP (Rp.mono rm f2) (Rp.mono (ai rm ki) f1) (Xn (MA c) Xs) ?_;exists false,rfl;symm;refine{c,rfl,trivial,λv Hj wj=>?_};let{kj,rj}:=wj;have S:=ai kh (ai ki kj);refine rP (Rp.mono S R) (Rp.mono Es rj) (Xn (Mz c) Xs) ?_;exists false,rfl;clear f1 f2 rj;symm;intro ag dd Hk b8 bn kk bo bq;refine{ag,dd,rfl,bo,λal Hl br kl ha=>{rfl,?_}};have Sl:dA Hj Hl:=λz u h=>kl z u (λy=>by rw[y,b8]at h;cases h) (kk _ _ h);have b0:=_ao kk br;symm;intro y dx Hm ny df km hy dg;let{dh,J}:=zS (C:=C) (K:=K) Sl (Ag.HA.ao ha) b8 b0 ny km hy (Rp.mono S R) (Rp.mono (ai kg S) ro);refine{{y,dx,pp,lo,ag,al,false,Hj,q7 c,YK (c%4) (4+c%5),YU (c%4) (4+c%5),dh},rfl,J,λv Hn wn=>?_};let{rfl,Sn,cy,tg,ey,Y,a9}:=wn;refine{rfl,?_};dsimp only at Sn ey Y a9;subst ey;clear J hy dg km ny df Sl b0 ha kl br bo bq kk b8 bn;have Z:=K9 c (a:=c%4) (b:=4+c%5) Xu Xu;generalize eP:ja (q7 c) (YK (c%4) (4+c%5))=I at Z Y;have oy:=Y.obj;symm;refine{{I,cy,ys0 (q7 c),tg},rfl,{Y,(Z 0 Xs).st},λv Ho wo=>?_};let{rfl,f,d,T,Y1,ab}:=wo;dsimp only at T Y1 ab;have Sjo:dA Hj Ho:=λa o e=>by
   rcases Q6 (tg a)with z|z;.exact ab.1 a o z (Sn _ _ e)
   .rw [a9 a (Ri z)]at e;cases e
  have U:∀x,d x≠0->Hj x=none:=λx h=>by
   rcases ab.2 x h with z|z;.exact a9 x z
   .exact _ao Sn z
  clear oy ab Sn a9 Y;symm;intro l1 di bt b9 ba;rw[<-T]at ba;have t1:d l1=0:=by
   rcases Q6 (d l1)with z|z;.exact z
   .let{o,e,_}:=Y1.tg.own l1 (Ri z);rw[bt]at e;cases e
  refine{{l1,[.ref f.y],1,20,un d di,λ_=>(f,d),(ys0 (q7 c)).step I,I},rfl,{Nq (Y1.same b9),zQ t1 ba,{rfl,(show 1<=10 by decide),(show 20<=100 by decide)},λk hk=>?_,?_,?_},λv Hq wq=>?_};.dsimp only at hk⊢;rw[dZ];exact(Z _ Xu).st
  .dsimp only;rw[dZ];exact(Z _ Xs).v
  .dsimp only;rw[dZ];exact(Z _ Xs).d
  let{kq,rq}:=wq;dsimp only at kq rq;have Sq:dA Hj Hq:=ai (E2 (ai Sjo b9) U) kq;let{lq,vq,rfl,hq,bu}:=rq.lst_inv;let{dj,vq,rfl,bx,c0}:=jk.cons_inv (ds:=[]) bu;cases c0;clear bu rq kq t1 ba b9 bt U Sjo Y1 T;symm;have SQ:dA H1 Hq:=ai SF (ai kg (ai S Sq));have bb:dA Hf Hq:=ai kg (ai S Sq);clear Sq S kg kh ki kj rg R ro SF hq;refine{c,rfl,trivial,λv G1 wr=>?_};let{kr,rr}:=wr;have bd:=MB rr;have⟨ph,_,dl,_,_⟩:=bd.E;subst dl;clear rr;intro lc Hs c1 ks es;symm;intro td Ht dm kt et;symm;intro ld Hu nu ku eu;symm;intro te Hv nv kv ev;have dn:=kv _ _ (ku _ _ (kt _ _ (ks _ _ (kr _ _ (bb _ _ ef)))));symm;intro lg G nG kG eG;have ad:dA G1 G:=ai ks (ai kt (ai ku (ai kv kG)));have c2:Rp K (fr G1 G) (.ref lg) (.list (YU (c%4) (4+c%5))):=E3 (cL eG (_ao (ai ks (ai kt (ai ku kv))) nG)) (dH (kG _ _ (kv _ _ (ku _ _ et)))) (cL (kG _ _ (kv _ _ (ku _ _ (kt _ _ es)))) c1) (dH (kG _ _ ev)) (cL (kG _ _ (kv _ _ eu)) (_ao (ai ks kt) nu)) (dH (ad _ _ (kr _ _ (bb _ _ b7))));have be:Rp K G (.ref ph) (.tuple (q7 c).L):=Rp.mono (ai cu ad) bd;have bf:Rp K G (.ref lg) (.list (YU (c%4) (4+c%5))):=Rp.mono cu c2;clear dn nv ev nu eu dm et c1 es ks kt ku kv kG eG nG bb ef b7;symm;intro c3 dp eo a1 c4 bg b1 c5;refine{c3,dp,rfl,b1,λdr dt b2 c6 c7=>{rfl,?_}};have S1:dA G dt:=λz u h=>c6 z u (λy=>by rw[y,a1]at h;cases h) (bg _ _ h);have a2:=_ao bg b2;symm;intro y1 e0 ep c8 ca cb cd cj;let{e2,J}:=zS (C:=C) (K:=K) S1 (Ag._M.ao c7) a1 a2 c8 cb cd be bf;refine{{y1,e0,ph,lg,c3,dr,true,G,q7 c,YK (c%4) (4+c%5),YU (c%4) (4+c%5),e2},rfl,J,λv bh w1=>?_};let{rfl,O,f,d,T,Y1,U}:=w1;refine{rfl,?_};dsimp only at O T Y1 U;subst T;rw[eP]at Y1;clear J cd cj cb c8 ca S1 a2 c7 c6 b2 b1 c5 bg a1 c4;symm;intro ck e3 er a3 cl bl b3 cm;refine{ck,e3,rfl,b3,λe4 e5 b4 co cp=>{rfl,?_}};have S2:dA bh e5:=λz u h=>co z u (λy=>by rw[y,a3]at h;cases h) (bl _ _ h);have a4:=_ao bl b4;symm;intro y2 e6 ew cs ct cx d0 d1;let{e7,J}:=zS (C:=C) (K:=K) S2 (Ag.HA.ao cp) a3 a4 cs cx d0 (Rp.mono O be) (Rp.mono O bf);refine{{y2,e6,ph,lg,ck,e4,false,bh,q7 c,YK (c%4) (4+c%5),YU (c%4) (4+c%5),e7},rfl,J,λv e8 w2=>?_};let{rfl,W,r,p,d2,Y2,af}:=w2;refine{rfl,?_};dsimp only at W d2 Y2 af;subst d2;rw[eP]at Y2;clear J d0 d1 cx cs ct S2 a4 cp co b4 b3 cm bl a3 cl;symm;intro X He ak an d3;have a5:∀x,d x≠0->∃o,bh x=!o:=λx h=>by let{o,e,_}:=Y1.tg.own x h;exact{(o),e}
  have b5:∀x,p x≠0->∃o,e8 x=!o:=λx h=>by let{o,e,_}:=Y2.tg.own x h;exact{(o),e}
  have off:∀x,d x≠0->p x=0:=λx h=>by
   let{o,e}:=a5 x h;rcases Q6 (p x)with z|z
   .exact z
   .rw [af x (Ri z)]at e;cases e
  have M0:=Nr (Y1.same (ai W an)) (Y2.same an) off;have SG:dA G (un (λa=>d a+p a) He):=E2 (ai O (ai W an)) λx h=>by
   rcases Q6 (d x)with z|z;.exact _ao O (af x (by have h:d x+p x≠0:=h;ext))
   .exact U x (Ri z)
  have eD:un (λa=>d a+p a) He X=!(.lst [.ref f.y,.ref r.y]):=zQ (by
   have z1:d X=0:=by
    rcases Q6 (d X)with z|z;.exact z
    .let{o,e}:=a5 X (Ri z);rw[_ao W ak]at e;cases e
   have z2:p X=0:=by
    rcases Q6 (p X)with z|z;.exact z
    .let{o,e}:=b5 X (Ri z);rw[ak]at e;cases e
   show d X+p X=0;ext) d3
  have e9:G X=none:=_ao (ai O W) ak;clear off a5 b5 U af Y1 Y2 O W ak an be bf;generalize un (λa=>d a+p a) He=D at M0 SG eD;generalize (λi=>if i=0 then(f,d)else(r,p))=ek at M0;symm;refine ce ?_;simp only[cC];symm;refine{{_,ip.of d3},cQ (xs:=[.ref f.y,.ref r.y]) (λm σ H'=>(∃v,σ= [!(.ref a),!(.int i),!(.int c),!(.ref lo),!(.ref pp),!(.ref q1),!(.ref cy.y),!dj,!(.ref ph),!(.ref lg),!(.ref X),v])/\∃eg,YI C K I D H' 2 [.ref f.y,.ref r.y] eg λj=>if j<m then(ys0 (q7 c)).step I else ys0 (q7 c)) {{_,rfl},ek,M0} (λm σ H4 _ zz=>?_) ?_ ?_};.let{_,_,M4}:=zz;exact ip.of (M4.d _ _ eD)
  .rintro m x σ Hw hx ⟨⟨u,rfl⟩,N,M2⟩;have hi:m<2:=(Xj hx).1;let{xi,Yi,_}:=M2.y m hi;rw[Xe (Ro _)]at Yi;cases hx.symm.trans xi;clear hx xi;have h0:=Yi.obj;symm;refine{{I,(N m).1,ys0 (q7 c),(N m).2},rfl,{Yi,(Z 0 Xs).st},λv H3 w3=>?_};let{rfl,w3}:=w3;let{eh,M3}:=M2.step hi (by rw[Xe (Ro _)];exact w3);symm;refine{eh,?_};rw[show(λj=>if j<m+1 then(ys0 (q7 c)).step I else ys0 (q7 c))=λj=>if j=m then(ys0 (q7 c)).step I else if j<m then(ys0 (q7 c)).step I else ys0 (q7 c)from ?_];.exact M3
   .funext j;by_cases z:j=m;.rw [Xf z,Xf Xu]
    .rw [Xe z];by_cases z':j<m;.rw [Xf z',Xf Xu]
     .rw [Xe z',Xe Xu]
  .rintro σ Hw ⟨⟨u,rfl⟩,N,M2⟩;have M:YI C K I D Hw 2 [.ref f.y,.ref r.y] N λ_=>(ys0 (q7 c)).step I:=⟨M2.d,λj hj=>by have:=M2.y j hj;rw[Xf (show j< [V.ref f.y,V.ref r.y].length from hj)]at this;exact this,M2.o⟩
   clear M2;obtain⟨j,hj,ej⟩:∃j,j<2/\NB ([.ref f.y,.ref r.y]:List V) ((i:Int)%2)=!(.ref (N j).1.y):=by
    rcases(by (ext):(i:Int)%2=0\/(i:Int)%2=1)with z|z;.exact{0,by decide,by rw[z];exact(M.y 0 Xs).1}
    .exact{1,by decide,by rw[z];exact(M.y 1 Xs).1}
   let{_,Yj,oj}:=M.y j hj;have ei:=M.d _ _ eD;symm;refine{{ph,lg,{I,(N j).1,(ys0 (q7 c)).step I,(N j).2},c,c%4,4+c%5,Hq,G1,G},rfl,{bd,c2,kr,ad,ai cu (ai SG M.d),Yj,(Z 1 Xs).v,(Z 1 Xs).lg,λx hx=>oj x λz=>?_},λv Hx wx=>?_}
   .cases e:G x with
    |none=>exact hx e
    |some o=>rw[SG _ _ e]at z;cases z
   let{rfl,ch}:=wx;dsimp only at ch;have M':=M.ch ch (ai cu SG);have eN:ZE Hq G D X=!(.lst [.ref f.y,.ref r.y]):=BR (λxs z=>by rw[yg e9]at z;cases z) eD;have kN:dA Hq (ZE Hq G D):=λx o e=>BR (La e) (SG _ _ (ad _ _ (kr _ _ e)));clear ei ej Yj oj M ch hj;symm;refine{{X,[.ref f.y,.ref r.y],2,20,ZE Hq G D,N,(ys0 (q7 c)).step I,I},rfl,{M',eN,{rfl,(show 2<=10 by decide),(show 20<=100 by decide)},λk hk=>?_,?_,?_},λv Hy wy=>?_};.dsimp only at hk⊢;rw[dZ];exact(Z _ Xu).st
   .dsimp only;rw[dZ];exact(Z _ Xs).v
   .dsimp only;rw[dZ];exact(Z _ Xs).d
   let{ky,ry}:=wy;dsimp only at ky ry;have d4:Ly 6 (vY I (stN I ((ys0 (q7 c)).step I) 20)):=(by rw[dZ];exact(Z _ Xs).ly);have d5:=ai kN ky;clear M' eN;symm;intro lz Hz nz kz ez;have rd:=Rp.mono (ai d5 kz) bx;obtain⟨_,rfl⟩:∃a,v=.ref a:=(by cases ry;exact{_,rfl});refine rP (Rp.mono kz ry) (.lst ez (.cons rd (.cons rd .nil))) (Xn (ff (aY d4 (aY d4 hV))) Xs) ?_;exists false,rfl;symm;exact ai SQ (ai d5 kz)
 .rintro σ H2 ⟨⟨x1,x2,x3,x4,x5,x6,x7,x8,x9,xa,xb,rfl⟩,g2⟩;symm
end
end _K
namespace _K
open PySem _L PySem.W
abbrev Cc(K:RP):CA:={_D.XH K "ListAgenda",_D.XH K "HeapAgenda",_D.XH K "Goods",_D.XH K "Tool",_D.XH K "Store",_D.XH K "CodeYard",_D.XH K "Hand"}
def hadL:List (VA×VA):=[("take","takes"),("put","puts"),("get","gets")]
def D6(K:RP)(C:Tu):Bool:=match UR K (.ref C)with
 |some (.type t)=>t== "type"
 |_=>false
def HC{K:RP}{C:Tu}(h:D6 K C=true):UR K (.ref C)=!(.type "type"):=by
 unfold D6 at h;split at h;.rename_i t e;rw[e,beq_iff_eq.mp h]
 .cases h
def D8(K:RP):Bool:=match nsIn K Ve "thirdparty.any" with
 |some none=>true
 |_=>false
def HE{K:RP}(h:D8 K=true):nsIn K Ve "thirdparty.any" =!none:=by
 unfold D8 at h;split at h;.assumption
 .cases h
def HF{K:RP}{mg:VA->Option S5}{x q:VA}{st:Stmt}{a:List VA}{C:Tu}(h:mg x=!(.ref C))(ty:UR K (.ref C)=!(.type "type"))(op:nsIn K Ve "thirdparty.any" =!none)(M:eH K C "__init__" q st a):X3 K mg x st q a:=by let{f,b,c,d,e}:=M.ex;exact{(C),f,b,h,ty,op,c,d,e}
def Ld{P:S9}{w:Td}{K:RP}{mg:VA->Option S5}{base:Heap}{n m:Nat}{x:VA}{j:List VA}(G:_h P w K mg base n x j (zx K m)):_h P w K mg base n x j (EM K m true):=by let{f,o,a,b,c,d}:=G.ex;exact{f,o,a,b,c,{λi H Q E q=>d.1 i H Q E q.2,λA e s H h p i Q E r u v y q=>d.2 A e s H h p i Q E r u v y q.2}}
end _K
#print z
def _J:List Nat:=[2,3,4,5,7,8,9,10,11,13,14,18,19,20,21,24,25,26,31,32,33,34,35,36,37,38,48,50,51,52,53,54,55,56]
def _N:List (VA×VA×Nat):=[("Tool","Tool.__init__",28),("Store","Store.__init__",29),("Goods","Goods.__init__",30),("Hand","Hand.__init__",44),("ListAgenda","ListAgenda.__init__",16),("HeapAgenda","HeapAgenda.__init__",17),("CodeYard","CodeYard.__init__",47)]
abbrev mq(a b c:VA)(i j:Nat):VA×VA×VA×Nat×Nat:=(a,b,c,i,j)
def _W:List (VA×VA×VA×Nat×Nat):=[mq "Goods" "take" "Goods.take" 30 1,mq "Goods" "give" "Goods.give" 30 2,mq "Goods" "put" "Goods.put" 30 3,mq "Goods" "get" "Goods.get" 30 4,mq "Goods" "bring" "Goods.bring" 30 5,mq "Goods" "leave" "Goods.leave" 30 6,mq "Goods" "tools" "Goods.tools" 30 7,mq "Goods" "stores" "Goods.stores" 30 8,mq "ListAgenda" "put" "ListAgenda.put" 16 1,mq "HeapAgenda" "put" "HeapAgenda.put" 17 1,mq "ListAgenda" "first" "ListAgenda.first" 16 2,mq "HeapAgenda" "first" "HeapAgenda.first" 17 2,mq "ListAgenda" "take" "ListAgenda.take" 16 3,mq "HeapAgenda" "take" "HeapAgenda.take" 17 3,mq "ListAgenda" "in_order" "ListAgenda.in_order" 16 4,mq "HeapAgenda" "in_order" "HeapAgenda.in_order" 17 4,mq "CodeYard" "next_moment" "Yard.next_moment" 45 1,mq "CodeYard" "outer_is_next" "Yard.outer_is_next" 45 2,mq "CodeYard" "step" "Yard.step" 45 3,mq "CodeYard" "do_outer" "Yard.do_outer" 45 4,mq "CodeYard" "log" "Yard.log" 45 7,mq "CodeYard" "end" "Yard.end" 45 9,mq "CodeYard" "view" "Yard.view" 45 10,mq "CodeYard" "lay" "Yard.lay" 45 13,mq "CodeYard" "wake" "Yard.wake" 45 14,mq "CodeYard" "begin" "Yard.begin" 45 15,mq "CodeYard" "end_hand" "Yard.end_hand" 45 16,mq "CodeYard" "lay_given" "Yard.lay_given" 45 17,mq "CodeYard" "enter_statement" "Yard.enter_statement" 45 18,mq "CodeYard" "stop_by" "Yard.stop_by" 45 19,mq "CodeYard" "deed" "Yard.deed" 45 20,mq "CodeYard" "wait" "Yard.wait" 45 21,mq "CodeYard" "ask" "Yard.ask" 45 22,mq "CodeYard" "give" "Yard.give" 45 23,mq "CodeYard" "draw" "Yard.draw" 45 24,mq "CodeYard" "go_on" "CodeYard.go_on" 47 1,mq "CodeYard" "do" "CodeYard.do" 47 2,mq "CodeYard" "lay_worth" "CodeYard.lay_worth" 47 3,mq "CodeYard" "worth_of_step" "CodeYard.worth_of_step" 47 4,mq "Yard" "__init__" "Yard.__init__" 45 0]
noncomputable def see(p:S9)(K:RP):=(_J.map λi=>_D.jK K (p.main.body.getD i (.Pass {0,0,0,0})),_D.All [_D.fk K "len",
 _D.fk K "int",
 _D.fk K "min",
 _D.fk K "max",
 _D.fk K "range",
 _D.fk K "list",
 _D.fk K "dict",
 _D.fk K "sorted",
 _D.fk K "tuple",
 _D.fk K "isinstance",
 _D.fk K "enumerate",
 _D.fk K "zip",
 _D.fk K "abs",
 _D.isInt K "MOST_WORTH" (1000000),
 _D.isInt K "MOST_STATEMENTS" (100),
 _D.isInt K "MOST_HANDS" (60),
 _D.isInt K "MOST_HAPPENINGS" (500),
 _D.fN K "Tool",
 _D.eL K (_D.XH K "Tool") ["free","held","queue"],
 _D.fN K "Store",
 _D.eL K (_D.XH K "Store") ["level","most","getters","putters"],
 _D.fN K "Goods",
 _D.eL K (_D.XH K "Goods") ["by_tool","by_store"],
 _D.fN K "Hand",
 _D.eL K (_D.XH K "Hand") ["number","name","row","known"],
 _D.fN K "ListAgenda",
 _D.eL K (_D.XH K "ListAgenda") ["things"],
 _D.fN K "HeapAgenda",
 _D.eL K (_D.XH K "HeapAgenda") ["heap","turn"],
 _D.fN K "CodeYard",
 _D.eL K (_D.XH K "CodeYard") ["names","drawn","places","outer","outer_done","agenda","goods","hands","begun","now","happenings","statements","laid","stopped","codes"],
 _D.fN K "Yard",
 D6 K (_D.XH K "Yard"),
 D8 K,
 _D.fN K "HAD",
 not (_D.XH K "HAD" ==TK)],
 _N.map λx=>_D.mN K (_D.XH K x.1) "__init__" x.2.1,
 _W.map λx=>_D.qU K (_D.XH K x.1) x.2.1 x.2.2.1,
 _D.qR K (_D.XH K "HAD"))
noncomputable def saw(p:S9)(w:Td):=(_J.map λi=>_D.fM (_D.cN (p.main.body.getD i (.Pass {0,0,0,0}))) (_D.cN (p.main.body.getD i (.Pass {0,0,0,0}))) (p.main.body.getD i (.Pass {0,0,0,0})),true,
 (_N.map λx=>_D.fM "__init__" x.2.1 (aI (p.main.body.getD x.2.2 (.Pass {0,0,0,0})) 0):List _D.iN),
 (_W.map λx=>_D.fM x.2.1 x.2.2.1 (aI (p.main.body.getD x.2.2.2.1 (.Pass {0,0,0,0})) x.2.2.2.2):List _D.iN),
 (some (S5.type "dict",none, #[],hadL.map λp=>(uf w (.inr p.1),!p.1,!p.2)):Option (S5×Option Tu×Array (Option S5)×List (Int×Option VA×Option VA))))
local macro_rules
| `(tactic| walk_at "b") => `(tactic| first | exact fun _ _ _ _ _ _ us hl => _L.len1 us hl (fun _ => rfl) | exact fun _ _ _ _ _ _ us hl => _L._S us hl (fun _ _ => rfl) | exact fun _ _ _ _ _ _ us hl => _L._8 us hl (fun _ _ _ => rfl) | exact fun _ _ _ _ _ _ us hl => _L.len4 us hl (fun _ _ _ _ => rfl) | exact fun _ _ _ _ _ _ us hl => _L.len5 us hl (fun _ _ _ _ _ => rfl))
def bw{p:Prop}(h:p:=by walk_at "b"):p:=h
def Le{l:WU}{w:Td}{K:RP}{h:Heap}{mg:VA->Option S5}{fa:Tu}(S:see PySem.Challenge.pw_rerunyard_k47_code_stays K=saw PySem.Challenge.pw_rerunyard_k47_code_stays w)(X:K.In h)(G:h.Ns Ti mg)(a0:mg "law" =!(.ref fa)):∃W:VB,(∀(s:S8) (v:S5),VU s W {[v],[]} [("script",v)])/\∀base:Heap,K.In base->base.Ns Ti mg->fh l.prog w K mg base Yb 24 fa W ["script"] (yE K):=by
 have E:=λn=>congrArg (λx=>x.1.getD n none) S;have B:=congrArg (λx=>x.2.1) S;have C:=λn=>congrArg (λx=>x.2.2.1.getD n none) S;have D:=λn=>congrArg (λx=>x.2.2.2.1.getD n none) S;have a1:=congrArg (λx=>x.2.2.2.2) S;clear S;let{W,FL,a2}:=_D.FJ (st:=y9) (x:="law") (y:="script") X G (E 33) rfl a0 λ_ _ _ _ _ _ s v=>.of_eq rfl;let{b,B}:=_D._ac B;have f:=_D.eK X G b;let{b,B}:=_D._ac B;have Ql:=_D.eK X G b;let{b,B}:=_D._ac B;have PM:=_D.eK X G b;let{b,B}:=_D._ac B;have PN:=_D.eK X G b;let{b,B}:=_D._ac B;have OQ:=_D.eK X G b;let{b,B}:=_D._ac B;have i:=_D.eK X G b;let{b,B}:=_D._ac B;have H:=_D.eK X G b;let{b,B}:=_D._ac B;have OJ:=_D.eK X G b;let{b,B}:=_D._ac B;have Y:=_D.eK X G b;let{b,B}:=_D._ac B;have Oi:=_D.eK X G b;let{b,B}:=_D._ac B;have Pz:=_D.eK X G b;let{b,B}:=_D._ac B;have Qk:=_D.eK X G b;let{b,B}:=_D._ac B;have Qj:=_D.eK X G b;let{b,B}:=_D._ac B;let{Qz,P9}:=_D.pR X G b;let{b,B}:=_D._ac B;let{Qh,PK}:=_D.pR X G b;let{b,B}:=_D._ac B;let{QA,Qa}:=_D.pR X G b;let{b,B}:=_D._ac B;let{Qi,PL}:=_D.pR X G b;let{b,B}:=_D._ac B;have QB:=_D.fO b;let{b,B}:=_D._ac B;let{u,Qq,Qr,PX}:=_D.iO b;have I:=PX "free" Xs;have J:=PX "held" Xs;have Z:=PX "queue" Xs;let{b,B}:=_D._ac B;have Qs:=_D.fO b;let{b,B}:=_D._ac B;let{z,Qm,Qn,Pw}:=_D.iO b;have A:=Pw "level" Xs;have N9:=Pw "most" Xs;have NP:=Pw "getters" Xs;have NQ:=Pw "putters" Xs;let{b,B}:=_D._ac B;have Qt:=_D.fO b;let{b,B}:=_D._ac B;let{j,Qo,Qp,P8}:=_D.iO b;have M:=P8 "by_tool" Xs;have N:=P8 "by_store" Xs;let{b,B}:=_D._ac B;have QC:=_D.fO b;let{b,B}:=_D._ac B;let{d,Qu,Qw,PJ}:=_D.iO b;have e:=PJ "number" Xs;have Ov:=PJ "name" Xs;have Of:=PJ "row" Xs;have N3:=PJ "known" Xs;let{b,B}:=_D._ac B;have Qb:=_D.fO b;let{b,B}:=_D._ac B;let{O,PY,PZ,P0}:=_D.iO b;have Q:=P0 "things" Xs;let{b,B}:=_D._ac B;have Qc:=_D.fO b;let{b,B}:=_D._ac B;let{R,P1,P2,PB}:=_D.iO b;have T:=PB "heap" Xs;have Ob:=PB "turn" Xs;let{b,B}:=_D._ac B;have Qg:=_D.fO b;let{b,B}:=_D._ac B;let{a,Qd,Qe,c}:=_D.iO b;have Oo:=c "names" Xs;have On:=c "drawn" Xs;have NY:=c "places" Xs;have NS:=c "outer" Xs;have NH:=c "outer_done" Xs;have o:=c "agenda" Xs;have F:=c "goods" Xs;have U:=c "hands" Xs;have NU:=c "begun" Xs;have p:=c "now" Xs;have NT:=c "happenings" Xs;have NN:=c "statements" Xs;have Oc:=c "laid" Xs;have q:=c "stopped" Xs;have Os:=c "codes" Xs;let{b,B}:=_D._ac B;have QD:=_D.fO b;have QJ:=VR X G QD;let{b,B}:=_D._ac B;have Qx:=HC b;let{b,B}:=_D._ac B;have Qy:=HE b;let{b,B}:=_D._ac B;have PQ:=VR X G (_D.fO b);let{b,B}:=_D._ac B;have QE:(_D.XH K "HAD" ==TK)=false:= ~~~b;clear B;have PP:KD l.prog w K (_D.XH K "HAD") zm:=_D.FK a1 QE Xs;refine{W,a2,λbase _ _=>?_};exact by have P4:=FM⁻¹ (_D.gk X G QB Qq Qr (C 0) bw) u I J Z;have Oy:=Ju⁻¹ (_D.aP X G (E 22) rfl bw) u I J;have PD:=LH (_D.aP X G (E 23) rfl bw) Oy;have O3:=CU (_D.aP X G (E 24) rfl bw) u I Z Oy;have Pm:=FN⁻¹ (_D.aP X G (E 20) rfl bw) u I J Z OJ i;have Px:=za (_D.aP X G (E 18) rfl bw) P4 H;have PR:=CV⁻¹ (_D.gk X G Qs Qm Qn (C 1) bw) z A N9 NP NQ;have Pf:=CY⁻¹ (_D.aP X G (E 21) rfl bw) z A NP NQ i;have Pk:=wL (_D.aP X G (E 19) rfl bw) PR H;have N6:=CZ⁻¹ (_D.aP X G (E 25) rfl bw) z A N9 NP NQ;have Ph:=FO (_D.aR (D 0) bw) j M u I Z Oy;have OD:=FP (_D.aR (D 1) bw) j M u J PD O3 PM;have Pn:=Jy (_D.aR (D 2) bw) j N z A N9 NQ N6;have Po:=Jz (_D.aR (D 3) bw) j N z A NP N6;have PV:=C0 (_D.gk X G Qt Qo Qp (C 2) bw) j M N Px Pk;have Pb:=C1 (_D.aR (D 6) bw) j M Pm;have O6:=A7 (_D.aR (D 7) bw) j N Pf;have O9:=C3 (_D.aR (D 4) bw) j N z A N9 N6 PM PN;have O8:=C7 (CS:=_D.XH K "Store") (_D.aR (D 5) bw) j M u J OD i;have Pu:=Ag.ZF⁻¹ (_D.aP X G (E 14) rfl bw);have OH:=Ag.Zo⁻¹ (_D.aP X G (E 13) rfl bw) f;have P5:=Ag.ZG (_D.aP X G (E 11) rfl bw) Pu f;have P6:=Ag.ZM (_D.aP X G (E 12) rfl bw) Pu OH;have Pi:=Ag._9⁻¹ (_D.gk X G Qb PY PZ (C 4) bw) O Q;have N7:=Ag.ZN⁻¹ (_D.aR (D 8) bw) O Q f;have Og:=Ag.ZO⁻¹ (_D.aR (D 10) bw) O Q;have OO:=Ag.YX⁻¹ (_D.aR (D 12) bw) O Q;have OF:=Ag.ZQ⁻¹ (_D.aR (D 14) bw) O Q i;have OW:=Ag._7⁻¹ (_D.gk X G Qc P1 P2 (C 5) bw) R T Ob;have N8:=Ag.ZP (_D.aR (D 9) bw) R T Ob P5;have Oh:=Ag.ZR⁻¹ (_D.aR (D 11) bw) R T;have OP:=Ag.Zf (_D.aR (D 13) bw) R T P6;have OG:=Ag.ZK⁻¹ (_D.aR (D 15) bw) R T OJ;have Py:=Wo.ZB⁻¹ (_D.aP X G (E 16) rfl bw);have PH:=Wo.Ym⁻¹ (_D.aP X G (E 17) rfl bw) P9 Qj;have O1:=Wo.ZH⁻¹ (_D.aP X G (E 15) rfl bw);have r:=JT (P:=l.prog) (w:=w) (mg:=mg) (base:=base) (C:=Cc K) (_D.aR (D 23) bw) a p Oc;have N4:=zh (C:=Cc K) (_D.aR (D 17) bw) a NH NS o Og Oh f;have Oa:=Gd (C:=Cc K) (_D.aR (D 16) bw) a q NH NS o N4 Og Oh;have Od:=Ge (C:=Cc K) (_D.aR (D 24) bw) a o p r N7 N8;have OY:=Gf (C:=Cc K) (_D.aR (D 31) bw) a o p d e r N7 N8;have Oe:=Dq (C:=Cc K) (_D.aR (D 27) bw) a d e r Od;have Ox:=Ds (P:=l.prog) (w:=w) (mg:=mg) (base:=base) (C:=Cc K) (_D.aR (D 28) bw) a NN q d e Of PK;have ON:=Bo (P:=l.prog) (w:=w) (mg:=mg) (base:=base) (C:=Cc K) (_D.aR (D 29) bw) a q d e;have O0:=Gj (P:=l.prog) (w:=w) (mg:=mg) (base:=base) (C:=Cc K) (_D.aR (D 34) bw) a On NY f;have P7:=Gk (P:=l.prog) (w:=w) (mg:=mg) (base:=base) (C:=Cc K) (_D.gk X G QC Qu Qw (C 3) bw) d e Ov Of N3;have Oq:=Dt (C:=Cc K) (_D.aR (D 25) bw) a NU q U Oo o p P7 r N7 N8 H Qk Qa;have OZ:=LN (C:=Cc K) (_D.aR (D 33) bw) a F d e OD Oe;have O4:=Gv (C:=Cc K) (_D.aR (D 32) bw) a F d e Ph Pn Po r Od PP PQ;have OK:=Gx (C:=Cc K) (_D.aR (D 26) bw) a U F d e r O8 Oe;have O2:=DE (C:=Cc K) (_D.aR (D 30) bw) a q d e N3 OY OK O4 OZ O0 r Oq PN PP PQ;have OL:=DF (C:=Cc K) (_D.aR (D 19) bw) a NS NH F Oq r Od O9;have O7:=J3 (P:=l.prog) (w:=w) (mg:=mg) (base:=base) (C:=Cc K) (_D.aR (D 21) bw) a q;have Oz:=J4 (P:=l.prog) (w:=w) (mg:=mg) (base:=base) (C:=Cc K) (_D.aR (D 20) bw) a Oc i;have Pj:=LO⁻¹ (_D.aP X G (E 26) rfl bw);have OB:=J6 (C:=Cc K) (_D.aR (D 38) bw) a p d e N3 O1 Py PH;have OI:=LR (C:=Cc K) (_D.aR (D 37) bw) a OB ON;have PU:=DH⁻¹ (_D.aP X G (E 2) rfl bw);have Pa:=LU (C:=Cc K) (_D.aR (D 36) bw) a Pj PU Ox O2 OI;have OR:=LW (C:=Cc K) (_D.aR (D 35) bw) a Os d Ov Of Pa;have Om:=GF (C:=Cc K) (_D.aR (D 18) bw) a p NT q NN U o Oa N4 OL OR OO OP PL;have Pe:=EJ⁻¹ (_D.aP X G (E 3) rfl bw) Oi i Y 7;have Ou:=LZ⁻¹ (_D.aP X G (E 8) rfl bw) 2;have OS:=L0⁻¹ (_D.aP X G (E 0) rfl bw) i;have Pd:=L1⁻¹ (_D.aP X G (E 1) rfl bw);have Ol:=L4 (n:=2) (_D.aP X G (E 7) rfl bw) OS Ou;have Pq:=L5⁻¹ (_D.aP X G (E 10) rfl bw) f;have Qf:=EN (n:=2) (b:=false) (_D.aP X G (E 6) rfl bw) f Ol Pd ((_D.aP X G (E 9) rfl bw).never _ λ_ _ _ _ h=>nomatch h.1);have Ps:=Kj (n:=2) (_D.aP X G (E 9) rfl bw) f Ol Pq Qf;have OT:=EN (n:=2) (b:=true) (_D.aP X G (E 6) rfl bw) f Ol Pd (Ld Ps);have O5:=L8 (n:=2) (_D.aP X G (E 5) rfl bw) Y OT;have OM:=Ma (n:=2) (_D.aP X G (E 4) rfl bw) Y O5;have Pt:=Mc (C:=Cc K) (HF QJ Qx Qy (_D.aR (D 39) bw)) a Oo On NY NS NH o F U NU p NT NN Oc q H Y Pe PV;have OV:=Md (C:=Cc K) (n:=2) (_D.gk X G Qg Qd Qe (C 6) bw) a Os H OM Pt;have Ow:=GJ (C:=Cc K) (_D.aR (D 22) bw) a d e Ov Of N3 U p F NY o OJ i Pb O6 OF OG;have NZ:=Mf⁻¹ (_D.aP X G (E 27) rfl bw);have OA:=Nj (_D.aP X G (E 28) rfl bw) NZ;have OU:=Kw (_D.aP X G (E 29) rfl bw) NZ OA;have OE:=Mi (_D.aP X G (E 30) rfl bw) Ql OQ NZ OA OU;have OX:=Mr (C:=Cc K) (_D.aP X G (E 32) rfl bw) OQ Om Oz Ow O7 Oa;have Pc:=K7 (C:=Cc K) (_D.aP X G (E 31) rfl bw) OQ Oi i Oz Ow;exact Lc (C:=Cc K) FL OE OM Pi OW OV Om OX Pc Pz
set_option maxRecDepth 1000000 in
def HG(h:PySem.Challenge.rw_rerunyard_k47_code_stays.row.wellSaid=true->PySem.Challenge.rw_rerunyard_k47_code_stays.row.Holds):PySem.Challenge.rw_rerunyard_k47_code_stays.Holds:=PySem.W.holds_law (by rw[VN];kernel_rfl) h
abbrev zT(p:S9)(w:Td):Prop:=∀a:VX,_D.yV p w 200 (_D.yY p (W3 p [56]) (_D.iM p "law") (λ_=>true) (see p) w) 40 (_D.uV w a) (W5 p)=!(true,PySem.W.openGood (W3 p [56]) (_D.iM p "law"),saw p w)
def MD(w:Td):zT PySem.Challenge.pw_rerunyard_k47_code_stays (w.withFollow "special-get-raises" false):=λa=>by kernel_rfl
def ME(w:Td):zT PySem.Challenge.pw_rerunyard_k47_code_stays (w.withFollow "special-get-raises" true):=λa=>by kernel_rfl
def Nt(w:Td):zT PySem.Challenge.pw_rerunyard_k47_code_stays w:=(PySem.W.byRow2 "special-get-raises" (P:=λw=>zT PySem.Challenge.pw_rerunyard_k47_code_stays w) MD ME) w
end _K
open PySem PySem.W PyProof.Rows
set_option maxRecDepth 100000 in
set_option maxHeartbeats 0 in
theorem PySem.Challenge.cw_rerunyard_k47_code_stays_holds : PySem.Challenge.rw_rerunyard_k47_code_stays.Holds := by
 refine _K.HG λb=>?_
 refine _D.AZ (l:=PySem.Challenge.rw_rerunyard_k47_code_stays) (i:=56) (N:=8000) (m:=200) (n:=40) (see:=_K.see PySem.Challenge.pw_rerunyard_k47_code_stays) (saw:=_K.saw PySem.Challenge.pw_rerunyard_k47_code_stays) b rfl (λ_=>rfl) rfl rfl _K.Nt (by rfl) (by rfl) (by rfl) Xs ⟨rfl,rfl,rfl,rfl,rfl,by decide⟩ ?hw ?hc
 case hw=>w_witness2
 case hc=>exact _D.CP (l:=PySem.Challenge.rw_rerunyard_k47_code_stays) (n:=63) (k:=24) (x:="script") (CX:=_L.Yb) (sp:=_L.yE) rfl Xs rfl ⟨rfl,by decide,by decide⟩ (λw K e f h S X G c=>_K.Le S X G c) (λ_ _ a ns hl _ d=>⟨a,ns,rfl,d,hl,λ_=>rfl⟩) λ_ _ _ _ z=>z
#print axioms PySem.Challenge.cw_rerunyard_k47_code_stays_holds
