import PyProof.Rows.All
import Wide.All
import OpenK.AllK
import Wide.FinOn
import PyProof.EqAt
import PyProof.EqKinds
import PyProof.TupleCall
import KE.BitLaws
import Open.SpecLaws
import KE.OsHead
import KE.OsGo
import PyProof.Rows.SortShellAny
import PySem.Challenge.RW_soundpages_s01_answers
import PyProof.Rows.SetFrom
open And renaming right→w9
open Array renaming toList→Mj,length_toList→Yv,getElem?_eq_none→aom
open Bool renaming false_eq_true→eE,false_ne_true→fX,and_eq_true→jJ,noConfusion→m8,true_and→uE,false_or→xb,and_false→zG,false_and→zH,not_true→zI,or_false→zJ,and_eq_false_iff→DA,eq_iff_iff→Ml,not_eq_true→Mm,not_false→Mn,or_eq_true→Mo,or_true→Mp,and_eq_true_iff→aon,and_true→aoo,or_assoc→aop,or_eq_false_iff→aoq,true_eq_false→aor,true_or→aos
open Classical renaming byContradiction→DB
open False renaming elim→jK
open ForInStep renaming yield→Mq
open Function renaming comp→aot
open Int renaming toNat_natCast→Yw
open Kp172 renaming Bytes→aa,Mark→aG,escaped→cP,inName→dU,depth→fz,isName→fL,okByte→jh,bytesOf→lD,chars→lE,marks→pH,plain→sv,read→uF,tag→uG,attrs→zK,ATTRS→aou,DEEP→aov,readO→aow
open Kp173 renaming Piece→eF,isHole→gC,pieces→gD,Part→iO,textIn→iP,bareAttr→ji,bareElement→kC,means→m9,parts→ow,wrongHole→sw,DEEPEST→xc,body→xf,attrs→zL,fits→zM,tooDeep→zN,uses→DC,inside→Mr,standing→Ms,Call→Yy,control→Yz,Ans→aox,TEMPLATES→aoy,act→aoz,tag→aoA,template→aoB,tidy→aoC
open Kp173.Ans renaming num→uH,page→Yx
open Kp173Neutral renaming step→jL,nats→sx,S→Mt,callOf→YA,may→YB,askedFrom→aoD,wrKp173_Ans→aoE,wrNat→aoF,asked→ap5,starts→ap6
open Lean renaming Syntax→DD,mkIdent→Mv
open List renaming mem_map→bt,mem_cons→bw,length_cons→bJ,length_map→bL,length_append→cw,mem_append→cz,map_cons→cI,mem_cons_of_mem→dq,map_append→dJ,getElem?_map→dQ,append_nil→ei,mem_cons_self→eS,mem_of_getElem?→fh,getElem?_eq_some_iff→fB,cons_append→fQ,append_assoc→fY,nodup_cons→gE,getElem?_eq_getElem→gU,size_toArray→gW,map_map→ic,nodup_append→jj,filter_cons→jM,length_eq_zero_iff→jN,take_succ→jO,flatMap_cons→kD,length→kE,takeWhile_cons→kI,take_length→kJ,map_nil→lF,mem_append_right→mo,length_take→nc,mem_append_left→nh,length_nil→ox,any_cons→pI,any_map→qF,not_mem_nil→qG,any_eq_true→sy,lookup→sA,dropWhile_cons→uI,flatMap_nil→uJ,mem_filter→uK,nodup_nil→uL,getElem?_append_left→xg,getElem_mem→xh,length_filter_le→xi,length_singleton→xj,lookup_cons→xk,range→xl,all_eq_true→zO,drop_eq_getElem_cons→zP,find?_cons→zQ,flatMap_append→zR,length_drop→zS,length_reverse→zT,mem_flatMap→zU,take_append_drop→zV,take_of_length_le→zW,all_cons→DE,any_eq_false→DF,filterMap_cons→DG,map→DH,mem_of_find?_eq_some→DI,mem_range→DJ,any_append→Mw,filter_append→Mx,find?_map→My,findSome?_cons→Mz,take_zero→MA,drop_zero→YC,filterMap_map→YD,filter_congr→YE,filter_cons_of_neg→YF,filter_cons_of_pos→YG,filter_eq_nil_iff→YH,find?_eq_none→YI,find?_some→YJ,getElem?_cons_zero→YK,getElem?_eq_none→YL,getElem?_of_mem→YM,getElem?_set_ne→YN,getElem?_set_self→YO,head?_cons→YQ,map_drop→YR,map_take→YS,of_mem_zip→YT,pairwise_map→YU,range_succ→YV,reverse_cons→YW,take_succ_cons→YX,Nodup→aoG,any_nil→aoH,contains_cons→aoI,drop_append_of_le_length→aoJ,drop_drop→aoK,drop_eq_nil_of_le→aoL,ext_getElem?→aoM,filterMap_append→aoN,filterMap_some→aoO,filter_filter→aoP,filter_map→aoQ,forIn_nil→aoR,getElem?_cons_succ→aoS,getElem?_inj→aoT,getElem?_take→aoU,getElem_inj→aoV,length_filterMap_le→aoW,length_pos_iff→aoX,mem_filterMap→aoY,mem_of_mem_drop→aoZ,mem_singleton→ao0,take_append_of_le_length→ao1,take_left→ao2
open List.Pairwise renaming filter→ap7
open Nat renaming le_refl→bR,zero_le→dE,reduceLT→eT,le_of_lt→gi,lt_succ_self→gF,lt_of_lt_of_le→iQ,le_trans→jk,ne_of_lt→jl,lt_irrefl→qH,le_succ→uM,le_succ_of_le→uN,min_eq_left→DK,le_of_eq→MB,le_of_succ_le→MC,lt_succ_of_lt→MD,min_eq_right→ME,lt_of_le_of_lt→YY,lt_or_ge→ao3,ne_of_gt→ao4,sub_self→ao5,sub_zero→ao6
open Ne renaming symm→pJ
open Option renaming bind_some→bM,map_some→iD,elim_some→iR,elim_none→jm,bind_eq_bind→ni,getD_some→oy,getD_none→zX,isSome_some→DL,bind_none→MF,map_map→MG,map_none→MH,isSome_map→YZ,isSome_none→Y0,isSome_iff_exists→ao7,map_eq_some_iff→ao8,none→ao9
open Option.some renaming inj→nj,injEq→apb
open Or renaming inl→bx
open Prod renaming fst→oz,snd→pK
open PyFlat renaming row→nq,rows→uO,played→xm,told→xn,calls→zY,call→Y1
open PyInside renaming within→xo,call→Y2
open PyKp173 renaming shape→zZ,answers→DN,bound→MI,answers_asked→Y3,whole→Y4
open PyProof.Rows renaming envOfC→qI,AllBare→xp,Constant_none→Y5,Subscript_→Y7,subscriptTail→Y8,iadd_int→apd,isub_int→ape,callWith_builtin1→ap8,callWith_type1→ap9,sortedAll_at→aqa,sortedAll_old→aqb,sorted_intsAny→aqc
open PyProof.Rows.F renaming plain_set_update_loop→Y6,entry_set_update_loop→apc
open PySem renaming Addr→U,Str→ac,Value→af,Shared→ax,wpAny→aY,Obj→ba,model→bp,Expr→bz,wpAny_bind→bN,Heap→bP,World→ck,sizeLine→cp,Program→cA,eval→cB,wpAny_pure→cJ,Around→cO,Pos→cS,starEach→cX,Env→fC,Scope→fZ,Stmt→gj,backTo→ig,cellsFrom→ij,Sem→jn,compareOp→jo,mainGlobals→jp,NameKind→kK,cLine→lG,mem_of_lookup→lH,sysModules→lI,DictEntry→mq,FuncData→mw,bootBuiltins→my,Tok→ny,compEnvC→nz,wpAny_mono→nA,wpAny_truthy_bool→qK,CmpOp→sB,Params→sC,PyData→sD,atKey→sG,codeAny→sI,pyNext→sJ,valueAt→sK,bindC→uU,bindL→uV,pushCells→uW,Keyword→xq,attributeBase→xr,backToKw→xt,keywordEach→xu,sliceBounds→xw,swapsWith→xx,wpAny_passesOwn→xy,BindsTo→z6,Model→z7,behindInMarks→z8,binaryOp→z9,callerA→Aa,codeAny_mono→Ab,getItem→Ac,getMethod→Ad,notedBy→Ae,pyIter→Af,rawInt→Ag,tupleKind→Ah,Operator→DS,Result→DT,assignEach→DV,callWith→DW,isTrue→DZ,scanBound→D0,standAt→D7,tupleKind_room_in1→D8,wpAny_Call_Name_kw→D9,GenState→MJ,call_meetsIn→MU,foldedSetIterable→MV,inplaceOp→MW,letOwnedTupleGo→MX,pushCells_keeps→MY,wpAny_Call_method→MZ,wpAny_call_entry→Na,wpAny_execs_nil→Nb,wpAny_newObj_type→Nc,wpAny_typeNameOfWhole_keyiter→Nd,wpAny_typeNameOf_keyiter→Nf,Within→Zh,bindArgs→Zi,builtinsNs→Zj,call_meets→Zk,codeAny_builtin→Zl,compPost→Zm,getAttr→Zn,sizeLine_eq→Zo,storeName→Zp,wpAny_Name→Zq,wpAny_call→Zr,wpAny_dictEntries→Zs,wpAny_dictEpoch→Zt,wpAny_holding→Zu,wpAny_pyIter_list→Zv,call→apv,evalArgs_none→apw,firstArgMember→apx,newFunctionEnv→apy,recursionLimit→apz,wpAny_Compare1→apA,wpAny_assign_Name→apB,wpAny_callSpecial?_slot→apC,wpAny_execs_cons→apD,wpAny_fieldsOf→apE,wpAny_getItem_of→apF,wpAny_isOneOf_keyiter→apG,wpAny_isTrue_Compare1→apH,wpAny_loadName_cell→apI,wpAny_loadName_local→apJ,wpAny_pyIter_keyiter→apK,wpAny_pyIter_slot→apL,wpAny_pyNext_dict_item→apM,wpAny_setField→apN
open PySem.EqMixed renaming eq_bool_str→aqd,eq_int_str→aqe,eq_str_bool→aqf,eq_str_int→aqg,ne_bool_str→aqh,ne_int_str→aqi,ne_str_bool→aqj,ne_str_int→aqk
open PySem.EqNone renaming eq_bool_none→aql,eq_int_none→aqm,eq_none_bool→aqn,eq_none_int→aqo,eq_none_none→aqp,eq_none_str→aqq,eq_str_none→aqr,ne_bool_none→aqs,ne_int_none→aqt,ne_none_bool→aqu,ne_none_int→aqv,ne_none_none→aqw,ne_none_str→aqx,ne_str_none→aqy
open PySem.F renaming plainAttrs_list→ej,slot_list_append→iE,type_list_append→iF,called_set→uP,slot_list_extend→uQ,type_list_extend→uR,slot_list_pop→DO,type_list_pop→DP,plainAttrs_dict→Y9,slot_dict_get→Za,args_dict_get_3→apf,entry_dict_get→apg,slot_dict_getitem→aph,slot_dict_pop→api,slot_dict_setdefault→apj
open PySem.StrLaws renaming subAt_eq→aqz
open PySem.W renaming Frag→bn,findIn→oB,kia_one→pL,kitOne→qJ,emptyDict→sE,keepIn→sF,fnOf→uS,instObj→uT,plainGet→DU,codeIn→MK,hasDictIn→ML,isFn→MM,lookIn→MN,mg_of→MO,nsIn→MQ,callWith_K→Zb,makesIn→Zc,methodObj→Zd,plainGet_of→Ze,plainOver→Zf,takerIn→Zg,WRecords→apk,WalkOS→apl,callWith_K0→apm,cellsFrom_some→apn,handedIn→apo,kitx_dict→apq,kitx_list→apr,length_le_weightAllW→apt,methodCall_KW→apu
open PySem.W.Looks renaming here→aqA
open PySem.Within renaming cons→aqB
open Sum renaming inl→dL,inr→pM
open True renaming intro→jq
abbrev ao:=@if_neg
abbrev az:=@if_pos
abbrev aJ:=@absurd
abbrev bC:=@true_and
abbrev cT:=@if_false
abbrev du:=@if_true
abbrev dM:=@decide_eq_false
abbrev eU:=@congrArg
abbrev fM:=@decide_true
abbrev fN:=@propext
abbrev gG:=@decide_eq_true
abbrev jP:=@decide_false
abbrev kO:=@beq_eq_false_iff_ne
abbrev oC:=@decide_eq_decide
abbrev qL:=@decide_eq_true_eq
local macro_rules(kind:=«term{_}»)|`({$a,*})=>`(⟨$a,*⟩)
local macro_rules|`(tactic|simp?[$a,*]$[$l:location]?)=>`(tactic|simp only[$a,*]$[$l]?)
noncomputable section
set_option genInjectivity false
set_option genSizeOf false
set_option Elab.async false
set_option maxRecDepth 100000
set_option linter.all false
set_option maxHeartbeats 4000000
theorem wSaid:PySem.Challenge.rw_soundpages_s01_answers.wellSaid=true:=by decide+kernel
section
open PySem PySem.Spec PyProof.Rows
section
namespace _L
theorem ZW(_:True:=by rfl):True:=jq
def aR:DD:=ZW._auto_1
theorem ZS(_:True:=by decide):True:=jq
def aD:DD:=ZS._auto_1
theorem ZT(_:True:=by first |exact .inl rfl |exact .inr rfl |exact .inr (.inl rfl) |exact .inr (.inr rfl) |assumption):True:=jq
def aF:DD:=ZT._auto_1
theorem ZU(_:True:=by intro _;rfl):True:=jq
def aI:DD:=ZU._auto_1
theorem ZV(_:True:=by decide+kernel):True:=jq
def aK:DD:=ZV._auto_1
abbrev Key:=Sum Int ac
def ql:Key->af->Bool|.inl k,v=>Value.isInt k v|.inr x,v=>Value.isStrOf x v
def ahd(w:ck):Key->Int|.inl k=>hashInt k|.inr x=>hashStr w x
theorem pi:∀{k:Key} {v:af},ql k v=true->(∃i t,k=dL i/\v=Value.int i t)∨(∃x t,k=pM x/\v=Value.str x t)|.inl i,v,h=>by obtain⟨t,e⟩:=Value.isInt_shape (k:=i) (v:=v) h;exact .inl {(i),t,rfl,e}|.inr x,v,h=>by obtain⟨t,e⟩:=Value.isStrOf_shape (x:=x) (v:=v) h;exact .inr {(x),t,rfl,e}
theorem ahe(i:Int)(t:ny):ql (.inl i) (.int i t)=true:=by simp[ql,Value.isInt]
theorem ahf(x:ac)(t:ny):ql (.inr x) (.str x t)=true:=by simp[ql,Value.isStrOf]
theorem ahg(a b:Int):decide ((dL a:Key)=dL b)=(a==b):=by
 by_cases e:a=b
 .subst e;simp
 have h:¬(dL a:Key)=dL b:=fun q=>e (Sum.inl.inj q);rw[dM h];exact(kO.mpr e).symm
theorem ahj(a b:ac):decide ((pM a:Key)=pM b)=decide (a=b):=by
 by_cases e:a=b
 .subst e;simp
 have h:¬(pM a:Key)=pM b:=fun q=>e (Sum.inr.inj q);rw[dM h,dM e]
theorem ahh(a:Int)(b:ac):decide ((dL a:Key)=pM b)=false:=dM (fun q=>nomatch q)
theorem ahi(a:ac)(b:Int):decide ((pM a:Key)=dL b)=false:=dM (fun q=>nomatch q)
noncomputable def gc(prog:cA)(w:ck):PySem.KeyKind prog w Key where
 is:=ql
 hash:=ahd w
 inj:=fun v a b ha hb=>by
  rcases pi ha with⟨i,t,rfl,rfl⟩ |⟨x,t,rfl,rfl⟩
  .rcases pi hb with⟨j,u,rfl,e⟩ |⟨y,u,rfl,e⟩
   .injection e with e1 _;rw[e1]
   exact nomatch e
  rcases pi hb with⟨j,u,rfl,e⟩ |⟨y,u,rfl,e⟩
  .exact nomatch e
  injection e with e1 _;rw[e1]
 byValue:=fun k v h=>by rcases pi h with⟨i,t,rfl,rfl⟩ |⟨x,t,rfl,rfl⟩<;>rfl
 pyHash:=fun hv h=>by
  rcases pi hv with⟨i,t,rfl,rfl⟩ |⟨x,t,rfl,rfl⟩
  .exact wpAny_pyHash_int h
  exact wpAny_pyHash_str h
 eqBool:=fun hu hv h=>by
  rcases pi hu with⟨i,t,rfl,rfl⟩ |⟨x,t,rfl,rfl⟩
  .rcases pi hv with⟨j,u,rfl,rfl⟩ |⟨y,u,rfl,rfl⟩
   .rw[ahg]at h;exact wpAny_eqBool_int h
   rw[ahh]at h;exact SeqAt.EqAt.int_str i t y u _ _ _ _ h
  rcases pi hv with⟨j,u,rfl,rfl⟩ |⟨y,u,rfl,rfl⟩
  .rw[ahi]at h;exact SeqAt.EqAt.str_int x t j u _ _ _ _ h
  rw[ahj]at h;exact wpAny_eqBool_str h
 «strs»:=fun k x t v h=>by
  rcases pi h with⟨i,u,rfl,e⟩ |⟨y,u,rfl,e⟩
  .exact nomatch e
  injection e with e1 _;subst e1;cases v<;>rfl
theorem qp(prog:cA)(w:ck)(i:Int)(t:ny):(gc prog w).is (.inl i) (.int i t)=true:=ahe i t
theorem aih(prog:cA)(w:ck)(x:ac)(t:ny):(gc prog w).is (.inr x) (.str x t)=true:=ahf x t
end _L
namespace _L
set_option genInjectivity true in
inductive V where
 |aN |bl(b:Bool) |int(i:Int) |str(x:ac) |iX(b:Array UInt8) |rp(b:UInt64) |ref(a:U) |ty(n:String)
 deriving DecidableEq
def RelV:V->af->Prop
 |.aN,u=>u=Value.none|.bl b,u=>u=Value.bool b
 |.int i,u=>∃t,u=Value.int i t|.str x,u=>∃t,u=Value.str x t
 |.iX b,u=>∃t,u=Value.bytes b t|.rp b,u=>∃t,u=Value.float b t
 |.ref a,u=>u=Value.ref a|.ty n,u=>u=Value.type n
abbrev bF:List V->List af->Prop:=Paired RelV
theorem bF.length{xs:List V}{us:List af}(r:bF xs us):xs.length=us.length:=Paired.length r
theorem bF.gN:∀{xs:List V} {us:List af} {i:Nat} {x:V},bF xs us->xs[i]?=some x->∃u,us[i]?=some u/\RelV x u
 |_,_,_,_,.nil,e=>by simp at e|_,_,0,_,.cons r _,e=>by simp at e;subst e;exact{_,rfl,r}
 |_,_,i+1,x,.cons _ t,e=>by obtain⟨u,h1,h2⟩:=bF.gN (i:=i) (x:=x) t (by simpa using e);exact{u,by simpa using h1,h2}
theorem bF.append:∀{xs ys:List V} {us ws:List af},bF xs us->bF ys ws->bF (xs++ys) (us++ws)|_,_,_,_,.nil,s=>s|_,_,_,_,.cons r t,s=>.cons r (bF.append t s)
theorem bF.take:∀{xs:List V} {us:List af} (n:Nat),bF xs us->bF (xs.take n) (us.take n)
 |_,_,0,_=>.nil|_,_,_+1,.nil=>.nil
 |_,_,n+1,.cons r t=>.cons r (bF.take n t)
theorem bF.drop:∀{xs:List V} {us:List af} (n:Nat),bF xs us->bF (xs.drop n) (us.drop n)
 |_,_,0,r=>r|_,_,_+1,.nil=>.nil
 |_,_,n+1,.cons _ t=>bF.drop n t
def gY:Option V->Option af->Prop
 |some v,some u=>RelV v u|none,none=>True
 |_,_=>False
def KV{κ:Type}:List (κ×V)->List (κ×af)->Prop:=Paired fun(p:κ×V) (q:κ×af)=>p.1=q.1/\RelV p.2 q.2
def kV:Key->V|.inl i=>.int i|.inr x=>.str x
set_option genInjectivity true in
inductive HO where
 |ag(xs:List V)|cH(xs:List V)|dK(kvs:List (Key×V)) |dT(kvs:List (List Key×V))
 |set(S:Int->Bool)(n:Nat)|am(C dx:U)(fs:List (ac×V))|own(x:U)
 |xd(fs:List (ac×V))|gb(f x:U)|KY(lo hi:Int)
 |br(o:ba)(u:HO)|uy(ps:Array af)|ext(φ:bP->Prop)
abbrev Hp:=U->Option HO
def ae(H:Hp)(a:U)(o:HO):Hp:=fun b=>if b=a then some o else H b
theorem ay{H:Hp}{a:U}{o:HO}:ae H a o a=some o:=by unfold ae;rw[az rfl]
theorem aj{H:Hp}{a b:U}{o:HO}(h:b≠a):ae H a o b=H b:=by unfold ae;rw[ao h]
theorem gT{H:Hp}{a:U}{o u:HO}:ae (ae H a o) a u=ae H a u:=by funext b;unfold ae;split<;>rfl
theorem cr{H:Hp}{a b:U}{o u:HO}(h:H a=some o)(h':H b=some u)(d:o≠u):a≠b:=by intro e;subst e;rw[h]at h';exact d (nj h')
theorem aC{H:Hp}{a b:U}{o:HO}(h:H a=some o)(h':H b=none):a≠b:=by intro e;subst e;rw[h]at h';cases h'
section
variable(P:cA)(w:ck)
def eV(H:Hp)(h:bP)(a:U):HO->Prop
 |.ag xs=>xs.length<=cp/\∃(its:List af) (n:Nat),bF xs its/\h.get? a=some {cls:=.type "list",data:=.seq its.toArray n}|.cH xs=>xs.length<=cp/\∃its:List af,bF xs its/\IsTup h a its.toArray
 |.dK kvs=>kvs.length<=cp/\(a==lI)=false/\∃vs,KV kvs vs/\h.DictOf (gc P w) a vs
 |.dT kvs=>kvs.length<=cp/\(a==lI)=false/\∃xs:List (List Key×U×af),
   Paired (fun(p:List Key×V) (q:List Key×U×af)=>p.1=q.1/\H q.2.1=some (.cH (p.1.map kV))/\RelV p.2 q.2.2) kvs xs/\
   ∃o es ep,h.get? a=some o/\o.ExactDict/\o.data=.dict es ep/\es.toList=xs.map (entryOfKey (Ah (gc P w)))/\(xs.map (·.1)).Nodup
 |.set S n=>h.SetOf (intKind P w) a S n|.am C dx fs=>H dx=some (.own a)/\fs.length<=1000/\dx≠a/\h.get? a=some (uT C dx)/\∃mA,h.Ns1 dx mA/\(∀f,gY (fs.lookup f) (mA f))/\Zh mA (fs.map (·.1))
 |.own _=>∃o,h.get? a=some o|.xd fs=>∃mA,h.Ns1 a mA/\∀f,gY (fs.lookup f) (mA f)
 |.KY lo hi=>∃t u v,h.get? a=some {cls:=.type "range",data:=.fields #[.int lo t,.int hi u,.int 1 v]}|.br o u=>h.get? a=some o/\eV H h a u
 |.uy ps=>h.get? a=some {cls:=.none,data:=.fields ps}|.gb f x=>h.get? a=some (Zd (.ref f) (.ref x))
 |.ext φ=>φ h/\(∃o,h.get? a=some o)/\∀h1 h2:bP,φ h1->(∀o,h1.get? a=some o->h2.get? a=some o)->φ h2
def dG(H:Hp)(h:bP):Prop:=∀a o,H a=some o->eV P w H h a o
end
section
variable{P:cA}{w:ck}{H H':Hp}{h h':bP}{a:U}{o:HO}
theorem eV.lt(x:eV P w H h a o):a<h.objs.size:=by
 cases o with
 |ag xs=>obtain⟨_,_,_,_,e⟩:=x;exact Heap.lt_size e|cH xs=>obtain⟨_,_,_,p⟩:=x;exact p.lt
 |dK kvs=>obtain⟨_,_,_,_,o,_,_,e,_⟩:=x;exact Heap.lt_size e|dT kvs=>obtain⟨_,_,_,_,o,_,_,e,_⟩:=x;exact Heap.lt_size e
 |set S n=>obtain⟨o,_,_,_,e,_⟩:=x;exact Heap.lt_size e|am C dx fs=>obtain⟨_,_,_,e,_⟩:=x;exact Heap.lt_size e
 |own y=>obtain⟨_,e⟩:=x;exact Heap.lt_size e|xd fs=>obtain⟨_,⟨_,_,_,e,_⟩,_⟩:=x;exact Heap.lt_size e
 |KY lo hi=>obtain⟨_,_,_,e⟩:=x;exact Heap.lt_size e|br ob u=>obtain⟨e,_⟩:=x;exact Heap.lt_size e
 |uy ps=>exact Heap.lt_size (show h.get? a=some _ from x)|gb f y=>exact Heap.lt_size (show h.get? a=some _ from x)
 |ext φ=>obtain⟨_,⟨_,e⟩,_⟩:=x;exact Heap.lt_size e
theorem Paired.Ja{α β:Type}{F G:α->β->Prop}:∀{l₁:List α} {l₂:List β},Paired F l₁ l₂->(∀a b,F a b->G a b)->Paired G l₁ l₂|_,_,.nil,_=>.nil|_,_,.cons r t,f=>.cons (f _ _ r) (Paired.Ja t f)
theorem eV.si(x:eV P w H h a o)(k:∀b u,(b=a∨H b=some (.own a))->h.get? b=some u->h'.get? b=some u)
  (ho:∀b,H b=some (.own a)->H' b=some (.own a))(ht:∀b xs,H b=some (.cH xs)->H' b=some (.cH xs)):eV P w H' h' a o:=by
 induction o with
 |ag xs=>obtain⟨z,its,n,r,e⟩:=x;exact{z,its,n,r,k _ _ (.inl rfl) e}|cH xs=>obtain⟨z,its,r,ob,e,c⟩:=x;exact{z,its,r,ob,k _ _ (.inl rfl) e,c}
 |dK kvs=>obtain⟨z,y,vs,r,ob,es,ep,e,c⟩:=x;exact{z,y,vs,r,ob,es,ep,k _ _ (.inl rfl) e,c}|dT kvs=>obtain⟨z,y,xs,r,ob,es,ep,e,c⟩:=x;exact{z,y,xs,Paired.Ja r fun p q z=>{z.1,ht _ _ z.2.1,z.2.2},ob,es,ep,k _ _ (.inl rfl) e,c}
 |set S n=>obtain⟨ob,es,ep,t,e,c⟩:=x;exact{ob,es,ep,t,k _ _ (.inl rfl) e,c}|am C dx fs=>obtain⟨d,z,ne,e,mA,⟨od,es,ep,e2,c⟩,r⟩:=x;exact{ho _ d,z,ne,k _ _ (.inl rfl) e,mA,{od,es,ep,k _ _ (.inr d) e2,c},r}
 |own y=>obtain⟨ob,e⟩:=x;exact{ob,k _ _ (.inl rfl) e}|xd fs=>obtain⟨mA,⟨od,es,ep,e,c⟩,r⟩:=x;exact{mA,{od,es,ep,k _ _ (.inl rfl) e,c},r}
 |KY lo hi=>obtain⟨t,u,v,e⟩:=x;exact{t,u,v,k _ _ (.inl rfl) e}|br ob u ih=>obtain⟨e,q⟩:=x;exact{k _ _ (.inl rfl) e,ih q}
 |uy ps=>have e:h.get? a=some {cls:=.none,data:=.fields ps}:=x;show h'.get? a=some {cls:=.none,data:=.fields ps};exact k a _ (.inl rfl) e|gb f y=>have e:h.get? a=some (Zd (.ref f) (.ref y)):=x;show h'.get? a=some (Zd (.ref f) (.ref y));exact k a _ (.inl rfl) e
 |ext φ=>obtain⟨p,⟨o,e⟩,st⟩:=x;exact{st _ _ p fun o q=>k _ _ (.inl rfl) q,{o,k _ _ (.inl rfl) e},st}
theorem dG.lt(x:dG P w H h)(e:H a=some o):a<h.objs.size:=(x a o e).lt
theorem dG.fresh(x:dG P w H h)(e:h.objs.size<=a):H a=none:=by cases q:H a with|none=>rfl|some u=>exact aJ (iQ (x.lt q) e) (qH _)
theorem dG.hU(x:dG P w H h)(k:∀b u,h.get? b=some u->h'.get? b=some u):dG P w H h':=fun a o e=>(x a o e).si (fun b u _ q=>k b u q) (fun _ q=>q) fun _ _ q=>q
theorem dG.j8(x:dG P w H h)(k:∀b u,h.get? b=some u->h'.get? b=some u)(hp:h.objs.size<=a)(new:eV P w (ae H a o) h' a o):dG P w (ae H a o) h':=fun b u e=>by
 have hn:=x.fresh hp;by_cases hb:b=a
 .subst hb;rw[ay]at e;cases e;exact new
 rw[aj hb]at e;exact(x b u e).si (fun c v _ q=>k c v q) (fun c q=>by rwa[aj (aC q hn)]) fun c xs q=>by rwa[aj (aC q hn)]
end
def Rd(H:Hp)(a:U)(u:HO):Prop:=H a=some u∨∃o,H a=some (.br o u)
theorem Rd.ok{P:cA}{w:ck}{H:Hp}{h:bP}{a:U}{u:HO}(r:Rd H a u)(x:dG P w H h):eV P w H h a u:=by
 rcases r with r |⟨o,r⟩
 .exact x a u r
 obtain⟨_,q⟩:=x a _ r;exact q
def pP:Option HO->Prop
 |some (.ag _)=>True|some (.dK _)=>True
 |some (.dT _)=>True|some (.set _ _)=>True
 |some (.am _ _ _)=>True|some (.ext _)=>True
 |_=>False
section
variable{P:cA}{w:ck}{H:Hp}{h h':bP}{x e:U}{o':HO}
theorem dG.write(ok:dG P w H h)(mu:pP (H x))(he:e=x∨H e=some (.own x))(k:∀b u,b≠e->h.get? b=some u->h'.get? b=some u)(heo:∃u,h'.get? e=some u)
  (new:eV P w (ae H x o') h' x o'):dG P w (ae H x o') h':=fun b u q=>by
 have nown:∀c y,H c=some (.own y)->c≠x:=fun c y r z=>by subst z;rwa[r]at mu
 have ntup:∀c xs,H c=some (.cH xs)->c≠x:=fun c xs r z=>by subst z;rwa[r]at mu
 by_cases hb:b=x
 .subst hb;rw[ay]at q;cases q;exact new
 rw[aj hb]at q;by_cases hbe:b=e
 .have q':H b=some (.own x):=by
   rcases he with z |z
   .exact aJ (hbe.trans z) hb
   rwa[hbe]
  rw[q]at q';cases q';obtain⟨v,hv⟩:=heo;exact{v,by rw[hbe];exact hv}
 refine(ok b u q).si (fun c v hc r=>k c v ?_ r) (fun c r=>by rwa[aj (nown c b r)]) fun c xs r=>by rwa[aj (ntup c xs r)]
 rcases hc with rfl |hc
 .exact hbe
 rintro rfl;rcases he with z |z
 .exact nown c b hc z
 rw[hc]at z;cases z;exact hb rfl
end
structure Un(fs ex:List U)(H H':Hp)(h h':bP):Prop where
 keep:∀b o,h.get? b=some o->H b=none->b ∉ fs->b ∉ ex->h'.get? b=some o
 slot:∀b o,h.get? b=some o->H b=none->b∈fs->b ∉ ex->∃sl,h'.get? b=some {o with slots:=sl}
 free:∀b o,h.get? b=some o->H b=none->b ∉ ex->H' b=none
 there:∀b o,h.get? b=some o->b ∉ ex->∃o',h'.get? b=some o'
 qD:∀b xs,H b=some (.cH xs)->H' b=some (.cH xs)
 nW:∀b o u,H b=some (.br o u)->H' b=some (.br o u)
 qC:∀b ps,H b=some (.uy ps)->∃more,H' b=some (.uy (ps++more))
section
variable{fs vJ ex ex':List U}{H H1 H2:Hp}{h h1 h2 h':bP}{a x e:U}{o:HO}
theorem Un.any(u:Un fs ex H H1 h h1){b:U}{ob:ba}(q:h.get? b=some ob)(n:H b=none)(hx:b ∉ ex):∃sl,h1.get? b=some {ob with slots:=sl}:=by
 by_cases hb:b∈fs
 .exact u.slot b ob q n hb hx
 exact{ob.slots,u.keep b ob q n hb hx}
theorem Un.hU(k:∀b u,h.get? b=some u->h'.get? b=some u):Un fs ex H H h h':={fun b ob q _ _ _=>k b ob q,fun b ob q _ _ _=>{ob.slots,k b ob q},fun _ _ _ n _=>n,fun b ob q _=>{ob,k b ob q},fun _ _ q=>q,fun _ _ _ q=>q,fun _ ps q=>{#[],by rw[q];simp}}
theorem Un.refl:Un fs ex H H h h:=Un.hU fun _ _ q=>q
theorem Un.j8(k:∀b u,h.get? b=some u->h'.get? b=some u)(hp:h.objs.size<=a)(hn:H a=none):Un fs ex H (ae H a o) h h' where
 keep:=fun b u q _ _ _=>k b u q
 slot:=fun b u q _ _ _=>{u.slots,k b u q}
 free:=fun b u q n _=>by rwa[aj (jl (iQ (Heap.lt_size q) hp))]
 there:=fun b u q _=>{u,k b u q}
 qD:=fun b xs q=>by rwa[aj (aC q hn)]
 nW:=fun b u xs q=>by rwa[aj (aC q hn)]
 qC:=fun b ps q=>{#[],by rw[aj (aC q hn),q];simp}
theorem Un.write(mu:pP (H x))(he:e=x∨H e=some (.own x))(k:∀b u,b≠e->h.get? b=some u->h'.get? b=some u)(heo:∃u,h'.get? e=some u):Un fs ex H (ae H x o) h h':=by
 have hx:∀b,H b=none->b≠x:=fun b n z=>by subst z;rwa[n]at mu
 have hb:∀b,H b=none->b≠e:=fun b n z=>by
  subst z;rcases he with r |r
  .exact hx b n r
  rw[n]at r;cases r
 have hm:∀b u,H b=some u->¬ pP (some u)->b≠x:=fun b u q nm z=>by subst z;rw[q]at mu;exact nm mu
 refine{fun b u q n _ _=>k b u (hb b n) q,fun b u q n _ _=>{u.slots,k b u (hb b n) q},fun b u q n _=>by rw[aj (hx b n)];exact n,fun b u q _=>?_,fun b xs q=>by rw[aj (hm b _ q fun z=>z)];exact q,fun b u xs q=>by rw[aj (hm b _ q fun z=>z)];exact q,fun b ps q=>{#[],by rw[aj (hm b _ q fun z=>z),q];simp}};by_cases hbe:b=e
 .subst hbe;exact heo
 exact{u,k b u hbe q}
end
noncomputable def Ds(h:bP)(H:Hp):List U:=(xl h.objs.size).filter fun a=>(H a).isSome
def qg(h:bP)(H:Hp):bP:=PySem.W.hideAll h (Ds h H)
theorem afX(h:bP)(H:Hp):(qg h H).objs.size=h.objs.size:=PySem.W.hideAll_size _ _
theorem afW{h:bP}{H:Hp}{b:U}{o:ba}(e:h.get? b=some o)(n:H b=none):(qg h H).get? b=some o:=PySem.W.hideAll_get _ e fun hm=>by have q:(H b).isSome=true:=(uK.mp hm).2;rw[n]at q;simp at q
theorem ajz{h:bP}{H:Hp}{b:U}{o:ba}(e:(qg h H).get? b=some o):h.get? b=some o/\H b=none:=by have e':h.get? b=some o:=PySem.W.of_hideAll (Ds h H) e;refine{e',?_};cases q:H b with|none=>rfl|some x=>have hm:b∈Ds h H:=uK.mpr {DJ.mpr (Heap.lt_size e'),by simp[q]};have z:(qg h H).get? b=none:=PySem.W.hideAll_none (Ds h H) hm;rw[z]at e;cases e
end _L
namespace _L
structure Mod(K:bn)(mg:ac->Option af)(base:bP):Prop where
 yD:K.In base
 p8:base.Ns jp mg
 vf:∃mb,base.Ns Zj mb/\∀x:ac,x≠"__name__"->mb x=my x
 nolimit:base.NoLimit
structure Cx where
 prog:cA
 w:ck
 K:bn
 mg:ac->Option af
 base:bP
 A:cO
 N:List ac
 gy:ax
 sQ:Hp
 env:fC
 outer:List fC
 stack:List fC
 ex:List U
 fn:ac->Bool
 calm:Bool
 pn:List (U×ba)
 xe:af->ax->Prop
noncomputable def nV(l:List fC):List U:=l.filterMap (·.frame)
abbrev Cx.fs(X:Cx):List U:=nV X.outer
def sW(sc:fZ)(x:ac):Prop:=sc.names.lookup x=some .local∨sc.names.lookup x=some .cell∨sc.names.lookup x=some .free
def Loc(sc:fZ)(x:ac):Prop:=sc.names.lookup x=some .local∨sc.names.lookup x=some .cell
def Look(env:fC)(h:bP)(m:ac->Option af)(x:ac)(u:af):Prop:=(env.kindOf x=some .local/\m x=some u)∨((env.kindOf x=some .cell∨env.kindOf x=some .free)/\∃c,env.cells.lookup x=some c/\h.IsCell c (some u))
structure Cx.Ok(X:Cx):Prop where
 ir:Mod X.K X.mg X.base
 kind:X.env.scope.kind=.function
 p8:X.env.globals=jp
 vf:X.env.builtins=Zj
 above:X.gy.heap.objs.size<=X.env.locals
 inj:∀x y c,X.env.cells.lookup x=some c->X.env.cells.lookup y=some c->x=y
 has:∀x,(X.env.kindOf x=some .cell∨X.env.kindOf x=some .free)->∃c,X.env.cells.lookup x=some c
 xJ:∀x c,X.fn x=true->X.env.cells.lookup x=some c->X.gy.heap.objs.size<=c
 hd:X.calm=true->X.A.handled=none
 frames:X.A.frames=some X.stack
 bv:X.stack=X.outer∨(X.stack=X.env::X.outer/\X.env.frame=some X.env.locals)
 AW:∀b∈X.ex,b≠X.env.locals/\∀x c,X.env.cells.lookup x=some c->c≠b
 bs:∀b o,X.base.get? b=some o->X.gy.heap.get? b=some o/\X.sQ b=none
 pX:X.base.objs.size<=X.gy.heap.objs.size
 yV:∀b o,X.base.get? b=some o->b ∉ X.ex
 x0:∀b∈X.ex,b ∉ X.fs
 mM:X.gy.heap.FunFrames X.base X.outer
 tK:∀b∈X.fs,X.sQ b=none
structure Inv(X:Cx)(pins:List (U×ba))(σ:List (Option V))(H:Hp)(s:ax):Prop where
 ok:X.Ok
 os:s.os=X.gy.os
 gZ:xp s.gens
 base:Un X.fs X.ex X.sQ H X.gy.heap s.heap
 jb:∃m,s.heap.Ns X.env.locals m/\∀(i:Nat) (x:ac) (v:V),X.N[i]?=some x->σ[i]?=some (some v)->sW X.env.scope x->∃u,RelV v u/\Look X.env s.heap m x u
 cell:∀x c,X.env.cells.lookup x=some c->∃v,s.heap.IsCell c v
 free:H X.env.locals=none
 lU:∀x c,X.env.cells.lookup x=some c->H c=none
 lg:∀p∈X.pn++pins,s.heap.get? p.1=some p.2/\H p.1=none/\p.1≠X.env.locals/\p.1 ∉ X.fs/\∀v,p.2.data≠.cell v
 aO:dG X.prog X.w H s.heap
 bu:σ.length=X.N.length
section
variable{X:Cx}{pins:List (U×ba)}{σ:List (Option V)}{H H':Hp}{s:ax}{h':bP}
theorem Cx.Ok.ajr(ok:X.Ok){b:U}{o:ba}(e:X.base.get? b=some o):b ∉ X.fs:=fun hb=>by have:=(ok.mM.mem hb).1;rw[e]at this;cases this
theorem Inv.bs(I:Inv X pins σ H s):∀b o,X.base.get? b=some o->s.heap.get? b=some o/\H b=none:=fun b o e=>{I.base.keep b o (I.ok.bs b o e).1 (I.ok.bs b o e).2 (I.ok.ajr e) (I.ok.yV b o e),I.base.free b o (I.ok.bs b o e).1 (I.ok.bs b o e).2 (I.ok.yV b o e)}
theorem Inv.bk(I:Inv X pins σ H s):∀b o,X.base.get? b=some o->s.heap.get? b=some o:=fun b o e=>(I.bs b o e).1
theorem Inv.ir(I:Inv X pins σ H s):Mod X.K X.mg X.base:=I.ok.ir
theorem Inv.eO(I:Inv X pins σ H s):X.K.In s.heap:=I.ok.ir.yD.keeps I.bk
theorem Inv.lt(I:Inv X pins σ H s):X.env.locals<s.heap.objs.size:=let ⟨_,hn,_⟩:=I.jb;hn.lt
theorem Inv.sz(I:Inv X pins σ H s):X.gy.heap.objs.size<=s.heap.objs.size:=jk I.ok.above (gi I.lt)
theorem Inv.ajt(I:Inv X pins σ H s){a:U}(h:s.heap.objs.size<=a):a ∉ X.fs:=fun hb=>by obtain⟨_,o,ho,_⟩:=I.ok.mM.mem hb;exact aJ (iQ (Heap.lt_size ho) (jk I.sz h)) (qH _)
theorem Inv.tj(I:Inv X pins σ H s):∀x c,X.env.cells.lookup x=some c->c≠X.env.locals:=fun x c e z=>by obtain⟨v,o,ho,hd⟩:=I.cell x c e;obtain⟨m,⟨o',es,ep,ho',HB,_⟩,_⟩:=I.jb;rw[z,ho']at ho;cases ho;rw[HB]at hd;cases hd
theorem Inv.mM(I:Inv X pins σ H s):s.heap.FunFrames X.base X.outer:=by
 have all:∀(l:List fC),(∀b∈nV l,b∈X.fs)->X.gy.heap.FunFrames X.base l->s.heap.FunFrames X.base l:=by intro l;induction l with|nil=>intro _ _;trivial|cons env r ih=>intro hs hl;obtain⟨hk,⟨L,o,hf,hn,ho,hd⟩,hr⟩:=hl;have hL:L∈X.fs:=hs L (by unfold nV;rw[DG,hf];exact eS);obtain⟨sl,e⟩:=I.base.slot L o ho (I.ok.tK L hL) hL fun z=>I.ok.x0 L z hL;exact{hk,{L,_,hf,hn,e,hd},ih (fun b hb=>hs b (by unfold nV;rw[DG,hf];exact dq _ hb)) hr}
 exact all X.outer (fun _ hb=>hb) I.ok.mM
theorem Inv.stack(I:Inv X pins σ H s):s.heap.FunFrames X.base X.stack:=by
 rcases I.ok.bv with e |⟨e,hf⟩
 .rw[e];exact I.mM
 rw[e];obtain⟨m,hn,_⟩:=I.jb;refine .cons (by rw[I.ok.kind];decide) hf hn ?_ I.mM;exact Heap.get?_none_of_le (jk I.ok.pX I.ok.above)
theorem Inv.LH(I:Inv X pins σ H s):∀b∈nV X.stack,b∈X.env.locals::X.fs:=fun b hb=>by
 rcases I.ok.bv with e |⟨e,hf⟩
 .rw[e]at hb;exact dq _ hb
 rw[e]at hb;unfold nV at hb;rwa[DG,hf]at hb
theorem Inv.XE(I:Inv X pins σ H s):∀b∈nV X.stack,H b=none:=fun b hb=>by
 rcases bw.mp (I.LH b hb)with e |hb
 .rw[e];exact I.free
 obtain⟨_,o,ho,_⟩:=I.ok.mM.mem hb;exact I.base.free b o ho (I.ok.tK b hb) fun z=>I.ok.x0 b z hb
theorem Inv.step{g':Array MJ}{t':Nat}{d':Drawn}{ch:List U}(I:Inv X pins σ H s)
  (hch:∀b∈ch,(b∈X.ex∨X.gy.heap.objs.size<=b)/\b≠X.env.locals/\(∀x c,X.env.cells.lookup x=some c->c≠b)/\∀p∈X.pn++pins,p.1≠b)
  (keep:∀b o,b≠X.env.locals->b ∉ X.fs->b ∉ ch->s.heap.get? b=some o->H b=none->h'.get? b=some o)
  (slot:∀b o,b≠X.env.locals->b∈X.fs->b ∉ ch->s.heap.get? b=some o->H b=none->∃sl,h'.get? b=some {o with slots:=sl})(free:∀b o,b ∉ ch->s.heap.get? b=some o->H b=none->H' b=none)
  (there:∀b o,b ∉ ch->s.heap.get? b=some o->∃o',h'.get? b=some o')
  (qD:∀b xs,H b=some (.cH xs)->H' b=some (.cH xs))(nW:∀b o u,H b=some (.br o u)->H' b=some (.br o u))(qC:∀b ps,H b=some (.uy ps)->∃more,H' b=some (.uy (ps++more)))
  (ns:∀m,s.heap.Ns X.env.locals m->h'.Ns X.env.locals m)(aO:dG X.prog X.w H' h')(hg:xp g'):
  Inv X pins σ H' {s with heap:=h',gens:=g',drawn:=d',toks:=t'}:=by
 have neL:∀b o,X.gy.heap.get? b=some o->b≠X.env.locals:=fun b o e=>jl (iQ (Heap.lt_size e) I.ok.above);have neC:∀b o,X.gy.heap.get? b=some o->b ∉ X.ex->b ∉ ch:=fun b o e hx hb=>by
  rcases(hch b hb).1 with z |z
  .exact hx z
  exact aJ (iQ (Heap.lt_size e) z) (qH _)
 have N0:∀x c,X.env.cells.lookup x=some c->∀v,s.heap.IsCell c v->h'.IsCell c v:=fun x c e v ⟨o,ho,hd⟩=>by
  have yN:c ∉ ch:=fun z=>(hch c z).2.2.1 x c e rfl;by_cases hc:c∈X.fs
  .obtain⟨sl,q⟩:=slot c o (I.tj x c e) hc yN ho (I.lU x c e);exact{_,q,hd}
  exact{o,keep c o (I.tj x c e) hc yN ho (I.lU x c e),hd}
 refine{I.ok,I.os,hg,{fun b o e n hb hx=>?_,fun b o e n hb hx=>?_,fun b o e n hx=>?_,fun b o e hx=>?_,fun b xs e=>qD b xs (I.base.qD b xs e),fun b o xs e=>nW b o xs (I.base.nW b o xs e),fun b ps e=>?_},?_,fun x c e=>?_,?_,fun x c e=>?_,fun p hp=>?_,aO,I.bu}
 .exact keep b o (neL b o e) hb (neC b o e hx) (I.base.keep b o e n hb hx) (I.base.free b o e n hx)
 .obtain⟨sl,e1⟩:=I.base.slot b o e n hb hx;obtain⟨sl',e2⟩:=slot b _ (neL b o e) hb (neC b o e hx) e1 (I.base.free b o e n hx);exact{(sl'),e2}
 .obtain⟨o',e1⟩:=I.base.there b o e hx;exact free b o' (neC b o e hx) e1 (I.base.free b o e n hx)
 .obtain⟨o',e1⟩:=I.base.there b o e hx;exact there b o' (neC b o e hx) e1
 .obtain⟨m1,e1⟩:=I.base.qC b ps e;obtain⟨m2,e2⟩:=qC b _ e1;exact{m1++m2,by rw[e2,Array.append_assoc]}
 .obtain⟨m,hn,hl⟩:=I.jb;refine{m,ns m hn,fun i x v e1 e2 e3=>?_};obtain⟨u,r,l⟩:=hl i x v e1 e2 e3;refine{u,r,?_};rcases l with l |⟨k,c,e,z⟩
  .exact .inl l
  exact .inr {k,c,e,N0 x c e _ z}
 .obtain⟨v,z⟩:=I.cell x c e;exact{v,N0 x c e v z}
 .obtain⟨m,⟨o,_,_,ho,_⟩,_⟩:=I.jb;exact free _ o (fun z=>(hch _ z).2.1 rfl) ho I.free
 .obtain⟨v,o,ho,hd⟩:=I.cell x c e;exact free c o (fun z=>(hch c z).2.2.1 x c e rfl) ho (I.lU x c e)
 obtain⟨e,n,ne,nf,d⟩:=I.lg p hp;have yN:p.1 ∉ ch:=fun z=>(hch p.1 z).2.2.2 p hp rfl;exact{keep p.1 p.2 ne nf yN e n,free p.1 p.2 yN e n,ne,nf,d}
theorem Inv.un{t':Nat}(I:Inv X pins σ H s)(u:Un X.fs [] H H' s.heap h')(aO:dG X.prog X.w H' h'):Inv X pins σ H' {s with heap:=h',toks:=t'}:=by obtain⟨m,⟨o,es,ep,ho,r⟩,_⟩:=id I.jb;obtain⟨sl,hL⟩:=u.any ho I.free (by simp);exact I.step (g':=s.gens) (d':=s.drawn) (ch:=[]) (fun _ z=>nomatch z) (fun b o _ hb _ e n=>u.keep b o e n hb (by simp)) (fun b o _ hb _ e n=>u.slot b o e n hb (by simp)) (fun b o _ e n=>u.free b o e n (by simp)) (fun b o _ e=>u.there b o e (by simp)) u.qD u.nW u.qC (fun m' hm=>by obtain⟨o',iZ,mH,ho',r'⟩:=hm;rw[ho]at ho';cases ho';exact{_,iZ,mH,hL,r'}) aO I.gZ
theorem Inv.call{g':Array MJ}{t':Nat}{d':Drawn}{ch:List U}(I:Inv X pins σ H s)(u:Un (nV X.stack) ch H H' s.heap h')(aO:dG X.prog X.w H' h')(hg:xp g')
  (hch:∀b∈ch,(b∈X.ex∨X.gy.heap.objs.size<=b)/\b≠X.env.locals/\(∀x c,X.env.cells.lookup x=some c->c≠b)/\∀p∈X.pn++pins,p.1≠b):
  Inv X pins σ H' {s with heap:=h',gens:=g',drawn:=d',toks:=t'}:=by
 obtain⟨m,⟨o,es,ep,ho,r⟩,_⟩:=id I.jb;obtain⟨sl,hL⟩:=u.any ho I.free fun z=>(hch _ z).2.1 rfl;exact I.step (ch:=ch) hch (fun b o hL hb hc e n=>u.keep b o e n (fun z=>(bw.mp (I.LH b z)).elim hL hb) hc) (fun b o _ _ hc e n=>u.any e n hc) (fun b o hc e n=>u.free b o e n hc) (fun b o hc e=>u.there b o e hc) u.qD u.nW u.qC (fun m' hm=>by obtain⟨o',iZ,mH,ho',r'⟩:=hm;rw[ho]at ho';cases ho';exact{_,iZ,mH,hL,r'}) aO hg
theorem Inv.jg{t':Nat}{it:U}(I:Inv X pins σ H s)(k:∀b o,b≠it->s.heap.get? b=some o->h'.get? b=some o)(hn:H it=none)(hL:it≠X.env.locals)
  (h1:it∈X.ex∨X.gy.heap.objs.size<=it)(h2:∀x c,X.env.cells.lookup x=some c->c≠it)(h3:∀p∈X.pn++pins,p.1≠it):Inv X pins σ H {s with heap:=h',toks:=t'}:=by
 have RV:∀b u,H b=some u->b≠it:=fun b u e z=>by rw[z,hn]at e;cases e
 refine I.step (g':=s.gens) (d':=s.drawn) (ch:=[it]) (fun b hb=>?_) (fun b o _ _ hc e _=>k b o (fun z=>hc (by simp[z])) e) (fun b o _ _ hc e _=>{o.slots,k b o (fun z=>hc (by simp[z])) e}) (fun _ _ _ _ n=>n)
  (fun b o hc e=>{o,k b o (fun z=>hc (by simp[z])) e}) (fun _ _ e=>e) (fun _ _ _ e=>e) (fun b ps e=>{#[],by rw[e];simp}) (fun m hm=>?_) (fun b u e=>?_) I.gZ
 .have e:b=it:=by simpa using hb
  subst e;exact{(h1),hL,h2,h3}
 .obtain⟨o,es,ep,ho,r⟩:=hm;exact{o,es,ep,k _ o (pJ hL) ho,r}
 refine(I.aO b u e).si (fun c v hc q=>k c v ?_ q) (fun _ q=>q) fun _ _ q=>q;rcases hc with z |z
 .rw[z];exact RV b u e
 exact RV c _ z
theorem Inv.dZ(I:Inv X pins σ H s)(t:Nat):Inv X pins σ H {s with toks:=t}:=I.un (h':=s.heap) (t':=t) Un.refl I.aO
theorem Inv.hU{t':Nat}(I:Inv X pins σ H s)(k:∀b u,s.heap.get? b=some u->h'.get? b=some u):Inv X pins σ H {s with heap:=h',toks:=t'}:=I.un (Un.hU k) (I.aO.hU k)
theorem Inv.j8{a:U}{o:HO}{t':Nat}(I:Inv X pins σ H s)(k:∀b u,s.heap.get? b=some u->h'.get? b=some u)(hp:s.heap.objs.size<=a)(new:eV X.prog X.w (ae H a o) h' a o):
  Inv X pins σ (ae H a o) {s with heap:=h',toks:=t'}:=I.un (Un.j8 k hp (I.aO.fresh hp)) (I.aO.j8 k hp new)
theorem Inv.write{x e:U}{o:HO}{t':Nat}(I:Inv X pins σ H s)(mu:pP (H x))(he:e=x∨H e=some (.own x))(k:∀b u,b≠e->s.heap.get? b=some u->h'.get? b=some u)(heo:∃u,h'.get? e=some u)
  (new:eV X.prog X.w (ae H x o) h' x o):Inv X pins σ (ae H x o) {s with heap:=h',toks:=t'}:=I.un (Un.write mu he k heo) (I.aO.write mu he k heo new)
theorem Inv.anE{σ':List (Option V)}(I:Inv X pins σ H s)(hl:σ'.length=σ.length)(w:∀(i:Nat) v,σ'[i]?=some (some v)->σ[i]?=some (some v)):Inv X pins σ' H s:=⟨I.ok,I.os,I.gZ,I.base,let ⟨m,hn,hl'⟩:=I.jb;{m,hn,fun i x v e1 e2 e3=>hl' i x v e1 (w i v e2) e3},I.cell,I.free,I.lU,I.lg,I.aO,hl.trans I.bu⟩
theorem Inv.Tc{Tb:List (U×ba)}(I:Inv X pins σ H s)(h:∀p∈Tb,s.heap.get? p.1=some p.2/\H p.1=none/\p.1≠X.env.locals/\p.1 ∉ X.fs/\∀v,p.2.data≠.cell v):Inv X Tb σ H s:={I.ok,I.os,I.gZ,I.base,I.jb,I.cell,I.free,I.lU,fun p hp=>(cz.mp hp).elim (fun z=>I.lg p (nh _ z)) (h p),I.aO,I.bu}
theorem Js{N:List ac}(hN:N.Nodup){i j:Nat}{x:ac}(a:N[i]?=some x)(b:N[j]?=some x):i=j:=by obtain⟨h1,e1⟩:=fB.mp a;obtain⟨h2,e2⟩:=fB.mp b;exact(aoV hN).mp (e1.trans e2.symm)
theorem XH{M:z7}{A:cO}{E:af->ax->Prop}{i:Nat}{x:ac}{v:V}{u:af}{Q:Unit->ax->Prop}(I:Inv X pins σ H s)(hN:X.N.Nodup)(hi:X.N[i]?=some x)(hx:Loc X.env.scope x)(r:RelV v u)
  (h:∀s',Inv X pins (σ.set i (some v)) H s'->(∃a,Heap.SameBut a s.heap s'.heap/\(a=X.env.locals∨X.env.cells.lookup x=some a))->Q () s')(hf:autoParam (X.fn x=true∨X.env.scope.names.lookup x=some .local) _L.aF):aY M A (Zp X.env x u) Q E s:=by
 obtain⟨m,hn,hl⟩:=id I.jb;have afP:(X.env.scope.kind==.class ||(X.env.scope.kind==.module&&X.env.locals !=X.env.globals))=false:=by rw[I.ok.kind];rfl
 have hiσ:i<σ.length:=by rw[I.bu];exact(fB.mp hi).1
 have tj:=I.tj;have Yg:∀{a:U} {h':bP},(∃o,s.heap.get? a=some o/\H a=none)->Heap.SameBut a s.heap h'->dG X.prog X.w H h':=fun{a h'} ha hs b ob e=>by
  obtain⟨_,_,rG⟩:=ha;refine(I.aO b ob e).si (fun c w' hc q=>(hs.2 c ?_).trans q) (fun _ q=>q) fun _ _ q=>q;rintro rfl;rcases hc with rfl |hc
  .rw[rG]at e;cases e
  rw[rG]at hc;cases hc
 rcases hx with hk |hk
 .refine wpAny_storeName_local hk hn (fun h' Bq hs=>?_) afP;obtain⟨oL,_,_,hoL,_⟩:=id hn;refine h _ {I.ok,I.os,I.gZ,{fun b o e n hb hx=>?_,fun b o e n hb hx=>?_,I.base.free,fun b o e hx=>?_,I.base.qD,I.base.nW,I.base.qC},{_,Bq,fun j y v' e1 e2 e3=>?_},fun y c e=>?_,I.free,I.lU,fun p hp=>?_,Yg {(oL),hoL,I.free} hs,by simpa using I.bu} {_,hs,.inl rfl}
  .exact(hs.2 b (jl (iQ (Heap.lt_size e) I.ok.above))).trans (I.base.keep b o e n hb hx)
  .obtain⟨sl,e1⟩:=I.base.slot b o e n hb hx;exact{sl,(hs.2 b (jl (iQ (Heap.lt_size e) I.ok.above))).trans e1}
  .obtain⟨o',e1⟩:=I.base.there b o e hx;exact{o',(hs.2 b (jl (iQ (Heap.lt_size e) I.ok.above))).trans e1}
  .by_cases hj:j=i
   .subst hj;rw[hi]at e1;cases e1;rw[YO hiσ]at e2;cases e2;exact{u,r,.inl {hk,by simp}}
   rw[YN (pJ hj)]at e2;obtain⟨u',r',q⟩:=hl j y v' e1 e2 e3;refine{u',r',?_};rcases q with⟨k,e⟩ |⟨k,c,e,z⟩
   .refine .inl {k,?_};have:y≠x:=fun e=>hj (Js hN e1 (e▸hi));simp[this,e]
   exact .inr {k,c,e,z.sameBut hs (tj y c e)}
  .obtain⟨w',z⟩:=I.cell y c e;exact{w',z.sameBut hs (tj y c e)}
  obtain⟨e,n,ne,nf,d⟩:=I.lg p hp;exact{(hs.2 p.1 ne).trans e,n,ne,nf,d}
 have HF:X.fn x=true:=by
  rcases hf with z |z
  .exact z
  rw[z]at hk;cases hk
 obtain⟨c,hc⟩:=I.ok.has x (.inl hk);obtain⟨w',z⟩:=I.cell x c hc;refine wpAny_storeName_cell I.ok.kind hk hc z (fun h' PH hs=>?_);obtain⟨oc,Bv,af7⟩:=id z;refine h {s with heap:=h'} {I.ok,I.os,I.gZ,{fun b o e n hb hx=>?_,fun b o e n hb hx=>?_,I.base.free,fun b o e hx=>?_,I.base.qD,I.base.nW,I.base.qC},{m,hn.sameBut hs (pJ (tj x c hc)),fun j y v' e1 e2 e3=>?_},fun y c' e=>?_,I.free,I.lU,fun p hp=>?_,Yg {oc,Bv,I.lU x c hc} hs,by simpa using I.bu} {c,hs,.inr hc}
 .exact(hs.2 b (jl (iQ (Heap.lt_size e) (I.ok.xJ x c HF hc)))).trans (I.base.keep b o e n hb hx)
 .obtain⟨sl,e1⟩:=I.base.slot b o e n hb hx;exact{sl,(hs.2 b (jl (iQ (Heap.lt_size e) (I.ok.xJ x c HF hc)))).trans e1}
 .obtain⟨o',e1⟩:=I.base.there b o e hx;exact{o',(hs.2 b (jl (iQ (Heap.lt_size e) (I.ok.xJ x c HF hc)))).trans e1}
 .by_cases hj:j=i
  .subst hj;rw[hi]at e1;cases e1;rw[YO hiσ]at e2;cases e2;exact{u,r,.inr {.inl hk,c,hc,PH}}
  rw[YN (pJ hj)]at e2;obtain⟨u',r',q⟩:=hl j y v' e1 e2 e3;refine{u',r',?_};rcases q with q |⟨k,c',e,z'⟩
  .exact .inl q
  refine .inr {k,c',e,z'.sameBut hs ?_};rintro rfl;exact hj (Js hN e1 (I.ok.inj _ _ _ e hc▸hi))
 .by_cases PJ:c'=c
  .subst PJ;exact{_,PH}
  obtain⟨w2,z2⟩:=I.cell y c' e;exact{w2,z2.sameBut hs PJ}
 obtain⟨e,n,ne,nf,d⟩:=I.lg p hp;refine{(hs.2 p.1 ?_).trans e,n,ne,nf,d};intro q;rw[q,Bv]at e;have q':oc=p.2:=nj e;exact d w' (by rwa[←q'])
theorem LI{M:z7}{A:cO}{E:af->ax->Prop}{i:Nat}{x:ac}{v:V}{u:af}{Q:Unit->ax->Prop}(I:Inv X pins σ H s)(hN:X.N.Nodup)(hi:X.N[i]?=some x)(hx:Loc X.env.scope x)(r:RelV v u)
  (h:∀s',Inv X pins (σ.set i (some v)) H s'->Q () s')(hf:autoParam (X.fn x=true∨X.env.scope.names.lookup x=some .local) _L.aF):aY M A (Zp X.env x u) Q E s:=
 XH I hN hi hx r (fun s' I' _=>h s' I') hf
theorem Inv.aa9{s':ax}{ch:List U}(I:Inv X pins σ H s)(ho:s'.os=s.os)(u:Un (nV X.stack) ch H H' s.heap s'.heap)(aO:dG X.prog X.w H' s'.heap)(hg:xp s'.gens)
  (hch:∀b∈ch,(b∈X.ex∨X.gy.heap.objs.size<=b)/\b≠X.env.locals/\(∀x c,X.env.cells.lookup x=some c->c≠b)/\∀p∈X.pn++pins,p.1≠b):Inv X pins σ H' s':=by
 obtain⟨h',g',d',t',o'⟩:=s';have e:o'=s.os:=ho;subst e;exact I.call (g':=g') (t':=t') (d':=d') u aO hg hch
end
abbrev XK:=af->Option U->Hp->Prop
abbrev St:=List (Option V)
abbrev VK:=V->Hp->Prop
abbrev TE:=St->Hp->VK->Prop
abbrev TT:=St->Hp->(Bool->Hp->Prop)->Prop
abbrev TA:=St->Hp->(List V->Hp->Prop)->Prop
structure Ends where
 nx:St->Hp->Prop
 rt:VK
 bk:St->Hp->Prop:=fun _ _=>False
 ct:St->Hp->Prop:=fun _ _=>False
abbrev TS:=Ends->St->Hp->Prop
inductive EP(X:Cx)(pins:List (U×ba))(σ:St)(Q:VK)(u:af)(s':ax):Prop where|mk (v:V) (H':Hp) (a:Inv X pins σ H' s') (b:RelV v u) (c:Q v H'):EP X pins σ Q u s'
inductive TP(X:Cx)(pins:List (U×ba))(σ:St)(Q:Bool->Hp->Prop)(b:Bool)(s':ax):Prop where|mk (H':Hp) (a:Inv X pins σ H' s') (c:Q b H'):TP X pins σ Q b s'
inductive AP(X:Cx)(pins:List (U×ba))(σ:St)(Q:List V->Hp->Prop)(us:List af)(s':ax):Prop where|mk (vs:List V) (H':Hp) (a:Inv X pins σ H' s') (b:bF vs us) (c:Q vs H'):AP X pins σ Q us s'
inductive SN(X:Cx)(pins:List (U×ba))(s':ax)(N:St->Hp->Prop):Prop where|mk (σ':St) (H':Hp) (a:Inv X pins σ' H' s') (c:N σ' H'):SN X pins s' N
inductive SR(X:Cx)(pins:List (U×ba))(s':ax)(u:af)(N:VK):Prop where|mk (v:V) (σ':St) (H':Hp) (a:Inv X pins σ' H' s') (b:RelV v u) (c:N v H'):SR X pins s' u N
noncomputable def _S(X:Cx)(pins:List (U×ba))(D:Ends)(f:Flow)(s':ax):Prop:=
 match f with
 |.next=>SN X pins s' D.nx|.brk=>SN X pins s' D.bk
 |.cont=>SN X pins s' D.ct|.ret u=>SR X pins s' u D.rt
def PE(X:Cx)(e:bz)(t:TE):Prop:=∀(pins:List (U×ba)) (s:ax) (σ:St) (H:Hp) (Q:VK),Inv X pins σ H s->t σ H Q->aY (bp X.prog X.w) X.A (cB e X.env) (EP X pins σ Q) X.xe s
def PT(X:Cx)(e:bz)(t:TT):Prop:=∀(pins:List (U×ba)) (s:ax) (σ:St) (H:Hp) (Q:Bool->Hp->Prop),Inv X pins σ H s->t σ H Q->aY (bp X.prog X.w) X.A (DZ e X.env (cB e X.env)) (TP X pins σ Q) X.xe s
def PW(X:Cx)(e:bz)(t:TT):Prop:=∀(whole:jn af) (pins:List (U×ba)) (s:ax) (σ:St) (H:Hp) (Q:Bool->Hp->Prop),Inv X pins σ H s->t σ H Q->aY (bp X.prog X.w) X.A (DZ e X.env whole) (TP X pins σ Q) X.xe s
theorem PW.pt{X:Cx}{e:bz}{t:TT}(h:PW X e t):PT X e t:=h _
def PA(X:Cx)(es:List bz)(t:TA):Prop:=∀(pos:cS) (pins:List (U×ba)) (s:ax) (σ:St) (H:Hp) (Q:List V->Hp->Prop),Inv X pins σ H s->t σ H Q->aY (bp X.prog X.w) X.A (spliced (ig pos (cX es X.env))) (AP X pins σ Q) X.xe s
def PS(X:Cx)(st:gj)(t:TS):Prop:=∀(pins:List (U×ba)) (s:ax) (σ:St) (H:Hp) (D:Ends),Inv X pins σ H s->t D σ H->aY (bp X.prog X.w) X.A (exec st X.env) (_S X pins D) X.xe s
def kS(X:Cx)(st:List gj)(t:TS):Prop:=∀(pins:List (U×ba)) (s:ax) (σ:St) (H:Hp) (D:Ends),Inv X pins σ H s->t D σ H->aY (bp X.prog X.w) X.A (execs st X.env) (_S X pins D) X.xe s
theorem bj{α:Type}{t:jn α}{Q Q':α->ax->Prop}{M:z7}{A:cO}{E:af->ax->Prop}{s:ax}(h:aY M A t Q E s)(hQ:∀a s,Q a s->Q' a s):aY M A t Q' E s:=nA h hQ fun _ _ x=>x
end _L
namespace _L
section
variable{X:Cx}
def dz(i:Nat):TE:=fun σ H Q=>∃v,σ[i]?=some (some v)/\Q v H
def tC(v:V):TE:=fun _ H Q=>Q v H
theorem ak3{i:Nat}{x:ac}{pos:cS}(hN:X.N[i]?=some x)(hv:sW X.env.scope x)(hd:autoParam ((x==("__debug__":ac))=false) _L.aD)(hcd:autoParam ((x==("__classdict__":ac))=false) _L.aD):PE X (.Name x pos) (dz i):=by
 intro pins s σ H Q I h;obtain⟨v,e,h⟩:=h;obtain⟨m,hn,hl⟩:=I.jb;obtain⟨u,r,l⟩:=hl i x v hN e hv;have fin:EP X pins σ Q u s:={(v),H,I,r,h};rcases l with⟨hk,hm⟩ |⟨hk,c,hc,Bf⟩
 .exact Zq (apJ I.ok.kind hk hn hm fin) hd
 rcases hk with hk |hk
 .exact Zq (apI I.ok.kind hk hc Bf fin) hd
 exact Zq (wpAny_loadName_free I.ok.kind hk hc Bf fin hcd) hd
theorem bV{i j pos}:PE X (.Constant (.int i) j pos) (tC (.int i)):=fun _ _ _ H _ I h=>wpAny_Constant_int {.int i,H,I.dZ _,{_,rfl},h}
theorem dX{b j pos}:PE X (.Constant (.bool b) j pos) (tC (.bl b)):=fun _ _ _ H _ I h=>Constant_bool {.bl b,H,I,rfl,h}
theorem oo{j pos}:PE X (.Constant .none j pos) (tC .aN):=fun _ _ _ H _ I h=>Y5 {.aN,H,I,rfl,h}
theorem cM{x j pos}:PE X (.Constant (.str x) j pos) (tC (.str x)):=fun _ _ _ H _ I h=>Calls.Constant_str {.str x,H,I.dZ _,{_,rfl},h}
def Gl(X:Cx)(x:ac):Prop:=X.env.kindOf x=some .globalImplicit
theorem BI{E:af->ax->Prop}{pins:List (U×ba)}{s:ax}{σ:St}{H:Hp}{x:ac}{u:af}{pos:cS}{Q:af->ax->Prop}(I:Inv X pins σ H s)(hg:Gl X x)(hm:X.mg x=some u)(h:Q u s)
  (hd:autoParam ((x==("__debug__":ac))=false) _L.aD):aY (bp X.prog X.w) X.A (cB (.Name x pos) X.env) Q E s:=
 Calls.Name_function_global I.ok.kind hg (Calls.loadGlobal_global (by rw[I.ok.p8];exact I.ir.p8.keeps I.bk) hm h) hd
theorem IK{E:af->ax->Prop}{pins:List (U×ba)}{s:ax}{σ:St}{H:Hp}{x:ac}{u:af}{pos:cS}{Q:af->ax->Prop}(I:Inv X pins σ H s)(hg:Gl X x)(hm:X.mg x=none)(hv:my x=some u)(h:Q u s)
  (hn:autoParam (x≠"__name__") _L.aD)(hd:autoParam ((x==("__debug__":ac))=false) _L.aD):aY (bp X.prog X.w) X.A (cB (.Name x pos) X.env) Q E s:=by
 obtain⟨mb,h1,h2⟩:=I.ir.vf;exact Calls.Name_function_global I.ok.kind hg (Calls.loadGlobal_builtin (by rw[I.ok.p8];exact I.ir.p8.keeps I.bk) hm (by rw[I.ok.vf];exact h1.keeps I.bk) ((h2 x hn).trans hv) h) hd
theorem KO{x:ac}{v:V}{u:af}{pos:cS}(hg:Gl X x)(hm:X.mg x=some u)(r:RelV v u)(hd:autoParam ((x==("__debug__":ac))=false) _L.aD):PE X (.Name x pos) (tC v):=fun _ _ _ H _ I h=>BI I hg hm {(v),H,I,r,h} hd
theorem SS{x:ac}{v:V}{u:af}{pos:cS}(hg:Gl X x)(hm:X.mg x=none)(hv:my x=some u)(r:RelV v u)(hn:autoParam (x≠"__name__") _L.aD)(hd:autoParam ((x==("__debug__":ac))=false) _L.aD):PE X (.Name x pos) (tC v):=fun _ _ _ H _ I h=>IK I hg hm hv {(v),H,I,r,h} hn hd
variable{a b:bz}{ta tb:TE}{pos:cS}
def PC(X:Cx)(op:sB)(a b:bz)(t:TE):Prop:=∀(pins:List (U×ba)) (s:ax) (σ:St) (H:Hp) (Q:VK),Inv X pins σ H s->t σ H Q->aY (bp X.prog X.w) X.A (cB a X.env) (fun v s₁=>aY (bp X.prog X.w) X.A (cB b X.env) (fun u s₂=>aY (bp X.prog X.w) X.A (jo op v u) (EP X pins σ Q) X.xe s₂) X.xe s₁) X.xe s
theorem ajp(b:bz){op:sB}(h:op≠.In)(h2:op≠.NotIn):z8 op b=false:=by
 have e1:(op==CmpOp.In)=false:=by cases op<;>first |rfl |exact aJ rfl h
 have e2:(op==CmpOp.NotIn)=false:=by cases op<;>first |rfl |exact aJ rfl h2
 cases b<;>first |rfl |(show(_&&(op==.In ||op==.NotIn)&&_)=false;rw[e1,e2,zJ,zG,zH])
def LM(ta:TE):TE:=fun σ H Q=>ta σ H fun x H1=>Q (.bl (decide (x=.aN))) H1
def LQ(ta:TE):TE:=fun σ H Q=>ta σ H fun x H1=>Q (.bl (!decide (x=.aN))) H1
theorem RelV.R1{x:V}{v:af}(r:RelV x v):(v==Value.none)=decide (x=.aN):=by
 cases x with
 |aN=>cases r;rfl|bl _=>cases r;rfl
 |int _=>obtain⟨t,rfl⟩:=r;rfl|str _=>obtain⟨t,rfl⟩:=r;rfl
 |iX _=>obtain⟨t,rfl⟩:=r;rfl|rp _=>obtain⟨t,rfl⟩:=r;rfl
 |ref _=>cases r;rfl|ty _=>cases r;rfl
theorem wt{j jC}(ha:PE X a ta):PC X .Is a (.Constant .none j jC) (LM ta):=by intro pins s σ H Q I h;refine bj (ha pins s σ H _ I h) fun v s1 ⟨x,H1,I1,r1,q1⟩=>?_;exact Y5 (is_none_gen {.bl _,H1,I1,by rw[r1.R1];rfl,q1})
theorem akU{j jC}(ha:PE X a ta):PC X .IsNot a (.Constant .none j jC) (LQ ta):=by intro pins s σ H Q I h;refine bj (ha pins s σ H _ I h) fun v s1 ⟨x,H1,I1,r1,q1⟩=>?_;exact Y5 (isnot_none_gen {.bl _,H1,I1,by rw[r1.R1];rfl,q1})
def tB(t:TE):TT:=fun σ H Q=>t σ H fun x H1=>∃c,x=.bl c/\Q c H1
theorem SV{op:sB}{t:TE}(h:PC X op a b t)(h1:autoParam (z8 op b=false) _L.aR):PE X (.Compare a [op] [b] pos) t:=fun pins s σ H Q I hw=>apA (h pins s σ H Q I hw) h1
theorem ot{op:sB}{t:TE}(h:PC X op a b t)(h1:autoParam (z8 op b=false) _L.aR):PT X (.Compare a [op] [b] pos) (tB t):=by intro pins s σ H Q I hw;refine apH (bj (h pins s σ H _ I hw) fun v s1 h1=>bj h1 fun u s2 h2=>bj h2 fun c s3 ⟨x,H1,I1,r1,q1⟩=>?_) h1;obtain⟨d,rfl,q⟩:=q1;cases r1;exact qK {(H1),I1,q}
theorem bW{e:bz}{t:TE}(h:PE X e t)(he:autoParam (∀whole,DZ e X.env whole=(do let v←whole;D7 e.pos;holding [v] (truthy v))) _L.aI):PT X e (tB t):=by intro pins s σ H Q I hw;refine isTrue_plain (bj (h pins s σ H _ I hw) fun v s1 ⟨x,H1,I1,r1,q1⟩=>?_) (he _);obtain⟨d,rfl,q⟩:=q1;cases r1;exact qK {(H1),I1,q}
variable{tA Dg:TT}{rest:List bz}
def De(t u:TT):TT:=fun σ H Q=>t σ H fun c H1=>if c=true then u σ H1 Q else Q false H1
def Dm(t u:TT):TT:=fun σ H Q=>t σ H fun c H1=>if c=true then Q true H1 else u σ H1 Q
def LP(t:TT):TT:=fun σ H Q=>t σ H fun c H1=>Q (!c) H1
theorem mh(ha:PT X a tA):PW X (.BoolOp .And [a] pos) tA:=by intro wh pins s σ H Q I h;refine isTrue_and (bj (ha pins s σ H Q I h) fun c s1 e=>?_);cases c with|true=>exact isTrue_and_nil e|false=>exact e
theorem jE(ha:PT X a tA):PW X (.BoolOp .Or [a] pos) tA:=by intro wh pins s σ H Q I h;refine isTrue_or (bj (ha pins s σ H Q I h) fun c s1 e=>?_);cases c with|false=>exact isTrue_or_nil e|true=>exact e
theorem jD(ha:PT X a tA)(hb:PW X (.BoolOp .And (b::rest) pos) Dg):PW X (.BoolOp .And (a::b::rest) pos) (De tA Dg):=by intro wh pins s σ H Q I h;refine isTrue_and (bj (ha pins s σ H _ I h) fun c s1 ⟨H1,I1,q1⟩=>?_);cases c with|true=>exact hb wh pins s1 σ H1 Q I1 q1|false=>exact{(H1),I1,q1}
theorem iN(ha:PT X a tA)(hb:PW X (.BoolOp .Or (b::rest) pos) Dg):PW X (.BoolOp .Or (a::b::rest) pos) (Dm tA Dg):=by intro wh pins s σ H Q I h;refine isTrue_or (bj (ha pins s σ H _ I h) fun c s1 ⟨H1,I1,q1⟩=>?_);cases c with|true=>exact{(H1),I1,q1}|false=>exact hb wh pins s1 σ H1 Q I1 q1
theorem fe(ha:PT X a tA):PT X (.UnaryOp .Not a pos) (LP tA):=by intro pins s σ H Q I h;exact isTrue_not (bj (ha pins s σ H (fun c H1=>Q (!c) H1) I h) fun c s1 ⟨H1,I1,q1⟩=>{(H1),I1,q1})
def zt(ta tb:TE):TE:=fun σ H Q=>ta σ H fun x H1=>∃c,x=.bl c/\if c=true then tb σ H1 Q else Q (.bl false) H1
def LU(ta tb:TE):TE:=fun σ H Q=>ta σ H fun x H1=>∃c,x=.bl c/\if c=true then Q (.bl true) H1 else tb σ H1 Q
def LR(ta:TE):TE:=fun σ H Q=>ta σ H fun x H1=>∃c,x=.bl c/\Q (.bl (!c)) H1
theorem oq{op}{t:TE}(h:PE X a t):PE X (.BoolOp op [a] pos) t:=fun pins s σ H Q I hw=>BoolOp_one (h pins s σ H Q I hw)
theorem wu(ha:PE X a ta)(hb:PE X (.BoolOp .And (b::rest) pos) tb):PE X (.BoolOp .And (a::b::rest) pos) (zt ta tb):=by intro pins s σ H Q I h;refine BoolOp_and (bj (ha pins s σ H _ I h) fun v s1 ⟨x,H1,I1,r1,q1⟩=>?_);obtain⟨c,rfl,q1⟩:=q1;cases r1;refine qK ?_;cases c with|true=>exact hb pins s1 σ H1 Q I1 q1|false=>exact{.bl false,H1,I1,rfl,q1}
theorem wz(ha:PE X a ta)(hb:PE X (.BoolOp .Or (b::rest) pos) tb):PE X (.BoolOp .Or (a::b::rest) pos) (LU ta tb):=by intro pins s σ H Q I h;refine BoolOp_or (bj (ha pins s σ H _ I h) fun v s1 ⟨x,H1,I1,r1,q1⟩=>?_);obtain⟨c,rfl,q1⟩:=q1;cases r1;refine qK ?_;cases c with|false=>exact hb pins s1 σ H1 Q I1 q1|true=>exact{.bl true,H1,I1,rfl,q1}
theorem ak2(ha:PE X a ta):PE X (.UnaryOp .Not a pos) (LR ta):=by intro pins s σ H Q I h;refine UnaryOp_ (bj (ha pins s σ H _ I h) fun v s1 ⟨x,H1,I1,r1,q1⟩=>?_);obtain⟨c,rfl,q1⟩:=q1;cases r1;exact not_of (qK {.bl (!c),H1,I1,rfl,q1})
def LL(t:TT)(ta tb:TE):TE:=fun σ H Q=>t σ H fun c H1=>if c=true then ta σ H1 Q else tb σ H1 Q
theorem mV{c:bz}(hc:PT X c tA)(ha:PE X a ta)(hb:PE X b tb):PE X (.IfExp c a b pos) (LL tA ta tb):=by intro pins s σ H Q I h;refine wpAny_IfExp (bj (hc pins s σ H _ I h) fun d s1 ⟨H1,I1,q1⟩=>?_);cases d with|true=>exact ha pins s1 σ H1 Q I1 q1|false=>exact hb pins s1 σ H1 Q I1 q1
end
end _L
namespace _L
def aB(K:bn)(H:Hp)(a:U)(xs:List V):Prop:=Rd H a (.ag xs)∨∃(o:ba) (its:Array af) (n:Nat),K.lookup a=some o/\o.cls=.type "list"/\o.dict=none/\o.data=.seq its n/\its.size<=cp/\bF xs its.toList
def eW(K:bn)(H:Hp)(a:U)(xs:List V):Prop:=Rd H a (.cH xs)∨∃(o:ba) (its:Array af) (n:Nat),K.lookup a=some o/\o.cls=.type "tuple"/\o.data=.seq its n/\its.size<=cp/\bF xs its.toList
noncomputable def aaD:af->Option V
 |.none=>some .aN|.bool b=>some (.bl b)
 |.int i _=>some (.int i)|.str x _=>some (.str x)
 |.bytes b _=>some (.iX b)|.float b _=>some (.rp b)
 |.ref a=>some (.ref a)|.type n=>some (.ty n)
 |_=>none
theorem RelV.NB{x:V}{u:af}(r:RelV x u):aaD u=some x:=by
 cases x with
 |aN=>cases r;rfl|bl _=>cases r;rfl
 |int _=>obtain⟨t,rfl⟩:=r;rfl|str _=>obtain⟨t,rfl⟩:=r;rfl
 |iX _=>obtain⟨t,rfl⟩:=r;rfl|rp _=>obtain⟨t,rfl⟩:=r;rfl
 |ref _=>cases r;rfl|ty _=>cases r;rfl
theorem RelV.inj{x y:V}{u:af}(r:RelV x u)(q:RelV y u):x=y:=nj (r.NB.symm.trans q.NB)
theorem bF.inj:∀{xs ys:List V} {us:List af},bF xs us->bF ys us->xs=ys|_,_,_,.nil,.nil=>rfl|_,_,_,.cons r t,.cons r' t'=>by rw[r.inj r',bF.inj t t']
section
variable{X:Cx}{pins:List (U×ba)}{σ:St}{H:Hp}{s:ax}{a:U}{xs ys:List V}
theorem aB.of{K:bn}(h:H a=some (.ag xs)):aB K H a xs:=.inl (.inl h)
theorem eW.of{K:bn}(h:H a=some (.cH xs)):eW K H a xs:=.inl (.inl h)
theorem Inv.list(I:Inv X pins σ H s)(h:aB X.K H a xs):∃its:List af,bF xs its/\PlainL s.heap a its.toArray/\xs.length<=cp:=by
 rcases h with h |⟨o,its,n,hk,hc,hd,hs,hz,r⟩
 .obtain⟨z,its,n,r,e⟩:=h.ok I.aO;exact{its,r,{_,n,e,rfl,rfl,rfl},z}
 refine{its.toList,r,{o,n,I.eO a o hk,hc,hd,by simpa using hs},?_};have e:=r.length;simp?[Yv]at e;lia
theorem Inv.tuple(I:Inv X pins σ H s)(h:eW X.K H a xs):∃its:List af,bF xs its/\IsTup s.heap a its.toArray/\xs.length<=cp:=by
 rcases h with h |⟨o,its,n,hk,hc,hs,hz,r⟩
 .obtain⟨z,its,r,p⟩:=h.ok I.aO;exact{(its),r,p,z}
 refine{its.toList,r,{o,I.eO a o hk,hc,n,by simpa using hs},?_};have e:=r.length;simp?[Yv]at e;lia
theorem Inv.ahx(I:Inv X pins σ H s)(h:aB X.K H a xs)(h':aB X.K H a ys):xs=ys:=by
 obtain⟨its,r,⟨o,n,e,_,_,d⟩,_⟩:=I.list h;obtain⟨its',r',⟨o',n',e',_,_,d'⟩,_⟩:=I.list h';rw[e]at e';cases e';rw[d]at d';injection d' with d1 _;have:its=its':=by simpa using eU Mj d1
 subst this;exact r.inj r'
theorem Inv.ano(I:Inv X pins σ H s)(h:eW X.K H a xs)(h':eW X.K H a ys):xs=ys:=by
 obtain⟨its,r,⟨o,e,_,n,d⟩,_⟩:=I.tuple h;obtain⟨its',r',⟨o',e',_,n',d'⟩,_⟩:=I.tuple h';rw[e]at e';cases e';rw[d]at d';injection d' with d1 _;have:its=its':=by simpa using eU Mj d1
 subst this;exact r.inj r'
end
noncomputable abbrev Cx.pG(X:Cx)(E:af->ax->Prop):Cx:={X with xe:=E}
abbrev Cx.yX(X:Cx):Cx:=X.pG fun _ _=>False
theorem Cx.Ok.pG{X:Cx}(ok:X.Ok)(E:af->ax->Prop):(X.pG E).Ok:={(ok.ir),ok.kind,ok.p8,ok.vf,ok.above,ok.inj,ok.has,ok.xJ,ok.hd,ok.frames,ok.bv,ok.AW,ok.bs,ok.pX,ok.yV,ok.x0,ok.mM,ok.tK}
theorem Cx.Ok.ss{X:Cx}{E:af->ax->Prop}(ok:(X.pG E).Ok):X.Ok:={(ok.ir),ok.kind,ok.p8,ok.vf,ok.above,ok.inj,ok.has,ok.xJ,ok.hd,ok.frames,ok.bv,ok.AW,ok.bs,ok.pX,ok.yV,ok.x0,ok.mM,ok.tK}
section
variable{X:Cx}{pins:List (U×ba)}{σ:St}{H:Hp}{s:ax}{E:af->ax->Prop}
theorem Inv.pG(I:Inv X pins σ H s)(E:af->ax->Prop):Inv (X.pG E) pins σ H s:={I.ok.pG E,I.os,I.gZ,I.base,I.jb,I.cell,I.free,I.lU,I.lg,I.aO,I.bu}
theorem Inv.ss(I:Inv (X.pG E) pins σ H s):Inv X pins σ H s:={(I.ok.ss),I.os,I.gZ,I.base,I.jb,I.cell,I.free,I.lU,I.lg,I.aO,I.bu}
theorem _S.ss{D:Ends}{f:Flow}{s':ax}(h:_S (X.pG E) pins D f s'):_S X pins D f s':=by
 cases f with
 |next=>obtain⟨σ',H',I,q⟩:=h;exact{(σ'),H',I.ss,q}|brk=>obtain⟨σ',H',I,q⟩:=h;exact{(σ'),H',I.ss,q}
 |cont=>obtain⟨σ',H',I,q⟩:=h;exact{(σ'),H',I.ss,q}|ret u=>obtain⟨v,σ',H',I,r,q⟩:=h;exact{(v),σ',H',I.ss,r,q}
theorem kS.yX{st:List gj}{t:TS}(h:kS X.yX st t):kS X st t:=fun pins s σ H D I hw=>nA (h pins s σ H D (I.pG _) hw) (fun _ _ q=>q.ss) fun _ _ z=>jK z
end
section
variable{X:Cx}{st:gj}{rest:List gj}{t u:TS}{e:bz}{te:TE}{pos:cS}
def Dl:TS:=fun D σ H=>D.nx σ H
def Dn(t u:TS):TS:=fun D σ H=>t {D with nx:=u D} σ H
theorem bH:kS X [] Dl:=fun _ _ σ H _ I h=>Nb {(σ),H,I,h}
theorem ak(h1:PS X st t)(h2:kS X rest u):kS X (st::rest) (Dn t u):=by
 intro pins s σ H D I h;refine apD (bj (h1 pins s σ H {D with nx:=u D} I h) fun f s1 q=>?_);cases f with
 |next=>obtain⟨σ',H',I',q⟩:=q;exact h2 pins s1 σ' H' D I' q|ret v=>exact q
 |brk=>exact q|cont=>exact q
theorem au(h1:PS X st t):kS X [st] t:=by
 intro pins s σ H D I h;refine apD (bj (h1 pins s σ H D I h) fun f s1 q=>?_);cases f with
 |next=>exact Nb q|ret v=>exact q
 |brk=>exact q|cont=>exact q
def XN:TS:=fun D σ H=>D.bk σ H
def am2:TS:=fun D σ H=>D.ct σ H
theorem alg:PS X (.Break pos) XN:=fun _ _ σ H _ I h=>wpAny_Break {(σ),H,I,h}
theorem Inv.quiet{pins:List (U×ba)}{σ:St}{H:Hp}{s:ax}(I:Inv X pins σ H s):interactive X.env=false:=by simp[interactive,I.ok.kind]
def LK(te:TE):TS:=fun D σ H=>te σ H fun _ H1=>D.nx σ H1
theorem cj(he:PE X e te)(hs:autoParam (xx e none pos.line X.env=pure false) _L.aR):PS X (.Expr e pos) (LK te):=by intro pins s σ H D I h;exact wpAny_Expr_any (bj (he pins s σ H _ I h) fun v s1 ⟨x,H1,I1,r1,q1⟩=>{(σ),H1,I1,q1}) I.quiet hs
def zx(te:TE):TS:=fun D σ H=>te σ H D.rt
theorem aM(he:PE X e te):PS X (.Return (some e) pos) (zx te):=by intro pins s σ H D I h;exact wpAny_Return_some (bj (he pins s σ H _ I h) fun v s1 ⟨x,H1,I1,r1,q1⟩=>{(x),σ,H1,I1,r1,q1})
def LX:TS:=fun D _ H=>D.rt .aN H
theorem wD:PS X (.Return none pos) LX:=fun _ _ σ H _ I h=>wpAny_Return_none {.aN,σ,H,I,rfl,h}
def Dj(c:TT)(t u:TS):TS:=fun D σ H=>c σ H fun b H1=>if b=true then t D σ H1 else u D σ H1
theorem bA{c:bz}{a b:List gj}{tc:TT}(hc:PT X c tc)(ha:kS X a t)(hb:kS X b u):PS X (.If c a b pos) (Dj tc t u):=by intro pins s σ H D I h;refine wpAny_If (bj (hc pins s σ H _ I h) fun d s1 ⟨H1,I1,q1⟩=>?_);cases d with|true=>exact ha pins s1 σ H1 D I1 q1|false=>exact hb pins s1 σ H1 D I1 q1
end
abbrev TG:=V->St->Hp->(St->Hp->Prop)->Prop
abbrev sV:=List V->St->Hp->(St->Hp->Prop)->Prop
def PG(X:Cx)(target:bz)(t:TG):Prop:=∀(pins:List (U×ba)) (s:ax) (σ:St) (H:Hp) (v:V) (u:af) (Q:St->Hp->Prop),Inv X pins σ H s->RelV v u->t v σ H Q->aY (bp X.prog X.w) X.A (assign target X.env u) (fun _ s'=>∃σ' H',Inv X pins σ' H' s'/\Q σ' H') X.xe s
def Am(X:Cx)(ts:List bz)(t:sV):Prop:=∀(pins:List (U×ba)) (s:ax) (σ:St) (H:Hp) (vs:List V) (us:List af) (Q:St->Hp->Prop),Inv X pins σ H s->bF vs us->t vs σ H Q->aY (bp X.prog X.w) X.A (assignInOrder ((DV ts X.env).map (·.2)) us) (fun _ s'=>∃σ' H',Inv X pins σ' H' s'/\Q σ' H') X.xe s
abbrev u6:=V->V->Hp->VK->Prop
def An(X:Cx)(op:DS)(t:u6):Prop:=∀(pins:List (U×ba)) (s:ax) (σ:St) (H:Hp) (x y:V) (v u:af) (Q:VK),Inv X pins σ H s->RelV x v->RelV y u->t x y H Q->aY (bp X.prog X.w) X.A (MW op v u) (EP X pins σ Q) X.xe s
section
variable{X:Cx}{pos:cS}
def rC(i:Nat):TG:=fun v σ H Q=>Q (σ.set i (some v)) H
theorem gq{i:Nat}{x:ac}(hN:X.N.Nodup)(hi:X.N[i]?=some x)(hx:Loc X.env.scope x)(hf:autoParam (X.fn x=true∨X.env.scope.names.lookup x=some .local) _L.aF):PG X (.Name x pos) (rC i):=by intro pins s σ H v u Q I r h;exact apB (LI I hN hi hx r (fun s' I'=>{_,H,I',h}) hf)
def A8:sV:=fun vs σ H Q=>vs=[]/\Q σ H
def A6(t:TG)(u:sV):sV:=fun vs σ H Q=>∃v r,vs=v::r/\t v σ H fun σ' H'=>u r σ' H' Q
theorem ak5:Am X [] A8:=by intro pins s σ H vs us Q I r h;obtain⟨e,h⟩:=h;subst e;cases r;exact assignInOrder_nil {(σ),H,I,h}
theorem S5{e:bz}{es:List bz}{t:TG}{u:sV}(h1:PG X e t)(h2:Am X es u)
  (hs:autoParam ((DV (e::es) X.env).map (·.2)=assign e X.env::(DV es X.env).map (·.2)) _L.aR):Am X (e::es) (A6 t u):=by
 intro pins s σ H vs us Q I r h;obtain⟨v,vr,e1,h⟩:=h;subst e1;cases r with|cons r rr=>rw[hs];refine assignInOrder_cons (bj (h1 pins s σ H _ _ _ I r h) fun _ s1 ⟨σ1,H1,I1,q1⟩=>?_);exact h2 pins s1 σ1 H1 _ _ Q I1 rr q1
def aeN(K:bn)(n:Nat)(t:sV):TG:=fun v σ H Q=>∃a xs,v=.ref a/\eW K H a xs/\xs.length=n/\t xs σ H Q
theorem ak4{es:List bz}{k:Nat}{t:sV}{n:Nat}(hc:X.calm=true)(h:Am X es t)
  (hn:autoParam ((DV es X.env).length=n) _L.aR)(hst:autoParam ((DV es X.env).findIdx? (·.1)=none) _L.aR):PG X (.Tuple es k pos) (aeN X.K n t):=by
 intro pins s σ H v u Q I r hw;obtain⟨a,xs,e1,hq,hl,hw⟩:=hw;subst e1;cases r;obtain⟨its,rv,ht,hz⟩:=I.tuple hq;refine assign_Tuple_tuple (I.ok.hd hc) ht (by simp[hn,←hl,rv.length]) hst fun h' hx=>?_;have I1:Inv X pins σ H {s with heap:=h'}:=I.hU (t':=s.toks) fun b o e=>hx b o (jl (Heap.lt_size e)) e;exact h pins _ σ H xs _ Q I1 (by simpa using rv) hw
def Df(te:TE)(g:TG):TS:=fun D σ H=>te σ H fun x H1=>g x σ H1 D.nx
theorem b9{i:Nat}{x:ac}{e:bz}{te:TE}{jC:cS}(hN:X.N.Nodup)(hi:X.N[i]?=some x)(hx:Loc X.env.scope x)(he:PE X e te)(hs:autoParam (xx e (some (.Name x jC)) pos.line X.env=pure false) _L.aR)(hf:autoParam (X.fn x=true∨X.env.scope.names.lookup x=some .local) _L.aF):
  PS X (.Assign [.Name x jC] e pos) (Df te (rC i)):=by
 intro pins s σ H D I h;refine wpAny_Assign_Name (bj (he pins s σ H _ I h) fun v s1 ⟨y,H1,I1,r1,q1⟩=>?_) hs;exact LI I1 hN hi hx r1 (fun s2 I2=>{_,H1,I2,q1}) hf
def XM(i:Nat)(te:TE)(ti:u6):TS:=fun D σ H=>∃x,σ[i]?=some (some x)/\te σ H fun y H1=>ti x y H1 fun z H2=>D.nx (σ.set i (some z)) H2
theorem KP{i:Nat}{x:ac}{e:bz}{te:TE}{op:DS}{ti:u6}{jC:cS}(hN:X.N.Nodup)(hi:X.N[i]?=some x)(hx:Loc X.env.scope x)(he:PE X e te)(ho:An X op ti)(hf:autoParam (X.fn x=true∨X.env.scope.names.lookup x=some .local) _L.aF):
  PS X (.AugAssign (.Name x jC) op e pos) (XM i te ti):=by
 intro pins s σ H D I h;obtain⟨v,e1,h⟩:=h;obtain⟨m,hn,hl⟩:=I.jb;have vis:sW X.env.scope x:=by rcases hx with k |k;exact .inl k;exact .inr (.inl k)
 obtain⟨u,r,l⟩:=hl i x v hi e1 vis;refine wpAny_AugAssign_Name ?_;have go:aY (bp X.prog X.w) X.A (cB e X.env) (fun w s₂=>aY (bp X.prog X.w) X.A (MW op u w) (fun r s₃=>aY (bp X.prog X.w) X.A (Zp X.env x r) (fun _=>_S X pins D .next) X.xe s₃) X.xe s₂) X.xe s:=by refine bj (he pins s σ H _ I h) fun w s1 ⟨y,H1,I1,r1,q1⟩=>?_;refine bj (ho pins s1 σ H1 v y u w _ I1 r r1 q1) fun z s2 ⟨zv,H2,I2,r2,q2⟩=>?_;exact LI I2 hN hi hx r2 (fun s3 I3=>{_,H2,I3,q2}) hf
 rcases l with⟨hk,hm⟩ |⟨hk,c,hc,Bf⟩
 .exact apJ I.ok.kind hk hn hm go
 rcases hk with hk |hk
 .exact apI I.ok.kind hk hc Bf go
 rcases hx with k |k
 .have:X.env.scope.names.lookup x=some .free:=hk;rw[k]at this;cases this
 have:X.env.scope.names.lookup x=some .free:=hk;rw[k]at this;cases this
def BC(f:Int->Int->Int):u6:=fun x y H Q=>∃i j,x=.int i/\y=.int j/\Q (.int (f i j)) H
theorem agZ:An X .Add (BC fun i j=>i+j):=by intro pins s σ H x y v u Q I r1 r2 h;obtain⟨i,j,e1,e2,q⟩:=h;subst e1;subst e2;obtain⟨t,rfl⟩:=r1;obtain⟨t',rfl⟩:=r2;exact apd {.int _,H,I.dZ _,{_,rfl},q}
theorem ag1:An X .Sub (BC fun i j=>i-j):=by intro pins s σ H x y v u Q I r1 r2 h;obtain⟨i,j,e1,e2,q⟩:=h;subst e1;subst e2;obtain⟨t,rfl⟩:=r1;obtain⟨t',rfl⟩:=r2;exact ape {.int _,H,I.dZ _,{_,rfl},q}
def XY(c:TT)(tb:TS):TS:=fun D σ H=>∃W:Nat->St->Hp->Prop,(∃m,W m σ H)/\∀m σ H,W m σ H->c σ H fun b H1=>if b=true then∃N:St->Hp->Prop,(∀σ' H',N σ' H'->∃m',m'<m/\W m' σ' H')/\tb {D with nx:=N,ct:=N,bk:=D.nx} σ H1 else D.nx σ H1
theorem pC{c:bz}{body:List gj}{tc:TT}{tb:TS}(hp:PassesOwn (bp X.prog X.w) X.A X.env X.xe)(hc:PT X c tc)(hb:kS X body tb):PS X (.While c body [] pos) (XY tc tb):=by
 intro pins s σ H D I h;obtain⟨W,⟨m0,w0⟩,turn⟩:=h;refine wpAny_While (codeAny_whileLoop (fun n s'=>∃σ' H',Inv X pins σ' H' s'/\W n σ' H') ?_ m0 {(σ),H,I,w0});rintro n s1 ⟨σ1,H1,I1,w1⟩;refine xy hp (bj (hc pins s1 σ1 H1 _ I1 (turn n σ1 H1 w1)) fun b s2 ⟨H2,I2,q2⟩=>?_);cases b with
 |true=>
  obtain⟨N,hN,q2⟩:=q2;rw[az rfl];refine xy hp (bj (hb pins s2 σ1 H2 _ I2 q2) fun f s3 q3=>?_);cases f with
  |next=>obtain⟨σ3,H3,I3,n3⟩:=q3;obtain⟨m',hm,w3⟩:=hN σ3 H3 n3;exact{(m'),hm,σ3,H3,I3,w3}|cont=>obtain⟨σ3,H3,I3,n3⟩:=q3;obtain⟨m',hm,w3⟩:=hN σ3 H3 n3;exact{(m'),hm,σ3,H3,I3,w3}
  |brk=>exact q3|ret v=>exact q3
 |false=>rw[ao fX];exact Nb {(σ1),H2,I2,q2}
end
structure It where
 go:Nat->Hp->Prop
 lC:Nat->Hp->V->Hp->Prop
 cF:Nat->Hp->Prop
def oF(X:Cx)(pins:List (U×ba))(H:Hp)(b:U):Prop:=H b=none/\b≠X.env.locals/\b ∉ X.fs/\(b∈X.ex∨X.gy.heap.objs.size<=b)/\(∀x c,X.env.cells.lookup x=some c->c≠b)/\∀p∈X.pn++pins,p.1≠b
theorem Inv.A4{X:Cx}{pins:List (U×ba)}{σ:St}{H H':Hp}{s:ax}{b:U}(I:Inv X pins σ H s)(hb:s.heap.objs.size<=b)(hn:H' b=none):oF X pins H' b:=by
 refine{hn,ao4 (iQ I.lt hb),I.ajt hb,.inr (jk I.sz hb),fun x c e z=>?_,fun p hp z=>?_}
 .obtain⟨v,q⟩:=I.cell x c e;exact aJ (iQ q.lt (by rwa[z])) (qH _)
 exact aJ (iQ (Heap.lt_size (I.lg p hp).1) (by rwa[z])) (qH _)
structure pU(P:cA)(w:ck)(K:bn)(tg:bz)(J:It)(fp:List U)(it:U)(tn:Nat->bP->Prop):Prop where
 mem:it∈fp
 obj:∀i h,tn i h->∀b∈fp,∃o,h.get? b=some o/\∀v,o.data≠.cell v
 keep:∀i h h',tn i h->(∀b∈fp,∀o,h.get? b=some o->h'.get? b=some o)->tn i h'
 item:∀(X:Cx),X.prog=P->X.w=w->X.K=K->X.calm=true->∀(i:Nat) (pins:List (U×ba)) (s:ax) (σ:St) (H:Hp) (E:af->ax->Prop),Inv X pins σ H s->(∀b∈fp,oF X pins H b)->tn i s.heap->J.go i H->
  aY (bp P w) X.A (sJ (.ref it)) (fun r s1=>∃u,r=some u/\
   aY (bp P w) X.A (MX tg (.ref it) u) (fun _ s2=>∃x H',Inv X pins σ H' s2/\RelV x u/\J.lC i H x H'/\tn (i+1) s2.heap/\∀b∈fp,H' b=none) E s1) E s
 done:∀(X:Cx),X.prog=P->X.w=w->X.K=K->X.calm=true->∀(i:Nat) (pins:List (U×ba)) (s:ax) (σ:St) (H:Hp) (E:af->ax->Prop),Inv X pins σ H s->(∀b∈fp,oF X pins H b)->tn i s.heap->J.cF i H->
  aY (bp P w) X.A (sJ (.ref it)) (fun r s1=>r=none/\Inv X pins σ H s1) E s
 self:∀(A:cO) (i:Nat) (s:ax) (Q:af->ax->Prop) (E:af->ax->Prop),tn i s.heap->Q (.ref it) s->aY (bp P w) A (Af (.ref it)) Q E s
abbrev TI:=St->Hp->(It->Hp->Prop)->Prop
def Ei(X:Cx)(pins:List (U×ba))(σ:St)(tg:bz)(R:It->Hp->Prop)(itv:af)(s2:ax):Prop:=∃(it:U) (fp:List U) (tn:Nat->bP->Prop) (J:It) (H':Hp),itv=.ref it/\Inv X pins σ H' s2/\pU X.prog X.w X.K tg J fp it tn/\tn 0 s2.heap/\(∀b∈fp,oF X pins H' b)/\R J H'
def PI(X:Cx)(tg fH:bz)(wi:TI):Prop:=∀(pins:List (U×ba)) (s:ax) (σ:St) (H:Hp) (R:It->Hp->Prop),Inv X pins σ H s->wi σ H R->aY (bp X.prog X.w) X.A (cB fH X.env) (fun v s1=>aY (bp X.prog X.w) X.A (Af v) (Ei X pins σ tg R) X.xe s1) X.xe s
theorem tN{M:z7}{A:cO}{E:af->ax->Prop}{s:ax}{tg:bz}{it:U}{u:af}{o:ba}{n:String}{vs:Array af}{Q:Unit->ax->Prop}(ho:s.heap.get? it=some o)(hc:o.cls=.type n)(hd:o.data=.fields vs)
  (hn:["enumerate","zip","dict_itemiterator","dict_reverseitemiterator","odict_iterator","itertools.zip_longest","itertools.pairwise"].contains n=false)(hQ:Q () s):aY M A (MX tg (.ref it) u) Q E s:=by
 unfold MX;cases tg<;>first
  |exact cJ hQ
  |(cases u<;>first
    |exact cJ hQ
    |(refine bN (wpAny_load ho ?_)
      rw[hc,hd];show aY M A (if (["enumerate","zip","dict_itemiterator","dict_reverseitemiterator","odict_iterator","itertools.zip_longest","itertools.pairwise"].contains n&&vs[0]?==some (Ag _))=true then _ else _) Q E s;rw[ao (by intro h;rw[hn,zH]at h;cases h)];exact cJ hQ))
def nE(K:bn)(a:U):It:={fun i H=>∃xs x,aB K H a xs/\xs[i]?=some x,fun i H x H'=>H'=H/\∀xs,aB K H a xs->xs[i]?=some x,fun i H=>∃xs,aB K H a xs/\xs.length<=i}
def qM(K:bn)(a:U):It:={fun i H=>∃xs x,eW K H a xs/\xs[i]?=some x,fun i H x H'=>H'=H/\∀xs,eW K H a xs->xs[i]?=some x,fun i H=>∃xs,eW K H a xs/\xs.length<=i}
theorem ans{P:cA}{w:ck}{K:bn}{tg:bz}(a it:U):pU P w K tg (nE K a) [it] it (fun i h=>h.IsListIter it a i) where
 mem:=by simp
 obj:=fun i h st b hb=>by
  have e:b=it:=by simpa using hb
  subst e;obtain⟨o,e,c,d⟩:=st;exact{o,e,fun v z=>by rw[d]at z;cases z}
 keep:=fun i h h' st k=>st.at fun o e=>k it (by simp) o e
 item:=by intro X hP hw hK hc i pins s σ H E I hf st hg;subst hP hw hK;obtain⟨xs,x,hq,hx⟩:=hg;obtain⟨its,rv,p,hz⟩:=I.list hq;obtain⟨u,hu,ru⟩:=rv.gN hx;obtain⟨f0,f1,f2,f3,f4,f5⟩:=hf it (by simp);refine wpAny_pyNext_list_item st p.isList (x:=u) (by simpa using hu) fun h' gz sb=>?_;have I1:Inv X pins σ H {s with heap:=h'}:=I.jg (t':=s.toks) (fun b o hb e=>(sb.2 b hb).trans e) f0 f1 f3 f4 f5;obtain⟨o,e,c,d⟩:=id gz;exact{u,rfl,tN (s:={s with heap:=h'}) e c d (by decide) {x,H,I1,ru,{rfl,fun ys hy=>by rw[I.ahx hy hq];exact hx},gz,fun b hb=>(hf b hb).1}}
 done:=by intro X hP hw hK hc i pins s σ H E I hf st hg;subst hP hw hK;obtain⟨xs,hq,hx⟩:=hg;obtain⟨its,rv,p,hz⟩:=I.list hq;obtain⟨f0,f1,f2,f3,f4,f5⟩:=hf it (by simp);have hl:=rv.length;exact wpAny_pyNext_list_end (I.ok.hd hc) st p.isList (by simp;lia) fun h' eb=>{rfl,I.jg (t':=s.toks) (fun b o hb e=>eb b o hb e) f0 f1 f3 f4 f5}
 self:=fun _ _ _ _ _ st h=>wpAny_pyIter_listiter st h
theorem ant{P:cA}{w:ck}{K:bn}{tg:bz}(a it:U):pU P w K tg (qM K a) [it] it (fun i h=>h.IsTupleIter it a i) where
 mem:=by simp
 obj:=fun i h st b hb=>by
  have e:b=it:=by simpa using hb
  subst e;obtain⟨o,e,c,d⟩:=st;exact{o,e,fun v z=>by rw[d]at z;cases z}
 keep:=fun i h h' st k=>st.at fun o e=>k it (by simp) o e
 item:=by intro X hP hw hK hc i pins s σ H E I hf st hg;subst hP hw hK;obtain⟨xs,x,hq,hx⟩:=hg;obtain⟨its,rv,p,hz⟩:=I.tuple hq;obtain⟨u,hu,ru⟩:=rv.gN hx;obtain⟨f0,f1,f2,f3,f4,f5⟩:=hf it (by simp);refine wpAny_pyNext_tuple_item st (show s.heap.IsTuple a its.toArray from p) (x:=u) (by simpa using hu) fun h' gz sb=>?_;have I1:Inv X pins σ H {s with heap:=h'}:=I.jg (t':=s.toks) (fun b o hb e=>(sb.2 b hb).trans e) f0 f1 f3 f4 f5;obtain⟨o,e,c,d⟩:=id gz;exact{u,rfl,tN (s:={s with heap:=h'}) e c d (by decide) {x,H,I1,ru,{rfl,fun ys hy=>by rw[I.ano hy hq];exact hx},gz,fun b hb=>(hf b hb).1}}
 done:=by intro X hP hw hK hc i pins s σ H E I hf st hg;subst hP hw hK;obtain⟨xs,hq,hx⟩:=hg;obtain⟨its,rv,p,hz⟩:=I.tuple hq;obtain⟨f0,f1,f2,f3,f4,f5⟩:=hf it (by simp);have hl:=rv.length;exact wpAny_pyNext_tuple_end (I.ok.hd hc) st (show s.heap.IsTuple a its.toArray from p) (by simp;lia) fun h' eb=>{rfl,I.jg (t':=s.toks) (fun b o hb e=>eb b o hb e) f0 f1 f3 f4 f5}
 self:=fun _ _ _ _ _ st h=>wpAny_pyIter_tupleiter st h
end _L
namespace _L
section
variable{X:Cx}{tg:bz}
def QD(K:bn)(tl:TE):TI:=fun σ H R=>tl σ H fun x H1=>∃a,x=.ref a/\(∃xs,aB K H1 a xs)/\R (nE K a) H1
def agt(K:bn)(tl:TE):TI:=fun σ H R=>tl σ H fun x H1=>∃a,x=.ref a/\(∃xs,eW K H1 a xs)/\R (qM K a) H1
theorem l8{l:bz}{tl:TE}(hl:PE X l tl):PI X tg l (QD X.K tl):=by
 intro pins s σ H R I h;refine bj (hl pins s σ H _ I h) fun v s1 ⟨x,H1,I1,r1,q1⟩=>?_;obtain⟨a,e,⟨xs,hq⟩,q⟩:=q1;subst e;cases r1;obtain⟨its,rv,p,hz⟩:=I1.list hq;refine Zv p.isList ?_;refine{s1.heap.objs.size,[s1.heap.objs.size],_,_,H1,rfl,I1.hU (t':=s1.toks) fun b o e=>Heap.get?_push_of_some _ e,ans a _,{_,Heap.get?_push_size _ rfl,rfl,rfl},fun b hb=>?_,q};have e:b=s1.heap.objs.size:=by simpa using hb
 subst e;exact I1.A4 (bR _) (I1.aO.fresh (bR _))
theorem S6{l:bz}{tl:TE}(hl:PE X l tl):PI X tg l (agt X.K tl):=by
 intro pins s σ H R I h;refine bj (hl pins s σ H _ I h) fun v s1 ⟨x,H1,I1,r1,q1⟩=>?_;obtain⟨a,e,⟨xs,hq⟩,q⟩:=q1;subst e;cases r1;obtain⟨its,rv,p,hz⟩:=I1.tuple hq;refine wpAny_pyIter_tuple (show s1.heap.IsTuple a its.toArray from p) ?_;refine{s1.heap.objs.size,[s1.heap.objs.size],_,_,H1,rfl,I1.hU (t':=s1.toks) fun b o e=>Heap.get?_push_of_some _ e,ant a _,{_,Heap.get?_push_size _ rfl,rfl,rfl},fun b hb=>?_,q};have e:b=s1.heap.objs.size:=by simpa using hb
 subst e;exact I1.A4 (bR _) (I1.aO.fresh (bR _))
def XT(wi:TI)(g:TG)(tb:TS):TS:=fun D σ H=>wi σ H fun J H1=>∃W:Nat->Nat->St->Hp->Prop,(∃m,W 0 m σ H1)/\∀i m σ H,W i m σ H->(J.cF i H/\D.nx σ H)∨(J.go i H/\∃N:St->Hp->Prop,(∀σ' H',N σ' H'->∃m',m'<m/\W (i+1) m' σ' H')/\∀x H',J.lC i H x H'->g x σ H' fun σ2 H2=>tb {D with nx:=N,ct:=N,bk:=D.nx} σ2 H2)
def zd(fp:List U)(h:bP):List (U×ba):=fp.filterMap fun b=>(h.get? b).map fun o=>(b,o)
theorem Jf{fp:List U}{h:bP}{b:U}{o:ba}(hb:b∈fp)(e:h.get? b=some o):(b,o)∈zd fp h:=aoY.mpr {b,hb,by rw[e];rfl}
theorem ajA{fp:List U}{h:bP}{p:U×ba}(hp:p∈zd fp h):p.1∈fp/\h.get? p.1=some p.2:=by obtain⟨b,hb,e⟩:=aoY.mp hp;cases q:h.get? b with|none=>rw[q]at e;cases e|some o=>rw[q]at e;have e':(b,o)=p:=nj e;subst e';exact{(hb),q}
theorem Inv.Ta{pins:List (U×ba)}{σ:St}{H:Hp}{s:ax}{fp:List U}(I:Inv X pins σ H s)(hf:∀b∈fp,oF X pins H b)(ho:∀b∈fp,∃o,s.heap.get? b=some o/\∀v,o.data≠.cell v):Inv X (pins++zd fp s.heap) σ H s:=I.Tc fun p hp=>(cz.mp hp).elim (fun z=>I.lg p (mo _ z)) fun z=>by obtain⟨hb,e⟩:=ajA z;obtain⟨f0,f1,f2,_⟩:=hf p.1 hb;obtain⟨o,e',d⟩:=ho p.1 hb;rw[e]at e';cases e';exact{(e),f0,f1,f2,d}
theorem Inv.Du{pins pl:List (U×ba)}{σ:St}{H:Hp}{s:ax}(I:Inv X (pins++pl) σ H s):Inv X pins σ H s:=I.Tc fun p hp=>I.lg p (mo _ (nh _ hp))
theorem mY{fH:bz}{body:List gj}{wi:TI}{g:TG}{tb:TS}{pos:cS}(hp:PassesOwn (bp X.prog X.w) X.A X.env X.xe)(hc:X.calm=true)(hi:PI X tg fH wi)(hg:PG X tg g)(hb:kS X body tb)
  (hs:autoParam (∀x,MV fH X.env x=pure x) _L.aI):PS X (.For tg fH body [] pos) (XT wi g tb):=by
 intro pins s σ H D I h;refine wpAny_For (bj (hi pins s σ H _ I h) fun v s1 h1=>bj h1 fun itv s2 h2=>?_) hs;obtain⟨it,fp,tn,J,H2,e,I2,T,Db,f2,W,⟨m0,w0⟩,turn⟩:=h2;subst e;have stat:∀{H':Hp},(∀b∈fp,H' b=none)->∀b∈fp,oF X pins H' b:=fun hn b hb=>{hn b hb,(f2 b hb).2};refine codeAny_forLoop_any (fun n s'=>∃i σ' H',Inv X pins σ' H' s'/\tn i s'.heap/\(∀b∈fp,H' b=none)/\W i n σ' H') ?_ m0 {0,σ,H2,I2,Db,fun b hb=>(f2 b hb).1,w0};rintro n s3 ⟨i,σ3,H3,I3,Dc,O6,w3⟩;rcases turn i n σ3 H3 w3 with⟨cF,qn⟩ |⟨go,N,hN,step⟩
 .refine xy hp (bj (T.done X rfl rfl rfl hc i pins s3 σ3 H3 X.xe I3 (stat O6) Dc cF) fun r s4 ⟨hr,I4⟩=>?_);subst hr;exact Nb {(σ3),H3,I4,qn}
 refine xy hp (bj (T.item X rfl rfl rfl hc i pins s3 σ3 H3 X.xe I3 (stat O6) Dc go) fun r s4 ⟨u,hr,h4⟩=>?_);subst hr;refine xy hp (bj h4 fun _ s5 ⟨x,H5,I5,r5,y5,wL,fr5⟩=>?_);have ZF:=I5.Ta (stat fr5) (T.obj _ _ wL);refine xy hp (bj (hg _ s5 σ3 H5 x u _ ZF r5 (step x H5 y5)) fun _ s6 ⟨σ6,H6,I6,q6⟩=>?_);refine xy hp (bj (hb _ s6 σ6 H6 _ I6 q6) fun f s7 q7=>?_);have again:∀{σ7:St} {H7:Hp},Inv X (pins++zd fp s5.heap) σ7 H7 s7->N σ7 H7->∃m,m<n/\∃i σ' H',Inv X pins σ' H' s7/\tn i s7.heap/\(∀b∈fp,H' b=none)/\W i m σ' H':=fun{σ7 H7} I7 n7=>by obtain⟨m',hm,w7⟩:=hN σ7 H7 n7;refine{m',hm,i+1,σ7,H7,I7.Du,T.keep _ _ _ wL fun b hb o e=>(I7.lg (b,o) (mo _ (mo _ (Jf hb e)))).1,fun b hb=>?_,w7};obtain⟨o,e,d⟩:=T.obj _ _ wL b hb;exact(I7.lg (b,o) (mo _ (mo _ (Jf hb e)))).2.1
 cases f with
 |next=>obtain⟨σ7,H7,I7,n7⟩:=q7;exact again I7 n7|cont=>obtain⟨σ7,H7,I7,n7⟩:=q7;exact again I7 n7
 |brk=>obtain⟨σ7,H7,I7,q7⟩:=q7;exact{(σ7),H7,I7.Du,q7}|ret v=>obtain⟨x7,σ7,H7,I7,r7,q7⟩:=q7;exact{(x7),σ7,H7,I7.Du,r7,q7}
end
theorem tJ{K:bn}{a:U}{xs:List V}{g:TG}{tb:TS}{D:Ends}{σ:St}{H:Hp}(Pv:Nat->St->Hp->Prop)(h0:Pv 0 σ H)(hl:∀i σ H,i<=xs.length->Pv i σ H->aB K H a xs)
  (hs:∀i x σ H,xs[i]?=some x->Pv i σ H->g x σ H fun σ2 H2=>tb {D with nx:=Pv (i+1),ct:=Pv (i+1),bk:=D.nx} σ2 H2)(hd:∀σ H,Pv xs.length σ H->D.nx σ H):
  ∃W:Nat->Nat->St->Hp->Prop,(∃m,W 0 m σ H)/\∀i m σ H,W i m σ H->((nE K a).cF i H/\D.nx σ H)∨((nE K a).go i H/\∃N:St->Hp->Prop,(∀σ' H',N σ' H'->∃m',m'<m/\W (i+1) m' σ' H')/\∀x H',(nE K a).lC i H x H'->g x σ H' fun σ2 H2=>tb {D with nx:=N,ct:=N,bk:=D.nx} σ2 H2):=by
 refine{fun i m σ H=>m=xs.length-i/\i<=xs.length/\Pv i σ H,{xs.length,by simp,dE _,h0},?_};rintro i m σ H ⟨rfl,hi,p⟩;have q:=hl i σ H hi p;by_cases bX:i<xs.length
 .refine .inr {{xs,xs[i],q,by simp[bX]},Pv (i+1),fun σ' H' p'=>{xs.length-(i+1),by lia,rfl,bX,p'},fun x H' y=>?_};obtain⟨e,y⟩:=y;subst e;exact hs i x σ _ (y xs q) p
 have e:i=xs.length:=by lia
 subst e;exact .inl {{xs,q,bR _},hd σ H p}
theorem aez{K:bn}{a:U}{xs:List V}{g:TG}{tb:TS}{D:Ends}{σ:St}{H:Hp}(Pv:Nat->St->Hp->Prop)(h0:Pv 0 σ H)(hl:∀i σ H,i<=xs.length->Pv i σ H->eW K H a xs)
  (hs:∀i x σ H,xs[i]?=some x->Pv i σ H->g x σ H fun σ2 H2=>tb {D with nx:=Pv (i+1),ct:=Pv (i+1),bk:=D.nx} σ2 H2)(hd:∀σ H,Pv xs.length σ H->D.nx σ H):
  ∃W:Nat->Nat->St->Hp->Prop,(∃m,W 0 m σ H)/\∀i m σ H,W i m σ H->((qM K a).cF i H/\D.nx σ H)∨((qM K a).go i H/\∃N:St->Hp->Prop,(∀σ' H',N σ' H'->∃m',m'<m/\W (i+1) m' σ' H')/\∀x H',(qM K a).lC i H x H'->g x σ H' fun σ2 H2=>tb {D with nx:=N,ct:=N,bk:=D.nx} σ2 H2):=by
 refine{fun i m σ H=>m=xs.length-i/\i<=xs.length/\Pv i σ H,{xs.length,by simp,dE _,h0},?_};rintro i m σ H ⟨rfl,hi,p⟩;have q:=hl i σ H hi p;by_cases bX:i<xs.length
 .refine .inr {{xs,xs[i],q,by simp[bX]},Pv (i+1),fun σ' H' p'=>{xs.length-(i+1),by lia,rfl,bX,p'},fun x H' y=>?_};obtain⟨e,y⟩:=y;subst e;exact hs i x σ _ (y xs q) p
 have e:i=xs.length:=by lia
 subst e;exact .inl {{xs,q,bR _},hd σ H p}
end _L
namespace _L
abbrev R2:=V->V->Hp->VK->Prop
def fR(X:Cx)(f:af->af->jn af)(r:R2):Prop:=∀(pins:List (U×ba)) (s:ax) (σ:St) (H:Hp) (x y:V) (v u:af) (Q:VK),Inv X pins σ H s->RelV x v->RelV y u->r x y H Q->aY (bp X.prog X.w) X.A (f v u) (EP X pins σ Q) X.xe s
def Em(X:Cx)(f:af->jn af)(r:V->Hp->VK->Prop):Prop:=∀(pins:List (U×ba)) (s:ax) (σ:St) (H:Hp) (x:V) (v:af) (Q:VK),Inv X pins σ H s->RelV x v->r x H Q->aY (bp X.prog X.w) X.A (f v) (EP X pins σ Q) X.xe s
def kQ(X:Cx)(f:af)(r:List V->Hp->VK->Prop):Prop:=∀(pins:List (U×ba)) (s:ax) (σ:St) (H:Hp) (xs:List V) (us:List af) (Q:VK),Inv X pins σ H s->bF xs us->r xs H Q->aY (bp X.prog X.w) X.A (call f us) (EP X pins σ Q) X.xe s
def pF(r:R2)(ta tb:TE):TE:=fun σ H Q=>ta σ H fun x H1=>tb σ H1 fun y H2=>r x y H2 Q
def L1(r:V->Hp->VK->Prop)(ta:TE):TE:=fun σ H Q=>ta σ H fun x H1=>r x H1 Q
def rI(C:Int->Int->Prop)(g:Int->Int->V):R2:=fun x y H Q=>∃i j,x=.int i/\y=.int j/\C i j/\Q (g i j) H
def mZ(g:Int->Int->V):R2:=fun x y H Q=>∃i j,x=.int i/\y=.int j/\Q (g i j) H
def rU(g:Int->V):V->Hp->VK->Prop:=fun x H Q=>∃i,x=.int i/\Q (g i) H
section
variable{X:Cx}{a b c:bz}{ta tb tc:TE}{pos:cS}
theorem Ez(ha:PE X a ta)(hb:PE X b tb){pins:List (U×ba)}{s:ax}{σ:St}{H:Hp}{R:V->V->Hp->Prop}(I:Inv X pins σ H s)
  (h:ta σ H fun x H1=>tb σ H1 fun y H2=>R x y H2){Q:af->ax->Prop}{f:af->af->jn af}
  (hf:∀v u s2 x y H2,Inv X pins σ H2 s2->RelV x v->RelV y u->R x y H2->aY (bp X.prog X.w) X.A (f v u) Q X.xe s2):
  aY (bp X.prog X.w) X.A (cB a X.env) (fun v s₁=>aY (bp X.prog X.w) X.A (cB b X.env) (fun u s₂=>aY (bp X.prog X.w) X.A (f v u) Q X.xe s₂) X.xe s₁) X.xe s:=by
 refine bj (ha pins s σ H _ I h) fun v s1 ⟨x,H1,I1,r1,q1⟩=>?_;refine bj (hb pins s1 σ H1 _ I1 q1) fun u s2 ⟨y,H2,I2,r2,q2⟩=>?_;exact hf v u s2 x y H2 I2 r1 r2 q2
theorem iL{op:DS}{r:R2}(ho:fR X (z9 op) r)(ha:PE X a ta)(hb:PE X b tb):PE X (.BinOp a op b pos) (pF r ta tb):=by intro pins s σ H Q I h;exact wpAny_BinOp (Ez ha hb I h fun v u s2 x y H2 I2 rx ry q=>ho pins s2 σ H2 x y v u Q I2 rx ry q)
theorem r6{op:UnaryOp}{r:V->Hp->VK->Prop}(ho:Em X (unaryOp op) r)(ha:PE X a ta):PE X (.UnaryOp op a pos) (L1 r ta):=by intro pins s σ H Q I h;exact UnaryOp_ (bj (ha pins s σ H _ I h) fun v s1 ⟨x,H1,I1,r1,q1⟩=>ho pins s1 σ H1 x v Q I1 r1 q1)
theorem opI{f:af->af->jn af}{C:Int->Int->Prop}{g:Int->Int->Int}
  (rule:∀(i j:Int) (t u:ny) (s:ax) (Q:af->ax->Prop) (E:af->ax->Prop),C i j->Q (.int (g i j) s.toks) {s with toks:=s.toks+1}->aY (bp X.prog X.w) X.A (f (.int i t) (.int j u)) Q E s):
  fR X f (rI C fun i j=>.int (g i j)):=by
 intro pins s σ H x y v u Q I rx ry h;obtain⟨i,j,rfl,rfl,hc,q⟩:=h;obtain⟨t,rfl⟩:=rx;obtain⟨t',rfl⟩:=ry;exact rule i j t t' s _ _ hc {.int (g i j),H,I.dZ _,{_,rfl},q}
theorem Sy{f:af->af->jn af}{g:Int->Int->Int}
  (rule:∀(i j:Int) (t u:ny) (s:ax) (Q:af->ax->Prop) (E:af->ax->Prop),Q (.int (g i j) s.toks) {s with toks:=s.toks+1}->aY (bp X.prog X.w) X.A (f (.int i t) (.int j u)) Q E s):
  fR X f (mZ fun i j=>.int (g i j)):=by
 intro pins s σ H x y v u Q I rx ry h;obtain⟨i,j,rfl,rfl,q⟩:=h;obtain⟨t,rfl⟩:=rx;obtain⟨t',rfl⟩:=ry;exact rule i j t t' s _ _ {.int (g i j),H,I.dZ _,{_,rfl},q}
theorem BV{f:af->af->jn af}{g:Int->Int->Bool}
  (rule:∀(i j:Int) (t u:ny) (s:ax) (Q:af->ax->Prop) (E:af->ax->Prop),Q (.bool (g i j)) s->aY (bp X.prog X.w) X.A (f (.int i t) (.int j u)) Q E s):
  fR X f (mZ fun i j=>.bl (g i j)):=by
 intro pins s σ H x y v u Q I rx ry h;obtain⟨i,j,rfl,rfl,q⟩:=h;obtain⟨t,rfl⟩:=rx;obtain⟨t',rfl⟩:=ry;exact rule i j t t' s _ _ {.bl (g i j),H,I,rfl,q}
def Ea(i j:Int):Prop:=(-(2^64)<i/\i<2^64)∨(-(2^64)<j/\j<2^64)
theorem Ea.ok{i j:Int}(h:Ea i j):IntMulOk i j:=by
 rcases h with⟨h1,h2⟩ |⟨h1,h2⟩
 .exact .of_left (intBits_le_64 h1 h2)
 exact .of_right (intBits_le_64 h1 h2)
theorem rY:fR X (z9 .Add) (mZ fun i j=>.int (i+j)):=Sy fun _ _ _ _ _ _ _ q=>add_int q
theorem JG:fR X (z9 .Sub) (mZ fun i j=>.int (i-j)):=Sy fun _ _ _ _ _ _ _ q=>sub_int q
theorem akM:fR X (z9 .Mult) (rI Ea fun i j=>.int (i*j)):=opI fun _ _ _ _ _ _ _ hc q=>mul_int q hc.ok
theorem unI{f:af->jn af}{g:Int->Int}
  (rule:∀(i:Int) (t:ny) (s:ax) (Q:af->ax->Prop) (E:af->ax->Prop),Q (.int (g i) s.toks) {s with toks:=s.toks+1}->aY (bp X.prog X.w) X.A (f (.int i t)) Q E s):
  Em X f (rU fun i=>.int (g i)):=by
 intro pins s σ H x v Q I rx h;obtain⟨i,rfl,q⟩:=h;obtain⟨t,rfl⟩:=rx;exact rule i t s _ _ {.int (g i),H,I.dZ _,{_,rfl},q}
theorem sr:Em X (unaryOp .USub) (rU fun i=>.int (-i)):=unI fun _ _ _ _ _ q=>neg_int q
end
noncomputable def zo:V->V->Bool
 |.aN,.aN=>true |.aN,.int _=>true |.int _,.aN=>true |.aN,.bl _=>true |.bl _,.aN=>true |.aN,.str _=>true |.str _,.aN=>true
 |.int _,.int _=>true |.bl _,.bl _=>true |.str _,.str _=>true |.iX _,.iX _=>true
 |.int _,.str _=>true |.str _,.int _=>true |.bl _,.str _=>true |.str _,.bl _=>true
 |_,_=>false
def qz:R2:=fun x y H Q=>zo x y=true/\Q (.bl (decide (x=y))) H
def wF:R2:=fun x y H Q=>zo x y=true/\Q (.bl (!decide (x=y))) H
theorem Og{i j:Int}:decide (V.int i=V.int j)=(i==j):=by rw[Ml];simp
theorem Oe{i j:Bool}:decide (V.bl i=V.bl j)=(i==j):=by rw[Ml];simp
theorem Oi{i j:ac}:decide (V.str i=V.str j)=(i==j):=by rw[Ml];simp
theorem Of{i j:Array UInt8}:decide (V.iX i=V.iX j)=(i.toList==j.toList):=by rw[Ml];cases i;cases j;simp
section
variable{X:Cx}{a b c:bz}{ta tb tc:TE}{pos:cS}
theorem eJ{pins:List (U×ba)}{σ:St}{H:Hp}{s:ax}{Q:VK}{k k':Bool}(I:Inv X pins σ H s)(q:Q (.bl k) H)(e:k=k'):EP X pins σ Q (.bool k') s:=by subst e;exact{.bl k,H,I,rfl,q}
theorem cV:fR X (jo .Eq) qz:=by
 intro pins s σ H x y v u Q I rx ry h;obtain⟨hs,q⟩:=h;cases x with
 |aN=>
  cases rx;cases y with
  |aN=>cases ry;exact aqp (eJ I q (by simp))|bl j=>cases ry;exact aqn (eJ I q (by simp))
  |int j=>obtain⟨t',rfl⟩:=ry;exact aqo (eJ I q (by simp))|str j=>obtain⟨t',rfl⟩:=ry;exact aqq (eJ I q (by simp))
  |_=>exact aJ (show false=true from hs) fX
 |bl i=>
  cases rx;cases y with
  |aN=>cases ry;exact aql (eJ I q (by simp))|bl j=>cases ry;exact eq_bool (eJ I q Oe)
  |str j=>obtain⟨t',rfl⟩:=ry;exact aqd (eJ I q (by simp))|_=>exact aJ (show false=true from hs) fX
 |int i=>
  obtain⟨t,rfl⟩:=rx;cases y with
  |aN=>cases ry;exact aqm (eJ I q (by simp))|int j=>obtain⟨t',rfl⟩:=ry;exact eq_int (eJ I q Og)
  |str j=>obtain⟨t',rfl⟩:=ry;exact aqe (eJ I q (by simp))|_=>exact aJ (show false=true from hs) fX
 |str i=>
  obtain⟨t,rfl⟩:=rx;cases y with
  |aN=>cases ry;exact aqr (eJ I q (by simp))|bl j=>cases ry;exact aqf (eJ I q (by simp))
  |int j=>obtain⟨t',rfl⟩:=ry;exact aqg (eJ I q (by simp))|str j=>obtain⟨t',rfl⟩:=ry;exact eq_str (eJ I q Oi)
  |_=>exact aJ (show false=true from hs) fX
 |iX i=>obtain⟨t,rfl⟩:=rx;cases y with|iX j=>obtain⟨t',rfl⟩:=ry;exact PySem.W.eq_bytes (eJ I q Of)|_=>exact aJ (show false=true from hs) fX
 |_=>cases y<;>exact aJ (show false=true from hs) fX
theorem uo:fR X (jo .NotEq) wF:=by
 intro pins s σ H x y v u Q I rx ry h;obtain⟨hs,q⟩:=h;cases x with
 |aN=>
  cases rx;cases y with
  |aN=>cases ry;exact aqw (eJ I q (by simp))|bl j=>cases ry;exact aqu (eJ I q (by simp))
  |int j=>obtain⟨t',rfl⟩:=ry;exact aqv (eJ I q (by simp))|str j=>obtain⟨t',rfl⟩:=ry;exact aqx (eJ I q (by simp))
  |_=>exact aJ (show false=true from hs) fX
 |bl i=>
  cases rx;cases y with
  |aN=>cases ry;exact aqs (eJ I q (by simp))|bl j=>cases ry;exact ne_bool (eJ I q (eU not Oe))
  |str j=>obtain⟨t',rfl⟩:=ry;exact aqh (eJ I q (by simp))|_=>exact aJ (show false=true from hs) fX
 |int i=>
  obtain⟨t,rfl⟩:=rx;cases y with
  |aN=>cases ry;exact aqt (eJ I q (by simp))|int j=>obtain⟨t',rfl⟩:=ry;exact ne_int (eJ I q (eU not Og))
  |str j=>obtain⟨t',rfl⟩:=ry;exact aqi (eJ I q (by simp))|_=>exact aJ (show false=true from hs) fX
 |str i=>
  obtain⟨t,rfl⟩:=rx;cases y with
  |aN=>cases ry;exact aqy (eJ I q (by simp))|bl j=>cases ry;exact aqj (eJ I q (by simp))
  |int j=>obtain⟨t',rfl⟩:=ry;exact aqk (eJ I q (by simp))|str j=>obtain⟨t',rfl⟩:=ry;exact ne_str (eJ I q (eU not Oi))
  |_=>exact aJ (show false=true from hs) fX
 |iX i=>obtain⟨t,rfl⟩:=rx;cases y with|iX j=>obtain⟨t',rfl⟩:=ry;exact PySem.W.ne_bytes (eJ I q (eU not Of))|_=>exact aJ (show false=true from hs) fX
 |_=>cases y<;>exact aJ (show false=true from hs) fX
theorem y4:fR X (jo .Lt) (mZ fun i j=>.bl (decide (i<j))):=BV fun _ _ _ _ _ _ _ q=>lt_int q
theorem pz:fR X (jo .LtE) (mZ fun i j=>.bl (decide (i<=j))):=BV fun _ _ _ _ _ _ _ q=>le_int q
theorem gp:fR X (jo .Gt) (mZ fun i j=>.bl (decide (j<i))):=BV fun _ _ _ _ _ _ _ q=>gt_int q
theorem JF:fR X (jo .GtE) (mZ fun i j=>.bl (decide (j<=i))):=BV fun _ _ _ _ _ _ _ q=>ge_int q
theorem bD(b:bz){op:sB}(h:autoParam (op≠.In) _L.aD)(h2:autoParam (op≠.NotIn) _L.aD):z8 op b=false:=ajp b h h2
theorem fw{op:sB}{r:R2}(ho:fR X (jo op) r)(ha:PE X a ta)(hb:PE X b tb)(hm:z8 op b=false):PE X (.Compare a [op] [b] pos) (pF r ta tb):=by intro pins s σ H Q I h;exact apA (Ez ha hb I h fun v u s2 x y H2 I2 rx ry q=>ho pins s2 σ H2 x y v u Q I2 rx ry q) hm
def Do(t:TE):TT:=fun σ H Q=>t σ H fun x H'=>∃k,x=.bl k/\Q k H'
theorem cg{op:sB}{r:R2}(ho:fR X (jo op) r)(ha:PE X a ta)(hb:PE X b tb)(hm:z8 op b=false):PT X (.Compare a [op] [b] pos) (Do (pF r ta tb)):=by intro pins s σ H Q I h;refine apH (bj (ha pins s σ H _ I h) fun v s1 ⟨x,H1,I1,r1,q1⟩=>bj (hb pins s1 σ H1 _ I1 q1) fun u s2 ⟨y,H2,I2,r2,q2⟩=>bj (ho pins s2 σ H2 x y v u _ I2 r1 r2 q2) fun c s3 ⟨z,H3,I3,r3,k,e,q3⟩=>?_) hm;subst e;cases r3;exact qK {(H3),I3,q3}
def Dh(r r':R2)(ta tb tc:TE):TE:=fun σ H Q=>ta σ H fun x H1=>tb σ H1 fun y H2=>r x y H2 fun z H3=>∃k,z=.bl k/\(if k=true then tc σ H3 fun w' H4=>r' y w' H4 Q else Q (.bl false) H3)
theorem KL{op um:sB}{r r':R2}(ho:fR X (jo op) r)(ho':fR X (jo um) r')(ha:PE X a ta)(hb:PE X b tb)(hc:PE X c tc)
  (hm:lastMarks [op,um] [b,c]=false:=by with_unfolding_all rfl):PE X (.Compare a [op,um] [b,c] pos) (Dh r r' ta tb tc):=by
 intro pins s σ H Q I h;refine Compare_chain (bj (ha pins s σ H _ I h) fun v s1 ⟨x,H1,I1,r1,q1⟩=>chain_link (bj (hb pins s1 σ H1 _ I1 q1) fun u s2 ⟨y,H2,I2,r2,q2⟩=>bj (ho pins s2 σ H2 x y v u _ I2 r1 r2 q2) fun d s3 ⟨z,H3,I3,r3,k,e,q3⟩=>?_)) hm;subst e;cases r3;refine qK ?_;cases k with|false=>exact ite_ff {.bl false,H3,I3,rfl,q3}|true=>exact ite_tt (chain_last (bj (hc pins s3 σ H3 _ I3 q3) fun w' s4 ⟨z',H4,I4,r4,q4⟩=>ho' pins s4 σ H4 y z' u w' Q I4 r2 r4 q4))
theorem ali{op um:sB}{r r':R2}(ho:fR X (jo op) r)(ho':fR X (jo um) r')(ha:PE X a ta)(hb:PE X b tb)(hc:PE X c tc)
  (hm:lastMarks [op,um] [b,c]=false:=by with_unfolding_all rfl):PT X (.Compare a [op,um] [b,c] pos) (Do (Dh r r' ta tb tc)):=by
 intro pins s σ H Q I h;refine isTrue_chain (bj (ha pins s σ H _ I h) fun v s1 ⟨x,H1,I1,r1,q1⟩=>test_link (bj (hb pins s1 σ H1 _ I1 q1) fun u s2 ⟨y,H2,I2,r2,q2⟩=>bj (ho pins s2 σ H2 x y v u _ I2 r1 r2 q2) fun d s3 ⟨z,H3,I3,r3,k,e,q3⟩=>?_)) hm;subst e;cases r3;refine qK ?_;cases k with|false=>obtain⟨k',e',q'⟩:=q3;cases e';exact ite_ff {(H3),I3,q'}|true=>refine ite_tt (test_last (bj (hc pins s3 σ H3 _ I3 q3) fun w' s4 ⟨z',H4,I4,r4,q4⟩=>bj (ho' pins s4 σ H4 y z' u w' _ I4 r2 r4 q4) fun d' s5 ⟨z2,H5,I5,r5,k2,e2,q5⟩=>?_));subst e2;cases r5;exact qK {(H5),I5,q5}
theorem BJ:(cp:Nat)<2^63:=by rw[Zo];decide
theorem y3:fR X (z9 .Add) (fun x y H Q=>∃i j,x=.str i/\y=.str j/\i.length+j.length<=cp/\Q (.str (i++j)) H):=by intro pins s σ H x y v u Q I rx ry h;obtain⟨i,j,rfl,rfl,hz,q⟩:=h;obtain⟨t,rfl⟩:=rx;obtain⟨t',rfl⟩:=ry;exact add_str (fun t' tk=>{.str (i++j),H,I.dZ _,{_,rfl},q}) hz
theorem agY:fR X (MW .Add) (fun x y H Q=>∃i j,x=.str i/\y=.str j/\i.length+j.length<=cp/\Q (.str (i++j)) H):=by intro pins s σ H x y v u Q I rx ry h;obtain⟨i,j,rfl,rfl,hz,q⟩:=h;obtain⟨t,rfl⟩:=rx;obtain⟨t',rfl⟩:=ry;exact iadd_str (fun t' tk=>{.str (i++j),H,I.dZ _,{_,rfl},q}) hz
theorem vals1{x:V}{us:List af}(r:bF [x] us):∃u,us=[u]/\RelV x u:=by cases r with|cons r1 r2=>cases r2;exact{_,rfl,r1}
theorem vals2{x y:V}{us:List af}(r:bF [x,y] us):∃u w',us=[u,w']/\RelV x u/\RelV y w':=by cases r with|cons r1 r2=>cases r2 with|cons r3 r4=>cases r4;exact{_,_,rfl,r1,r3}
theorem abb(hc:X.calm=true):kQ X (.builtin "max") (fun xs H Q=>∃i j,xs=[.int i,.int j]/\Q (.int (if j>i then j else i)) H):=by
 intro pins s σ H xs us Q I r h;obtain⟨i,j,rfl,q⟩:=h;obtain⟨u,w',rfl,⟨t,rfl⟩,⟨t',rfl⟩⟩:=vals2 r;refine max_two_ints (I.ok.hd hc) fun h' tk k=>{_,H,I.hU k,?_,q};by_cases hj:j>i
 .rw[az hj,az hj];exact{_,rfl}
 rw[ao hj,ao hj];exact{_,rfl}
theorem abc:kQ X (.builtin "ord") (fun xs H Q=>∃x,xs=[.str x]/\x.length=1/\Q (.int (x.cps.getD 0 0:Nat)) H):=by intro pins s σ H xs us Q I r h;obtain⟨x,rfl,hz,q⟩:=h;obtain⟨u,rfl,t,rfl⟩:=vals1 r;exact ord_of_one hz {.int _,H,I.dZ _,{_,rfl},q}
end
end _L
namespace _L
structure sS(h:bP)(x dx C:U)(mA:ac->Option af):Prop where
 obj:h.get? x=some (uT C dx)
 ns:h.Ns1 dx mA
 ne:dx≠x
theorem ahA{h:bP}{dx:U}{mA:ac->Option af}(n:h.Ns1 dx mA):∃od,h.get? dx=some od/\∀name,MN name od=some (mA name):=by
 obtain⟨o,es,ep,ho,hd,hk,_,hm⟩:=n;refine{o,ho,fun name=>?_};have e:=hm name;unfold nsFind findBy at e;rw[←Array.find?_toList]at e;unfold MN;rw[hd];dsimp only;split
 .rename_i y q;rw[q]at e;exact eU some e
 rename_i q;rw[q]at e;have a:es.toList.any (·.refKey)=false:=by rw[DF];intro y hy;obtain⟨z,t,tP⟩:=hk y (Array.mem_toList_iff.mp hy);simp[DictEntry.refKey,tP]
 have a':¬ es.toList.any (·.refKey)=true:=by rw[a];exact fX
 rw[ao a'];exact eU some e
theorem sS.t9{h:bP}{x dx C:U}{mA:ac->Option af}(I:sS h x dx C mA):∃od,PySem.W.InstAt h x (uT C dx) C (some od)/\∀name,MN name od=some (mA name):=
 let ⟨od,ho,hl⟩:=ahA I.ns
 {od,{(I.obj),rfl,rfl,ho},hl}
section
variable{prog:cA}{w:ck}{A:cO}{E:af->ax->Prop}{s:ax}{K:bn}{x dx C f:U}{mA:ac->Option af}{name:ac}{v:af}
theorem afb{adO:Bool}{Q:af->ax->Prop}(X:K.In s.heap)(I:sS s.heap x dx C mA)(hg:DU K C name=true)(hh:ML K C=true)
  (ha:oB K (.ref C) name=some none)(hv:mA name=some v)(hv':apo v=true)(h:Q v {s with toks:=s.toks+1}):
  aY (bp prog w) A (Zn (.ref x) name adO) Q E s:=by
 obtain⟨od,J,hl⟩:=I.t9;exact PySem.W.get_value X J (Ze hg).1 (PySem.W.findObj_own hh ha rfl (by rw[hl,hv])) hv' h
theorem afc{pl:jn Bool}{Q:af×List af->ax->Prop}(X:K.In s.heap)(I:sS s.heap x dx C mA)(hg:DU K C name=true)
  (hf:oB K (.ref C) name=some (some (.ref f)))(ht:MM K (.ref f)=true)(hv:mA name=none)(h:Q (.ref f,[.ref x]) s):
  aY (bp prog w) A (Ad (.ref x) name pl) Q E s:=by
 obtain⟨od,J,hl⟩:=I.t9;exact PySem.W.method_fn X J (Ze hg).1 (Ze hg).2 hf (beq_iff_eq.mp ht) (by show(MN name od).map (·.isSome)=some false;rw[hl,hv];rfl) h
theorem amI{ns:List ac}{Q:Unit->ax->Prop}(X:K.In s.heap)(I:sS s.heap x dx C mA)
  (hs:oB K (.ref C) "__setattr__"=some (some (.builtin "object.__setattr__")))(hp:Zf K C=true)(ht:Zg K C name=some none)(hh:ML K C=true)
  (hw:Zh mA ns)(hsz:ns.length<=cp)
  (h:∀h',sS h' x dx C (fun y=>if y=name then some v else mA y)->Heap.SameBut dx s.heap h'->Q () {s with heap:=h',toks:=s.toks+2}):
  aY (bp prog w) A (setAttr (.ref x) name v) Q E s:=by
 obtain⟨od,J,hl⟩:=I.t9;refine PySem.W.set_plain X J hs (PySem.W.osa_open (s:={s with toks:=s.toks+1}) (r:=none) X J hp ht fun b=>?_);obtain⟨cd,hc,HB⟩:=PySem.W.any_some hh;have hx:s.heap.get? x=some {.ref C,some dx,.plain,#[]}:=I.obj;refine bN (cJ (bN (bN (wpAny_loadPart hx (bN (aqA (s:={s with toks:=s.toks+1}) (PySem.W.looks_clsIn X hc) ?_))))));rw[HB];refine cJ (a:=some dx) (bN (cJ (bN ?_)));refine wpAny_nsSet1 (s:={s with toks:=s.toks+1}) I.ns fun h' Br hs2=>?_;obtain⟨oD,esD,epD,hoD,hdD,hcD⟩:=Br.count (aqB name v hw);refine bN (wpAny_lookBehind hoD (by rw[hdD];exact pastItsLine_dict (jk hcD (by rw[bJ];lia))) ?_);exact cJ (h _ {(hs2.2 _ (pJ I.ne)).trans I.obj,Br,I.ne} hs2)
theorem aic{R:DT->ax->Prop}{vs:List af}{kw:List (ac×af)}(X:K.In s.heap)(hm:Zc K C=true)
  (hi:oB K (.ref C) "__init__"=some (some (.ref f)))(hf:PySem.W.typeIn K (.ref f)=some (.type "function"))
  (h:sI (bp prog w) (A.under (.builtin "type.__call__" {.ref C::vs,kw})) (.call (.ref f) {.ref (s.heap.objs.size+1)::vs,kw}) (PySem.W.InitBack (s.heap.objs.size+1) R)
   {s with heap:=(s.heap.push sE).push (uT C s.heap.objs.size)}):
  sI (bp prog w) A (.call (.ref C) {(vs),kw}) R s:=by
 obtain⟨hh,g,d,t,os⟩:=s;exact PySem.W.make_core (PySem.W.makes_of X hm) (PySem.W.looks_findIn X hi) (fun self=>PySem.W.bind_fn X self hf) (.inl rfl) h
end
noncomputable def aW(f:ac)(v:V):List (ac×V)->List (ac×V)|[]=>[(f,v)]|(g,x)::r=>if g=f then (g,v)::r else (g,x)::aW f v r
theorem Ri(f g:ac)(v:V):∀fs:List (ac×V),(aW f v fs).lookup g=if g=f then some v else fs.lookup g
 |[]=>by
  show sA g [(f,v)]=_;by_cases h:g=f
  .have hb:(g==f)=true:=beq_iff_eq.mpr h;simp?[sA,hb,az h]
  have hb:(g==f)=false:=kO.mpr h;simp?[sA,hb,ao h]
 |(k,x)::r=>by
  have ih:=Ri f g v r;rw[show aW f v ((k,x)::r)=(if k=f then (k,v)::r else (k,x)::aW f v r)from rfl];by_cases hk:k=f
  .rw[az hk];by_cases h:g=k
   .have hb:(g==k)=true:=beq_iff_eq.mpr h;simp?[sA,hb,az (h.trans hk)]
   have hb:(g==k)=false:=kO.mpr h;simp?[sA,hb,ao (fun e:g=f=>h (e.trans hk.symm))]
  rw[ao hk];by_cases h:g=k
  .have hb:(g==k)=true:=beq_iff_eq.mpr h;simp?[sA,hb,ao (fun e:g=f=>hk (h.symm.trans e))]
  have hb:(g==k)=false:=kO.mpr h;simp?[sA,hb];exact ih
theorem IE(f:ac)(v:V):∀fs:List (ac×V),f∈(aW f v fs).map (·.1)/\∀g,g∈fs.map (·.1)->g∈(aW f v fs).map (·.1)
 |[]=>{by simp[aW],fun g h=>by simp at h}|(k,x)::r=>by
  obtain⟨i1,i2⟩:=IE f v r;rw[show aW f v ((k,x)::r)=(if k=f then (k,v)::r else (k,x)::aW f v r)from rfl];by_cases hk:k=f
  .rw[az hk];subst hk;exact{by simp,fun g h=>by simpa using h}
  rw[ao hk];refine{?_,fun g h=>?_}
  .rw[cI];exact dq _ i1
  rw[cI]at h⊢;rcases bw.mp h with e |e
  .exact bw.mpr (.inl e)
  exact dq _ (i2 g e)
theorem Ra(f:ac)(v:V):∀fs:List (ac×V),(aW f v fs).length<=fs.length+1
 |[]=>by simp[aW]|(k,x)::r=>by
  have ih:=Ra f v r;rw[show aW f v ((k,x)::r)=(if k=f then (k,v)::r else (k,x)::aW f v r)from rfl];by_cases hk:k=f
  .rw[az hk,bJ,bJ];lia
  rw[ao hk,bJ,bJ];lia
theorem gY.zp{v:V}{o:Option af}(r:gY (some v) o):∃u,o=some u/\RelV v u:=by cases o with|none=>exact(show False from r).elim|some u=>exact{(u),rfl,r}
theorem gY.aju{o:Option af}(r:gY none o):o=none:=by cases o with|none=>rfl|some u=>exact(show False from r).elim
theorem afK{v:V}{u:af}(r:RelV v u):apo u=true:=by
 cases v with
 |aN=>cases(show u=Value.none from r);rfl|bl b=>cases(show u=Value.bool b from r);rfl
 |int i=>obtain⟨t,e⟩:=(show∃t,u=Value.int i t from r);cases e;rfl|str x=>obtain⟨t,e⟩:=(show∃t,u=Value.str x t from r);cases e;rfl
 |iX b=>obtain⟨t,e⟩:=(show∃t,u=Value.bytes b t from r);cases e;rfl|rp b=>obtain⟨t,e⟩:=(show∃t,u=Value.float b t from r);cases e;rfl
 |ref a=>cases(show u=Value.ref a from r);rfl|ty n=>cases(show u=Value.type n from r);rfl
section
variable{P:cA}{w:ck}{H H':Hp}{h h':bP}{a C dx:U}{fs vJ:List (ac×V)}
theorem BB(aO:dG P w H h)(e:H a=some (.am C dx fs)):∃mA,sS h a dx C mA/\(∀f,gY (fs.lookup f) (mA f))/\Zh mA (fs.map (·.1))/\fs.length<=1000/\H dx=some (.own a):=by obtain⟨d,z,ne,ob,mA,n,r,q⟩:=(show eV P w H h a (.am C dx fs)from aO a _ e);exact{mA,{(ob),n,ne},r,q,z,d}
end
structure dN(K:bn)(C:U):Prop where
 pg:DU K C Str.empty=true
 hd:ML K C=true
 po:Zf K C=true
 sa:oB K (.ref C) "__setattr__"=some (some (.builtin "object.__setattr__"))
theorem dN.gN{K:bn}{C:U}(c:dN K C)(f:ac):DU K C f=true:=c.pg
def bO(K:bn)(C:U)(f:ac):Prop:=oB K (.ref C) f=some none
theorem bO.am7{K:bn}{C:U}{f:ac}(n:bO K C f):Zg K C f=some none:=by unfold Zg;rw[show oB K (.ref C) f=some none from n];rfl
structure cf(K:bn)(C:U)(m:ac)(f:U):Prop where
 at_:oB K (.ref C) m=some (some (.ref f))
 fn:MM K (.ref f)=true
 kp:sF K (.ref f)=true
section
variable{X:Cx}{pins:List (U×ba)}{σ:St}{H:Hp}{s:ax}{a C dx:U}{fs:List (ac×V)}{f:ac}{v:V}{A:cO}{E:af->ax->Prop}
theorem Ph{b:Bool}{Q:af->ax->Prop}(I:Inv X pins σ H s)(e:H a=some (.am C dx fs))(c:dN X.K C)(n:bO X.K C f)(l:fs.lookup f=some v)
  (h:∀u s',Inv X pins σ H s'->RelV v u->Q u s'):aY (bp X.prog X.w) A (Zn (.ref a) f b) Q E s:=by
 obtain⟨mA,O,r,_,_,_⟩:=BB I.aO e;obtain⟨u,hu,ru⟩:=gY.zp (v:=v) (o:=mA f) (by rw[←l];exact r f);exact afb I.eO O (c.gN f) c.hd n hu (afK ru) (h u _ (I.dZ _) ru)
theorem Pj{m:ac}{g:U}{pl:jn Bool}{Q:af×List af->ax->Prop}(I:Inv X pins σ H s)(e:H a=some (.am C dx fs))(c:dN X.K C)(k:cf X.K C m g)(l:fs.lookup m=none)
  (h:Q (.ref g,[.ref a]) s):aY (bp X.prog X.w) A (Ad (.ref a) m pl) Q E s:=by
 obtain⟨mA,O,r,_,_,_⟩:=BB I.aO e;have hn:mA m=none:=gY.aju (by rw[←l];exact r m);exact afc I.eO O (c.gN m) k.at_ k.fn hn h
theorem V6{y:V}{u:af}{Q:Unit->ax->Prop}(I:Inv X pins σ H s)(e:H a=some (.am C dx fs))(c:dN X.K C)(n:bO X.K C f)(hl:fs.length<1000)(ry:RelV y u)
  (h:∀s',Inv X pins σ (ae H a (.am C dx (aW f y fs))) s'->Q () s'):aY (bp X.prog X.w) A (setAttr (.ref a) f u) Q E s:=by
 obtain⟨mA,O,r,wi,_,ho⟩:=BB I.aO e;have hz:(fs.map (·.1)).length<=cp:=by rw[bL,Zo];lia
 refine amI I.eO O c.sa c.po n.am7 c.hd wi hz fun h' O' sb=>h _ ?_;have hd:∃o,h'.get? dx=some o:=let ⟨o,_,_,e',_⟩:=O'.ns;{(o),e'};refine I.write (x:=a) (e:=dx) (by rw[e];exact jq) (.inr ho) (fun b q hb z=>(sb.2 b hb).trans z) hd ?_;refine{by rw[aj O.ne];exact ho,?_,O.ne,O'.obj,_,O'.ns,fun g=>?_,fun g hg=>?_}
 .have:=Ra f y fs;lia
 .show gY ((aW f y fs).lookup g) (if g=f then some u else mA g);rw[Ri];by_cases q:g=f
  .rwa[az q,az q]
  rw[ao q,ao q];exact r g
 by_cases q:g=f
 .rw[q];exact(IE f y fs).1
 refine(IE f y fs).2 g (wi g fun z=>hg ?_);show(if g=f then some u else mA g)=none;rwa[ao q]
theorem Inv.made(I:Inv X pins σ H s):Inv X pins σ (ae (ae H s.heap.objs.size (.own (s.heap.objs.size+1))) (s.heap.objs.size+1) (.am C s.heap.objs.size []))
  {s with heap:=(s.heap.push sE).push (uT C s.heap.objs.size)}:=by
 have e1:(s.heap.push sE).get? s.heap.objs.size=some sE:=Heap.get?_push_size s.heap rfl;have e2:((s.heap.push sE).push (uT C s.heap.objs.size)).get? (s.heap.objs.size+1)=some (uT C s.heap.objs.size):=by have:=Heap.get?_push_size (s.heap.push sE) (o:=uT C s.heap.objs.size) rfl;rwa[Heap.size_push]at this
 have e3:(s.heap.push sE).Ns s.heap.objs.size (fun _=>none):={sE,#[],_,e1,rfl,(fun e he=>aJ he (by simp)),fun _=>rfl};have I1:=I.j8 (a:=s.heap.objs.size) (o:=.own (s.heap.objs.size+1)) (h':=s.heap.push sE) (t':=s.toks) (fun b u q=>Heap.get?_push_of_some _ q) (bR _) {_,e1};refine I1.j8 (a:=s.heap.objs.size+1) (o:=.am C s.heap.objs.size []) (t':=s.toks) (fun b u q=>Heap.get?_push_of_some _ q) (MB (Heap.size_push _ _)) ?_;have ne:s.heap.objs.size≠s.heap.objs.size+1:=jl (gF _);refine{by rw[aj ne,ay],dE _,ne,e2,fun _=>none,(Heap.Ns1.of_empty e3).at fun o q=>Heap.get?_push_of_some _ q,fun _=>jq,fun y hy=>aJ rfl hy}
theorem aaR{prog:cA}{w:ck}{env:fC}{e:bz}{f:ac}{pos:cS}{s:ax}{Q:af->ax->Prop}(hb:xr e f env (cB e env)=cB e env)
  (h:aY (bp prog w) A (cB e env) (fun o s₁=>aY (bp prog w) A (Zn o f true) Q E s₁) E s):aY (bp prog w) A (cB (.Attribute e f pos) env) Q E s:=
 Attribute_any_ h (by rw[arm_eval_Attribute,hb])
end
def kt(K:bn)(ta:TE)(f:ac):TE:=fun σ H Q=>ta σ H fun x H1=>∃a C dx fs v,x=.ref a/\H1 a=some (.am C dx fs)/\dN K C/\bO K C f/\fs.lookup f=some v/\Q v H1
def K3(K:bn)(ta tv:TE)(f:ac):TS:=fun D σ H=>tv σ H fun y H1=>ta σ H1 fun x H2=>∃a C dx fs,x=.ref a/\H2 a=some (.am C dx fs)/\dN K C/\bO K C f/\fs.length<1000/\D.nx σ (ae H2 a (.am C dx (aW f y fs)))
def Ec(X:Cx)(op:DS)(rd:V->V->Hp->VK->Prop):Prop:=∀(pins:List (U×ba)) (s:ax) (σ:St) (H:Hp) (x y:V) (u v:af) (Q:VK),Inv X pins σ H s->RelV x u->RelV y v->rd x y H Q->aY (bp X.prog X.w) X.A (MW op u v) (EP X pins σ Q) X.xe s
def K4(K:bn)(ta tv:TE)(rd:V->V->Hp->VK->Prop)(f:ac):TS:=fun D σ H=>ta σ H fun x H1=>∃a C dx fs v,x=.ref a/\H1 a=some (.am C dx fs)/\dN K C/\bO K C f/\fs.lookup f=some v/\tv σ H1 fun y H2=>rd v y H2 fun z H3=>∃nO vJ,H3 a=some (.am C nO vJ)/\vJ.length<1000/\D.nx σ (ae H3 a (.am C nO (aW f z vJ)))
section
variable{X:Cx}{o e value:bz}{f:ac}{pos jC Yf:cS}{ta tv:TE}
theorem om(he:PE X e ta)(hb:xr e f X.env (cB e X.env)=cB e X.env):PE X (.Attribute e f pos) (kt X.K ta f):=by intro pins s σ H Q I h;refine aaR hb (bj (he pins s σ H _ I h) fun u s1 ⟨x,H1,I1,rx,a,C,dx,fs,v,ex,ea,c,n,l,q⟩=>?_);subst ex;obtain rfl:u=Value.ref a:=rx;exact Ph I1 ea c n l fun u' s2 I2 ru=>{(v),H1,I2,ru,q}
theorem bT(ha:PE X o ta)(hv:PE X value tv)(hs:xx value (some (.Attribute o f jC)) pos.line X.env=pure false):PS X (.Assign [.Attribute o f jC] value pos) (K3 X.K ta tv f):=by intro pins s σ H D I h;refine plainObj_wpAny_Assign_Attribute (bj (hv pins s σ H _ I h) fun u s1 ⟨y,H1,I1,ry,q⟩=>bj (ha pins s1 σ H1 _ I1 q) fun ov s2 ⟨x,H2,I2,rx,a,C,dx,fs,ex,ea,c,n,l,q2⟩=>?_) hs;subst ex;obtain rfl:ov=Value.ref a:=rx;exact V6 I2 ea c n l ry fun s3 I3=>{σ,_,I3,q2}
theorem l9{op:DS}{rd:V->V->Hp->VK->Prop}(ha:PE X o ta)(hv:PE X value tv)(hop:Ec X op rd):PS X (.AugAssign (.Attribute o f Yf) op value pos) (K4 X.K ta tv rd f):=by intro pins s σ H D I h;refine wpAny_AugAssign_AttributeAny (bj (ha pins s σ H _ I h) fun ov s1 ⟨x,H1,I1,rx,a,C,dx,fs,v,ex,ea,c,n,l,q⟩=>?_);subst ex;obtain rfl:ov=Value.ref a:=rx;refine Ph I1 ea c n l fun u s2 I2 ru=>bj (hv pins s2 σ H1 _ I2 q) fun w3 s3 ⟨y,H2,I3,ry,q3⟩=>bj (hop pins s3 σ H2 v y u w3 _ I3 ru ry q3) fun w4 s4 ⟨z,H3,I4,rz,nO,vJ,xR,l',q4⟩=>?_;exact V6 I4 xR c n l' rz fun s5 I5=>{σ,_,I5,q4}
def CO:V->V->Hp->VK->Prop:=fun x y H Q=>∃i j,x=.int i/\y=.int j/\Q (.int (i+j)) H
def CP:V->V->Hp->VK->Prop:=fun x y H Q=>∃i j,x=.int i/\y=.int j/\Q (.int (i-j)) H
theorem mR:Ec X .Add CO:=by rintro pins s σ H x y u v Q I rx ry ⟨i,j,rfl,rfl,q⟩;obtain⟨t,rfl⟩:=(show∃t,u=Value.int i t from rx);obtain⟨t',rfl⟩:=(show∃t',v=Value.int j t' from ry);exact apd {.int (i+j),H,I.dZ _,{_,rfl},q}
theorem agO:Ec X .Sub CP:=by rintro pins s σ H x y u v Q I rx ry ⟨i,j,rfl,rfl,q⟩;obtain⟨t,rfl⟩:=(show∃t,u=Value.int i t from rx);obtain⟨t',rfl⟩:=(show∃t',v=Value.int j t' from ry);exact ape {.int (i-j),H,I.dZ _,{_,rfl},q}
end
section
variable{X:Cx}{pins:List (U×ba)}{σ:St}{H:Hp}{s:ax}{A:cO}{E:af->ax->Prop}{Q:af->ax->Prop}{c:af}{b:Bool}
inductive iU(K:bn)(H:Hp):V->af->Prop where
 |aN:iU K H .aN (.type "NoneType")|bl (x:Bool):iU K H (.bl x) (.type "bool")|int (i:Int):iU K H (.int i) (.type "int")|str (x:ac):iU K H (.str x) (.type "str")|rp (x:UInt64):iU K H (.rp x) (.type "float")|ag {a:U} {xs:List V} (e:H a=some (.ag xs)):iU K H (.ref a) (.type "list")|br {a:U} {o:ba} {xs:List V} (e:H a=some (.br o (.ag xs))):iU K H (.ref a) (.type "list")|cH {a:U} {xs:List V} (e:H a=some (.cH xs)):iU K H (.ref a) (.type "tuple")|dK {a:U} {kvs:List (Key×V)} (e:H a=some (.dK kvs)):iU K H (.ref a) (.type "dict")|dT {a:U} {kvs:List (List Key×V)} (e:H a=some (.dT kvs)):iU K H (.ref a) (.type "dict")
 |am {a C dx:U} {fs:List (ac×V)} (e:H a=some (.am C dx fs)) (cl:dN K C) (ha:oB K (.ref C) "__class__"=some (some (.builtin "object.__class__")))
   (hn:PySem.W.specialIn K (.builtin "object.__class__") "__get__"=some (some (.builtin "getset_descriptor.__get__"))) (htk:PySem.W.takesIn K (.builtin "object.__class__")=some true)
   (hm:PySem.W.mroIn K C (.type "object")=some true):iU K H (.ref a) (.ref C)
theorem ag4{x:V}{u t:af}(I:Inv X pins σ H s)(rx:RelV x u)(ty:iU X.K H x t)(e:qJ X.K t c=some b)(h:∀tk,Q (.bool b) {s with toks:=tk}):
  aY (bp X.prog X.w) A (call (.builtin "isinstance") [u,c]) Q E s:=by
 cases ty with
 |aN=>cases(show u=Value.none from rx);exact pL PySem.W.kitx_none I.eO jq e (fun z=>nomatch z) h|bl y=>cases(show u=Value.bool y from rx);exact pL PySem.W.kitx_bool I.eO jq e (fun z=>nomatch z) h
 |int i=>obtain⟨t,q⟩:=(show∃t,u=Value.int i t from rx);cases q;exact pL PySem.W.kitx_int I.eO jq e (fun z=>nomatch z) h|str y=>obtain⟨t,q⟩:=(show∃t,u=Value.str y t from rx);cases q;exact pL PySem.W.kitx_str I.eO jq e (fun z=>nomatch z) h
 |rp y=>obtain⟨t,q⟩:=(show∃t,u=Value.float y t from rx);cases q;exact pL PySem.W.kitx_float I.eO jq e (fun z=>nomatch z) h|@ag a xs ea=>cases(show u=Value.ref a from rx);obtain⟨_,_,n,_,h1⟩:=(show eV X.prog X.w H s.heap a (.ag xs)from I.aO a _ ea);exact pL apr I.eO {_,h1,rfl} e (fun z=>nomatch z) h
 |@br a ob xs ea=>cases(show u=Value.ref a from rx);obtain⟨_,_,_,n,_,h1⟩:=(show eV X.prog X.w H s.heap a (.br ob (.ag xs))from I.aO a _ ea);exact pL apr I.eO {_,h1,rfl} e (fun z=>nomatch z) h|@cH a xs ea=>cases(show u=Value.ref a from rx);obtain⟨_,_,_,p⟩:=(show eV X.prog X.w H s.heap a (.cH xs)from I.aO a _ ea);obtain⟨o,h1,h2,_⟩:=p;exact pL PySem.W.kitx_tuple I.eO {(o),h1,h2} e (fun z=>nomatch z) h
 |@dK a kvs ea=>cases(show u=Value.ref a from rx);obtain⟨_,_,vs,_,p⟩:=(show eV X.prog X.w H s.heap a (.dK kvs)from I.aO a _ ea);obtain⟨o,es,ep,h1,h2,_⟩:=p;exact pL apq I.eO {(o),h1,h2.1} e (fun z=>nomatch z) h|@dT a kvs ea=>cases(show u=Value.ref a from rx);obtain⟨_,_,xs,_,o,es,ep,h1,h2,_⟩:=(show eV X.prog X.w H s.heap a (.dT kvs)from I.aO a _ ea);exact pL apq I.eO {(o),h1,h2.1} e (fun z=>nomatch z) h
 |@am a C dx fs ea cl ha hn htk hm=>cases(show u=Value.ref a from rx);obtain⟨mA,O,_⟩:=BB I.aO ea;obtain⟨od,J,_⟩:=O.t9;exact pL (PySem.W.kitx_own (cl.gN _) cl.hd ha hn htk hm) I.eO J e (fun z=>nomatch z) h
end
end _L
namespace _L
structure dR(k:Nat)(A:cO):Prop where
 hd:A.handled=none
 dp:A.depth+3*k+5<apz
 un:A.units+16*k+200<lG
theorem dR.mono{j k:Nat}{A:cO}(r:dR k A)(h:j<=k):dR j A:=⟨r.hd,by have:=r.dp;lia,by have:=r.un;lia⟩
theorem dR.deeper{k:Nat}{A:cO}(r:dR (k+1) A)(env:fC):dR k (A.deeper env):=⟨r.hd,by have:=r.dp;show A.depth+1+3*k+5<_;lia,by have:=r.un;show A.units+3+16*k+200<_;lia⟩
theorem aib{A:cO}{C:U}{us:List af}{kw:List (ac×af)}:(A.under (.builtin "type.__call__" {.ref C::us,kw})).depth=A.depth+1:=by first |rfl |simp[Around.under,Code.weight,Code.isCreation,Code.isGuard,Code.isCaller,Code.frames,Code.isFrame,guardIds]
theorem aid{A:cO}{C:U}{us:List af}{kw:List (ac×af)}:(A.under (.builtin "type.__call__" {.ref C::us,kw})).units=A.units+1:=by first |rfl |simp[Around.under,Code.cUnits,Code.frames,Code.isFrame]
theorem dR.I0{k:Nat}{A:cO}(r:dR (k+1) A)(C:U)(us:List af)(kw:List (ac×af)):dR k (A.under (.builtin "type.__call__" {.ref C::us,kw})):=⟨r.hd,by have:=r.dp;rw[aib];lia,by have:=r.un;rw[aid];lia⟩
theorem dR.depth{k:Nat}{A:cO}(r:dR k A):A.depth<apz:=by have:=r.dp;lia
theorem dR.units{k:Nat}{A:cO}(r:dR k A):A.units+64<lG:=by have:=r.un;lia
def gQ:TA:=fun _ H Q=>Q [] H
def lw(ta:TE)(tr:TA):TA:=fun σ H Q=>ta σ H fun x H1=>tr σ H1 fun xs H2=>Q (x::xs) H2
section
variable{X:Cx}{e:bz}{es:List bz}{te:TE}{t:TA}{pos:cS}
theorem aA:PA X [] gQ:=fun _ _ _ _ H Q I h=>Calls.spliced_nil {[],H,I,.nil,h}
theorem aq(ha:PE X e te)(hr:PA X es t)(hs:autoParam (cX (e::es) X.env=(false,cB e X.env)::cX es X.env) _L.aR):PA X (e::es) (lw te t):=by intro pos pins s σ H Q I h;rw[hs];show aY _ _ (spliced ((false,cB e X.env)::ig pos (cX es X.env))) _ _ s;refine Calls.spliced_cons (bj (ha pins s σ H _ I h) fun u s1 ⟨x,H1,I1,r1,q1⟩=>?_);exact bj (hr pos pins s1 σ H1 _ I1 q1) fun us s2 ⟨xs,H2,I2,r2,q2⟩=>{x::xs,H2,I2,.cons r1 r2,q2}
def L0(t:TA):TE:=fun σ H Q=>t σ H fun xs H1=>xs.length<=cp/\∀p,H1 p=none->Q (.ref p) (ae H1 p (.cH xs))
def zw(t:TA):TE:=fun σ H Q=>t σ H fun xs H1=>xs.length<=cp/\∀p,H1 p=none->Q (.ref p) (ae H1 p (.ag xs))
theorem S4{x1}(h:PA X es t):PE X (.Tuple es x1 pos) (L0 t):=by intro pins s σ H Q I hq;refine wpAny_Tuple_spliced (bj (h pos pins s σ H _ I hq) fun us s1 ⟨xs,H1,I1,r,z,q⟩=>{by rw[←r.length];exact z,?_});have hf:H1 s1.heap.objs.size=none:=I1.aO.fresh (bR _);refine{.ref s1.heap.objs.size,ae H1 s1.heap.objs.size (.cH xs),I1.j8 (t':=s1.toks) (fun b u e=>Heap.get?_push_of_some _ e) (bR _) ?_,rfl,q _ hf};exact{z,us,r,{_,Heap.get?_push_size _ rfl,rfl,_,rfl}}
theorem fc(h:PA X es t):PE X (.List es pos) (zw t):=by intro pins s σ H Q I hq;refine wpAny_List_spliced (bj (h pos pins s σ H _ I hq) fun us s1 ⟨xs,H1,I1,r,z,q⟩=>{by rw[←r.length];exact z,?_});have hf:H1 s1.heap.objs.size=none:=I1.aO.fresh (bR _);refine{.ref s1.heap.objs.size,ae H1 s1.heap.objs.size (.ag xs),I1.j8 (t':=s1.toks) (fun b u e=>Heap.get?_push_of_some _ e) (bR _) ?_,rfl,q _ hf};exact{z,us,0,r,Heap.get?_push_size _ rfl}
end
abbrev Sp:=List V->Hp->VK->XK->Prop
abbrev lJ:=List fC->Hp->ax->XK->af->ax->Prop
structure sP(P:cA)(w:ck)(K:bn)(mg:ac->Option af)(base:bP)(A:cO)(outer:List fC)(s:ax)(H:Hp):Prop where
 frames:A.frames=some outer
 ir:Mod K mg base
 bs:∀b o,base.get? b=some o->s.heap.get? b=some o/\H b=none
 pX:base.objs.size<=s.heap.objs.size
 mM:s.heap.FunFrames base outer
 tK:∀b∈nV outer,H b=none
 aO:dG P w H s.heap
 gZ:xp s.gens
def CE(outer:List fC)(P:cA)(w:ck)(H:Hp)(s:ax)(Q:VK)(u:af)(s':ax):Prop:=∃v H',s'.os=s.os/\xp s'.gens/\Un (nV outer) [] H H' s.heap s'.heap/\dG P w H' s'.heap/\RelV v u/\Q v H'
def CR(CX:lJ)(outer:List fC)(P:cA)(w:ck)(H:Hp)(s:ax)(Q:VK)(E:XK)(r:DT)(s':ax):Prop:=
 match r with
 |.ok (.ret u)=>CE outer P w H s Q u s'|.ok _=>False
 |.error e=>CX outer H s E e s'
structure jQ(P:cA)(w:ck)(K:bn)(mg:ac->Option af)(base:bP)(CX:lJ)(k:Nat)(f:U)(fd:mw)(ps:List ac)(sp:Sp):Prop where
 bu:∀vs H Q E,sp vs H Q E->vs.length=ps.length
 run:∀(A:cO) (outer:List fC) (s:ax) (H:Hp) (args:Args) (us:List af) (vs:List V) (Q:VK) (E:XK),dR k A->sP P w K mg base A outer s H->z6 s fd args (ps.zip us)->bF vs us->sp vs H Q E->
  sI (bp P w) A (.call (.ref f) args) (CR CX outer P w H s Q E) s
theorem sP.I0{P:cA}{w:ck}{K:bn}{mg:ac->Option af}{base:bP}{A:cO}{outer:List fC}{s:ax}{H:Hp}(e:sP P w K mg base A outer s H)(C:U)(us:List af)(kw:List (ac×af)):
  sP P w K mg base (A.under (.builtin "type.__call__" {.ref C::us,kw})) outer s H:=⟨by first |exact e.frames |(simpa[Around.under,Code.envs,Code.isFrame,pushEnvs]using e.frames),e.ir,e.bs,e.pX,e.mM,e.tK,e.aO,e.gZ⟩
section
variable{X:Cx}{pins:List (U×ba)}{σ:St}{H:Hp}{s s':ax}
theorem Inv.OK(I:Inv X pins σ H s):sP X.prog X.w X.K X.mg X.base X.A X.stack s H:={I.ok.frames,I.ok.ir,I.bs,jk I.ok.pX I.sz,I.stack,I.XE,I.aO,I.gZ}
theorem Inv.cY{Q:VK}{u:af}(I:Inv X pins σ H s)(h:CE X.stack X.prog X.w H s Q u s'):EP X pins σ Q u s':=by obtain⟨v,H',os,gZ,un,aO,r,q⟩:=h;obtain⟨hh,g,d,t,JI⟩:=s';obtain rfl:JI=s.os:=os;exact{v,H',I.call (h':=hh) (g':=g) (d':=d) (t':=t) (ch:=[]) un aO gZ (fun b z=>aJ z (by simp)),r,q}
end
def wQ(sp:Sp)(dvs:List V)(E:XK)(t:TA):TE:=fun σ H Q=>t σ H fun vs H1=>sp (vs++dvs) H1 Q E
def qB(C:U)(m:ac)(sp:Sp)(dvs:List V)(E:XK)(ta:TE)(t:TA):TE:=fun σ H Q=>ta σ H fun x H1=>∃a dx fs,x=.ref a/\H1 a=some (.am C dx fs)/\fs.lookup m=none/\t σ H1 fun vs H2=>sp (x::(vs++dvs)) H2 Q E
def wT(C:U)(sp:Sp)(dvs:List V)(E:XK)(t:TA):TE:=fun σ H Q=>t σ H fun vs H1=>∀x dx,H1 x=none->H1 dx=none->dx≠x->sp (.ref x::(vs++dvs)) (ae (ae H1 dx (.own x)) x (.am C dx [])) (fun v H2=>v=.aN/\Q (.ref x) H2) E
def Binds(K:bn)(fd:mw)(ps:List ac)(ds:List af):Prop:=∀(s:ax) (us:List af),K.In s.heap->(us++ds).length=ps.length->z6 s fd {us,[]} (ps.zip (us++ds))
theorem Binds.all{K:bn}{fd:mw}{ps:List ac}(h:∀us:List af,us.length=ps.length->Zi fd {us,[]}=pure (ps.zip us)):Binds K fd ps []:=fun s us _ hl=>by rw[ei]at hl⊢;exact .of_eq (h us hl)
def qO(CX:lJ)(X:Cx)(E:XK):Prop:=∀(pins:List (U×ba)) (σ:St) (H:Hp) (s:ax) (e:af) (s':ax),Inv X pins σ H s->CX X.stack H s E e s'->X.xe e s'
section
variable{X:Cx}{CX:lJ}{k:Nat}{f C:U}{fd:mw}{ps:List ac}{sp:Sp}{dvs:List V}{ds:List af}{E:XK}{x m:ac}{p pos apos:cS}{e o:bz}{es:List bz}{ta:TE}{t:TA}
theorem K0{pins:List (U×ba)}{σ:St}{H:Hp}{s:ax}{Q:VK}{us:List af}{vs:List V}(F:jQ X.prog X.w X.K X.mg X.base CX k f fd ps sp)(hr:dR k X.A)(hb:Binds X.K fd ps ds)(hd:bF dvs ds)(hx:qO CX X E)
  (I:Inv X pins σ H s)(r:bF vs us)(h:sp (vs++dvs) H Q E):aY (bp X.prog X.w) X.A (call (.ref f) us) (EP X pins σ Q) X.xe s:=by
 have r2:bF (vs++dvs) (us++ds):=r.append hd;have hl:(us++ds).length=ps.length:=by rw[←r2.length];exact F.bu _ _ _ _ h
 refine Zr (Ab (F.run X.A X.stack s H {us,[]} (us++ds) (vs++dvs) Q E hr I.OK (hb s us I.eO hl) r2 h) fun r s' hq=>?_);cases r with
 |error e=>exact hx pins σ H s e s' I hq|ok fl=>
  cases fl with
  |ret u=>exact I.cY hq|next=>exact jK hq
  |brk=>exact jK hq|cont=>exact jK hq
theorem akV(F:jQ X.prog X.w X.K X.mg X.base CX k f fd ps sp)(hr:dR k X.A)(hg:Gl X x)(hm:X.mg x=some (.ref f))(hk:sF X.K (.ref f)=true)(hb:Binds X.K fd ps ds)(hd:bF dvs ds)(hx:qO CX X E)
  (ha:PA X (e::es) t)(hdb:autoParam ((x==("__debug__":ac))=false) _L.aD)(he:autoParam (cX (e::es) X.env=(false,cB e X.env)::cX es X.env) _L.aR)(hpl:autoParam ((ig pos (cX es X.env)).any (·.1)=false) _L.aR):
  PE X (.Call (.Name x p) (e::es) [] pos) (wQ sp dvs E t):=by
 intro pins s σ H Q I h;refine D9 (BI I hg hm ?_ hdb);refine Zb (h₀:=X.base) I.ok.ir.yD hk (bj (ha pos pins s σ H _ I h) fun us s1 ⟨vs,H1,I1,r,q⟩=>{I1.eO,?_}) he hpl;exact K0 F hr hb hd hx I1 r q
theorem ak0{pl:jn Bool}(he:PE X o ta)(c:dN X.K C)(hm:cf X.K C m f)(F:jQ X.prog X.w X.K X.mg X.base CX k f fd ps sp)(hr:dR k X.A)(hb:Binds X.K fd ps ds)(hd:bF dvs ds)(hx:qO CX X E)(ha:PA X (e::es) t)
  (hst:autoParam (cX (e::es) X.env=(false,cB e X.env)::cX es X.env) _L.aR)(hpl:autoParam ((ig pos (cX es X.env)).any (·.1)=false) _L.aR)
  (ht:cB (.Call (.Attribute o m apos) (e::es) [] pos) X.env=(do
   let ov←cB o X.env
   D7 apos.atName
   let (f,first)←holding [ov] (Ad ov m pl)
   DW pos f first (ig pos (cX (e::es) X.env)) (xt pos (xu [] X.env))):=by rfl):
  PE X (.Call (.Attribute o m apos) (e::es) [] pos) (qB C m sp dvs E ta t):=by
 intro pins s σ H Q I h;refine apu (pl:=pl) (bj (he pins s σ H _ I h) fun u s1 ⟨x,H1,I1,rx,a,dx,fs,ex,ea,l,q⟩=>?_) ht;subst ex;obtain rfl:u=Value.ref a:=rx;refine Pj I1 ea c hm l ?_;refine Zb (first:=[.ref a]) (h₀:=X.base) I.ok.ir.yD hm.kp (bj (ha pos pins s1 σ H1 _ I1 q) fun us s2 ⟨vs,H2,I2,r,q2⟩=>{I2.eO,?_}) hst hpl;exact K0 (us:=.ref a::us) (vs:=.ref a::vs) F hr hb hd hx I2 (.cons rfl r) q2
theorem ak1{pl:jn Bool}(he:PE X o ta)(c:dN X.K C)(hm:cf X.K C m f)(F:jQ X.prog X.w X.K X.mg X.base CX k f fd ps sp)(hr:dR k X.A)(hb:Binds X.K fd ps ds)(hd:bF dvs ds)(hx:qO CX X E)
  (ht:autoParam (cB (.Call (.Attribute o m apos) [] [] pos) X.env=(do
   let ov←cB o X.env
   D7 apos.atName
   let (f,first)←holding [ov] (Ad ov m pl)
   DW pos f first (ig pos (cX [] X.env)) (xt pos (xu [] X.env)))) _L.aR):
  PE X (.Call (.Attribute o m apos) [] [] pos) (qB C m sp dvs E ta gQ):=by
 intro pins s σ H Q I h;refine apu (pl:=pl) (bj (he pins s σ H _ I h) fun u s1 ⟨x,H1,I1,rx,a,dx,fs,ex,ea,l,q⟩=>?_) ht;subst ex;obtain rfl:u=Value.ref a:=rx;refine Pj I1 ea c hm l ?_;exact apm (first:=[.ref a]) I1.eO hm.kp (K0 (us:=[.ref a]) (vs:=[.ref a]) F hr hb hd hx I1 (.cons rfl .nil) q)
structure Mk(K:bn)(C f:U):Prop where
 makes:Zc K C=true
 init:oB K (.ref C) "__init__"=some (some (.ref f))
 fn:MM K (.ref f)=true
 kp:sF K (.ref C)=true
theorem TC{pins:List (U×ba)}{σ:St}{H:Hp}{s:ax}{Q:VK}{us:List af}{vs:List V}(M:Mk X.K C f)(F:jQ X.prog X.w X.K X.mg X.base CX k f fd ps sp)(hr:dR (k+1) X.A)(hb:Binds X.K fd ps ds)(hd:bF dvs ds)
  (hx:qO CX X E)(I:Inv X pins σ H s)(r:bF vs us)
  (h:∀x dx,H x=none->H dx=none->dx≠x->sp (.ref x::(vs++dvs)) (ae (ae H dx (.own x)) x (.am C dx [])) (fun v H2=>v=.aN/\Q (.ref x) H2) E):
  aY (bp X.prog X.w) X.A (call (.ref C) us) (EP X pins σ Q) X.xe s:=by
 have hq:=h (s.heap.objs.size+1) s.heap.objs.size (I.aO.fresh (uM _)) (I.aO.fresh (bR _)) (jl (gF _));have I2:=Inv.made (C:=C) I;have r2:bF (V.ref (s.heap.objs.size+1)::(vs++dvs)) (Value.ref (s.heap.objs.size+1)::(us++ds)):=.cons rfl (r.append hd);have hl:(Value.ref (s.heap.objs.size+1)::us++ds).length=ps.length:=by have e:=r2.length;rw[F.bu _ _ _ _ hq]at e;exact e.symm
 refine Zr (aic (f:=f) I.eO M.makes M.init (beq_iff_eq.mp M.fn) (Ab (F.run _ X.stack _ _ {Value.ref (s.heap.objs.size+1)::us,[]} (Value.ref (s.heap.objs.size+1)::(us++ds)) _ _ E (hr.I0 C us []) (I2.OK.I0 C us []) (hb _ (Value.ref (s.heap.objs.size+1)::us) I2.eO hl) r2 hq) fun r s' rK=>?_));cases r with
 |error e=>exact hx pins σ _ _ e s' I2 rK|ok fl=>
  cases fl with
  |ret u=>obtain⟨v,H',I3,rv,ev,q3⟩:=I2.cY rK;subst ev;exact{rv,{V.ref (s.heap.objs.size+1),H',I3,rfl,q3}}|next=>exact jK rK
  |brk=>exact jK rK|cont=>exact jK rK
theorem akY(M:Mk X.K C f)(F:jQ X.prog X.w X.K X.mg X.base CX k f fd ps sp)(hr:dR (k+1) X.A)(hg:Gl X x)(hm:X.mg x=some (.ref C))(hb:Binds X.K fd ps ds)(hd:bF dvs ds)(hx:qO CX X E)
  (ha:PA X (e::es) t)(hdb:autoParam ((x==("__debug__":ac))=false) _L.aD)(he:autoParam (cX (e::es) X.env=(false,cB e X.env)::cX es X.env) _L.aR)(hpl:autoParam ((ig pos (cX es X.env)).any (·.1)=false) _L.aR):
  PE X (.Call (.Name x p) (e::es) [] pos) (wT C sp dvs E t):=by
 intro pins s σ H Q I h;refine D9 (BI I hg hm ?_ hdb);refine Zb (h₀:=X.base) I.ok.ir.yD M.kp (bj (ha pos pins s σ H _ I h) fun us s1 ⟨vs,H1,I1,r,q⟩=>{I1.eO,?_}) he hpl;exact TC M F hr hb hd hx I1 r q
theorem akZ(M:Mk X.K C f)(F:jQ X.prog X.w X.K X.mg X.base CX k f fd ps sp)(hr:dR (k+1) X.A)(hg:Gl X x)(hm:X.mg x=some (.ref C))(hb:Binds X.K fd ps ds)(hd:bF dvs ds)(hx:qO CX X E)
  (hdb:autoParam ((x==("__debug__":ac))=false) _L.aD):PE X (.Call (.Name x p) [] [] pos) (wT C sp dvs E gQ):=by
 intro pins s σ H Q I h;refine D9 (BI I hg hm ?_ hdb);exact apm I.eO M.kp (TC (us:=[]) M F hr hb hd hx I .nil h)
end
section
variable{X:Cx}{CX:lJ}{k:Nat}{f C:U}{fd:mw}{ps ks:List ac}{sp:Sp}{E:XK}{x m:ac}{p pos apos apY:cS}{e o:bz}{es:List bz}{kws:List xq}{te ta:TE}{t tk:TA}{nm:Option ac}
variable{g:List af->List af->List af}{gV:List V->List V->List V}
end
structure aZ(N P:List ac)(sc:fZ):Prop where
 kind:sc.kind=.function
 co:sc.isCoroutine=false
 gen:sc.isGenerator=false
 nd:N.Nodup
 pre:N.take P.length=P
 SE:∀x∈P,sc.names.lookup x=some .local∨sc.names.lookup x=some .cell
 ajs:∀y∈sc.names,y.2≠.free
theorem NU{kindOf:ac->Option kK}{x:ac}:∀{sY:List (ac×af)} {m:ac->Option af},(∀v,(x,v) ∉ sY)->uV kindOf sY m x=m x
 |[],_,_=>rfl|(n,v)::r,m,h=>by
  unfold uV;rw[NU fun w hw=>h w (dq _ hw)];split
  .have:x≠n:=by rintro rfl;exact h v eS
   simp[this]
  rfl
theorem NS{kindOf:ac->Option kK}{x:ac}:∀{sY:List (ac×af)} {m:ac->Option af},(∀v,(x,v) ∉ sY)->uU kindOf sY m x=m x
 |[],_,_=>rfl|(n,v)::r,m,h=>by
  unfold uU;rw[NS fun w hw=>h w (dq _ hw)];split
  .rfl
  have:x≠n:=by rintro rfl;exact h v eS
  simp[this]
theorem NT{kindOf:ac->Option kK}{x:ac}{v:af}:∀{P:List ac} {vs:List af} {i:Nat} {m:ac->Option af},P.Nodup->P[i]?=some x->vs[i]?=some v->kindOf x=some .local->
  uV kindOf (P.zip vs) m x=some v
 |[],_,_,_,_,h,_,_=>by simp at h|_::_,[],_,_,_,_,h,_=>by simp at h
 |p::P,w::vs,0,m,nd,h1,h2,hk=>by simp at h1 h2;subst h1;subst h2;show uV kindOf ((p,w)::P.zip vs) m p=_;unfold uV;rw[NU fun v hv=>(gE.mp nd).1 (YT hv).1,az hk];simp|p::P,w::vs,i+1,m,nd,h1,h2,hk=>by show uV kindOf ((p,w)::P.zip vs) m x=_;unfold uV;exact NT (i:=i) (gE.mp nd).2 (by simpa using h1) (by simpa using h2) hk
theorem NR{kindOf:ac->Option kK}{x:ac}{v:af}:∀{P:List ac} {vs:List af} {i:Nat} {m:ac->Option af},P.Nodup->P[i]?=some x->vs[i]?=some v->kindOf x≠some .local->
  uU kindOf (P.zip vs) m x=some v
 |[],_,_,_,_,h,_,_=>by simp at h|_::_,[],_,_,_,_,h,_=>by simp at h
 |p::P,w::vs,0,m,nd,h1,h2,hk=>by simp at h1 h2;subst h1;subst h2;show uU kindOf ((p,w)::P.zip vs) m p=_;unfold uU;rw[NS fun v hv=>(gE.mp nd).1 (YT hv).1,ao hk];simp|p::P,w::vs,i+1,m,nd,h1,h2,hk=>by show uU kindOf ((p,w)::P.zip vs) m x=_;unfold uU;exact NR (i:=i) (gE.mp nd).2 (by simpa using h1) (by simpa using h2) hk
noncomputable def start(N:List ac)(vs:List V):St:=vs.map some++List.replicate (N.length-vs.length) none
noncomputable def qW(CX:lJ)(P:cA)(w:ck)(K:bn)(mg:ac->Option af)(base:bP)(N:List ac)(qual:ac)(scope:fZ)(f:U)(cd:af)(A:cO)(outer:List fC)(s:ax)(H:Hp)(E:XK):Cx where
 prog:=P
 w:=w
 K:=K
 mg:=mg
 base:=base
 A:=A.deeper (qI qual scope s.heap.objs.size f cd)
 N:=N
 gy:=s
 sQ:=H
 env:=qI qual scope s.heap.objs.size f cd
 outer:=outer
 stack:=qI qual scope s.heap.objs.size f cd::outer
 ex:=[]
 calm:=true
 fn:=fun _=>true
 pn:=[]
 xe:=fun e s'=>aY (bp P w) (A.deeper (qI qual scope s.heap.objs.size f cd)) (leaving (qI qual scope s.heap.objs.size f cd) e) (fun _ zj=>CX outer H s E e zj) (fun e' zj=>CX outer H s E e' zj) s'
theorem N1{sc:fZ}{n:Nat}{x:ac}(h:sc.names.lookup x=some .cell):∃c,(ij n sc.names []).lookup x=some c:=by have q:=apn sc.names n [] (.inl h);exact ao7.mp q
theorem agV{CX:lJ}{P:cA}{w:ck}{K:bn}{mg:ac->Option af}{base:bP}{N ps:List ac}{qual:ac}{scope:fZ}{f:U}{cd:af}{A:cO}{outer:List fC}{s s1:ax}{H:Hp}{E:XK}{us:List af}{vs:List V}
  (S:aZ N ps scope)(hd:A.handled=none)(e0:sP P w K mg base A outer s H)(hl:vs.length=ps.length)(r:bF vs us)
  (x:InCallC s s.heap.objs.size (uV (qI qual scope s.heap.objs.size f cd).kindOf (ps.zip us) fun _=>none) (ij (s.heap.objs.size+1) scope.names []) (uU (qI qual scope s.heap.objs.size f cd).kindOf (ps.zip us) fun _=>none) s1):
  Inv (qW CX P w K mg base N qual scope f cd A outer s H E) [] (start N vs) H s1:=by
 have hpl:ps.length<=N.length:=by have:=eU kE S.pre;rw[nc]at this;lia
 obtain⟨h1,tk,rfl,hk⟩:=x.done;have noA:∀b:U,b ∉(qW CX P w K mg base N qual scope f cd A outer s H E).ex:=fun b z=>aJ (show b∈([]:List U)from z) (by simp);refine{{e0.ir,S.kind,rfl,rfl,bR _,fun y z c h1 h2=>?_,fun y hy=>?_,fun y c _ h=>?_,fun _=>hd,Around.frames_deeper e0.frames,.inr {(rfl),rfl},fun b z=>aJ z (noA b),e0.bs,e0.pX,fun b _ _=>noA b,fun b z=>aJ z (noA b),e0.mM,e0.tK},rfl,e0.gZ,Un.hU hk,{_,x.toInCall.ns,fun i y v h1 h2 h3=>?_},fun y c h=>{_,x.cell y c h},e0.aO.fresh (bR _),fun y c h=>?_,fun p hp=>aJ (show p∈([]:List (U×ba))from hp) (by simp),e0.aO.hU hk,?_}
 .exact name_of_addr x.apart (lH h1) (lH h2)
 .have hy:scope.names.lookup y=some .cell∨scope.names.lookup y=some .free:=hy;rcases hy with hy |hy
  .exact N1 hy
  exact aJ rfl (S.ajs _ (lH hy))
 .exact gi (x.above y c (lH h))
 .have hi:i<vs.length:=by
   unfold start at h2;by_cases hi:i<vs.length
   .exact hi
   rw[List.getElem?_append_right (by simpa using hi)]at h2;rw[List.getElem?_replicate]at h2;split at h2<;>cases h2
  have ha:vs[i]?=some v:=by unfold start at h2;rw[xg (by simpa using hi),dQ]at h2;cases e:vs[i]? with|none=>rw[e]at h2;cases h2|some a=>rw[e]at h2;cases h2;rfl
  obtain⟨u,hu,rv⟩:=r.gN ha;have hp:ps[i]?=some y:=by rwa[←S.pre,List.getElem?_take_of_lt (by lia)]
  have RO:ps.Nodup:=by rw[←S.pre];exact S.nd.sublist (List.take_sublist _ _)
  refine{u,rv,?_};rcases S.SE y (fh hp)with k |k
  .exact .inl {k,NT RO hp hu k}
  obtain⟨c,e⟩:=N1 (n:=s.heap.objs.size+1) k;refine .inr {.inl k,c,e,?_};have q:=x.cell y c e;rw[NR RO hp hu (by show scope.names.lookup y≠_;rw[k];decide)]at q;exact q
 .exact e0.aO.fresh (gi (x.above y c (lH h)))
 unfold start;show _=N.length;rw[cw,bL,List.length_replicate];lia
theorem aex{CX:lJ}{P:cA}{w:ck}{K:bn}{mg:ac->Option af}{base:bP}{k:Nat}{f:U}{name qual:ac}{params:Arguments}{body:List gj}{scope:fZ}{dV kV doc pm cdv ct oc:af}{an od:Option U}
  {osl:Array (Option af)}{N ps:List ac}{sp:Sp}(lk:K.lookup f=some {oc,od,.func (uS name qual params body scope dV kV doc pm an cdv ct),osl})(hcd:MK K cdv qual=true)(S:aZ N ps scope)
  (bu:∀vs H Q E,sp vs H Q E->vs.length=ps.length)
  (hbody:∀(A:cO) (outer:List fC) (s:ax) (H:Hp) (vs:List V) (Q:VK) (E:XK),dR k (A.deeper (qI qual scope s.heap.objs.size f cdv))->sp vs H Q E->∃t,kS (qW CX P w K mg base N qual scope f cdv A outer s H E) body t/\t {nx:=fun _ H'=>Q .aN H',rt:=Q} (start N vs) H):
  jQ P w K mg base CX (k+1) f (uS name qual params body scope dV kV doc pm an cdv ct) ps sp:=by
 refine{bu,fun A outer s H args us vs Q E hr e0 hb r hsp=>?_};have hl:=bu _ _ _ _ hsp;have KX:K.In s.heap:=e0.ir.yD.keeps fun b o e=>(e0.bs b o e).1;have lim:s.heap.NoLimit:=e0.ir.nolimit.keeps fun b o e=>(e0.bs b o e).1;have afZ:∀y∈ps.zip us,scope.names.lookup y.1=some .local∨(scope.names.lookup y.1=some .cell/\((ij (s.heap.objs.size+1) scope.names []).lookup y.1).isSome=true):=fun⟨n,v⟩ hy=>by
  rcases S.SE n (YT hy).1 with q |q
  .exact .inl q
  exact .inr {q,apn _ _ _ (.inl q)}
 refine codeAny_call_function hr.depth (KX _ _ lk) rfl S.co S.gen rfl (PySem.W.codeRec_of KX hcd) (hb _ _ _ _ ?_);refine wpAny_newFunctionEnv_cells S.kind afZ fun env he s1 x=>?_;subst he;refine{lim.keeps x.toInCall.keep,codeAny_func ?_};obtain⟨t,ht,hq⟩:=hbody A outer s H vs Q E (hr.deeper _) hsp;have I:Inv (qW CX P w K mg base N qual scope f cdv A outer s H E) [] (start N vs) H s1:=agV S hr.hd e0 hl r x;refine nA (ht [] s1 (start N vs) H _ I hq) (fun fl s' hs=>?_) fun e s' hs=>hs;have fin:∀{σ':St} {H':Hp} {v:V} {u:af},Inv (qW CX P w K mg base N qual scope f cdv A outer s H E) [] σ' H' s'->RelV v u->Q v H'->CE outer P w H s Q u s':=fun{σ' H' v u} J rv q=>{(v),H',J.os,J.gZ,J.base,J.aO,rv,q};cases fl with
 |ret u=>obtain⟨v,σ',H',J,rv,q⟩:=hs;exact fin J rv q|next=>obtain⟨σ',H',J,q⟩:=hs;exact fin (v:=V.aN) (u:=Value.none) J rfl q
 |brk=>obtain⟨_,_,_,q⟩:=hs;exact jK q|cont=>obtain⟨_,_,_,q⟩:=hs;exact jK q
end _L
namespace _L
section
variable{X:Cx}{x:ac}{p pos:cS}{e:bz}{es:List bz}{t:TA}{id T:String}{r:List V->Hp->VK->Prop}
def wP(r:List V->Hp->VK->Prop)(t:TA):TE:=fun σ H Q=>t σ H fun vs H1=>r vs H1 Q
theorem mU(hc:kQ X (.builtin id) r)(hg:Gl X x)(hm:X.mg x=none)(hv:my x=some (.builtin id))(ha:PA X (e::es) t)(hn:autoParam (x≠"__name__") _L.aD)(hdb:autoParam ((x==("__debug__":ac))=false) _L.aD)
  (he:autoParam (cX (e::es) X.env=(false,cB e X.env)::cX es X.env) _L.aR)(hpl:autoParam ((ig pos (cX es X.env)).any (·.1)=false) _L.aR):PE X (.Call (.Name x p) (e::es) [] pos) (wP r t):=by
 intro pins s σ H Q I h;refine D9 (IK I hg hm hv ?_ hn hdb);exact ap8 (bj (ha pos pins s σ H _ I h) fun us s1 ⟨vs,H1,I1,r1,q1⟩=>hc pins s1 σ H1 vs us Q I1 r1 q1) he hpl
theorem SU(hc:kQ X (.type T) r)(hg:Gl X x)(hm:X.mg x=none)(hv:my x=some (.type T))(ha:PA X (e::es) t)(hn:autoParam (x≠"__name__") _L.aD)(hdb:autoParam ((x==("__debug__":ac))=false) _L.aD)
  (he:autoParam (cX (e::es) X.env=(false,cB e X.env)::cX es X.env) _L.aR)(hpl:autoParam ((ig pos (cX es X.env)).any (·.1)=false) _L.aR):PE X (.Call (.Name x p) (e::es) [] pos) (wP r t):=by
 intro pins s σ H Q I h;refine D9 (IK I hg hm hv ?_ hn hdb);exact ap9 (bj (ha pos pins s σ H _ I h) fun us s1 ⟨vs,H1,I1,r1,q1⟩=>hc pins s1 σ H1 vs us Q I1 r1 q1) he hpl
end
end _L
namespace HT
open PySem PyProof.Rows
section
open PySem.SeqAt
open PySem.AutoSeq1 (wpAny_loadPart')
open PySem.MeetsSeq PySem.MeetsSeq2 PySem.MeetsSeq3
end
section
variable{prog:cA}{w:ck}{A:cO}{E:af->ax->Prop}{s:ax}
noncomputable def jd(n d:Nat):Option Int->Nat|none=>d|some v=>if v<0 then (v+(n:Int)).toNat else min v.toNat n
theorem alL(n d:Nat):jd n d none=d:=rfl
theorem uu(n d k:Nat):jd n d (some (k:Int))=min k n:=by show(if (k:Int)<0 then ((k:Int)+(n:Int)).toNat else min (k:Int).toNat n)=min k n;rw[ao (by lia),Yw]
end
end HT
namespace _L
abbrev TO:=St->Hp->(Option Int->Hp->Prop)->Prop
def PO(X:Cx)(e:Option bz)(t:TO):Prop:=∀(pins:List (U×ba)) (s:ax) (σ:St) (H:Hp) (Q:Option Int->Hp->Prop),Inv X pins σ H s->t σ H Q->aY (bp X.prog X.w) X.A (evalPart e X.env) (fun u s'=>∃o H',Inv X pins σ H' s'/\IsPart u o/\Q o H') X.xe s
def LO:TO:=fun _ H Q=>Q none H
def LV(t:TE):TO:=fun σ H Q=>t σ H fun x H1=>∃i,x=.int i/\Q (some i) H1
section
variable{X:Cx}{e:bz}{te:TE}{lo hi:Option bz}{tl th:TO}{pos p2:cS}
theorem alc:PO X none LO:=by intro pins s σ H Q I h;rw[evalPart_none];exact cJ {none,H,I,.none,h}
theorem ur(h:PE X e te):PO X (some e) (LV te):=by intro pins s σ H Q I hw;rw[evalPart_some];refine bj (h pins s σ H _ I hw) fun u s1 ⟨x,H1,I1,r1,q1⟩=>?_;obtain⟨i,rfl,q⟩:=q1;obtain⟨t,rfl⟩:=r1;exact{some i,H1,I1,.int i t,q}
def Nq(X:Cx)(r:V->Option Int->Option Int->Hp->VK->Prop):Prop:=∀(pins:List (U×ba)) (s:ax) (σ:St) (H:Hp) (x:V) (v vl vu:af) (lo hi:Option Int) (sl:U) (Q:VK),Inv X pins σ H s->RelV x v->s.heap.IsSliceOf sl vl vu .none->IsPart vl lo->IsPart vu hi->r x lo hi H Q->∃T id,typeLookup (.type T) "__getitem__"=pure (some (.builtin id))/\s.TypeIs v T/\aY (bp X.prog X.w) X.A (Ac v (.ref sl)) (EP X pins σ Q) X.xe s
def LZ(r:V->Option Int->Option Int->Hp->VK->Prop)(te:TE)(tl th:TO):TE:=fun σ H Q=>te σ H fun x H1=>tl σ H1 fun l H2=>th σ H2 fun u H3=>r x l u H3 Q
theorem CK{r:V->Option Int->Option Int->Hp->VK->Prop}(hr:Nq X r)(he:PE X e te)(hl:PO X lo tl)(hu:PO X hi th):PE X (.Subscript e (.Slice lo hi none p2) pos) (LZ r te tl th):=by intro pins s σ H Q I h;refine Y7 (bj (he pins s σ H _ I h) fun v s1 ⟨x,H1,I1,r1,q1⟩=>?_);refine wpAny_Slice (bj (hl pins s1 σ H1 _ I1 q1) fun vl s2 ⟨l,H2,I2,pl,q2⟩=>bj (hu pins s2 σ H2 _ I2 q2) fun vu s3 ⟨u,H3,I3,pu,q3⟩=>?_);rw[evalPart_none];refine cJ ?_;have I4:Inv X pins σ H3 {s3 with heap:=s3.heap.push {cls:=.type "slice",data:=.fields #[vl,vu,.none]}}:=I3.hU (t':=s3.toks) fun b ob q=>Heap.get?_push_of_some _ q;obtain⟨T,id,hT,ht,hg⟩:=hr pins {s3 with heap:=s3.heap.push {cls:=.type "slice",data:=.fields #[vl,vu,.none]}} σ H3 x v vl vu l u s3.heap.objs.size Q I4 r1 (Heap.IsSliceOf.new ..) pl pu q3;show aY (bp X.prog X.w) X.A (Y8 e (.Slice lo hi none p2) v (.ref s3.heap.objs.size)) (EP X pins σ Q) X.xe {s3 with heap:=s3.heap.push {cls:=.type "slice",data:=.fields #[vl,vu,.none]}};exact tail_any (ops:=[.ref s3.heap.objs.size,v]) ht hT hg (by with_unfolding_all rfl)
def mG(xs:List V)(lo hi:Option Int):List V:=(xs.drop (HT.jd xs.length 0 lo)).take (HT.jd xs.length xs.length hi-HT.jd xs.length 0 lo)
theorem abk(xs:List V)(lo hi:Option Int):(mG xs lo hi).length<=xs.length:=by unfold mG;rw[nc,zS];lia
end
end _L
namespace _L
noncomputable def rL(n:Nat)(i:Int):Option Nat:=if 0<=i then (if i<n then some i.toNat else none)else if-(n:Int)<=i then some (i+n).toNat else none
def iV{α:Type}(xs:List α)(i:Int):Option α:=(rL xs.length i).bind fun j=>xs[j]?
theorem ag6{n:Nat}{i:Int}{j:Nat}(h:rL n i=some j):seqIndex? i n=some j/\j<n/\ -(n:Int)<=i/\i<n:=by
 unfold rL at h;by_cases h0:0<=i
 .rw[az h0]at h;by_cases h1:i<n
  .rw[az h1]at h;have e:i.toNat=j:=nj h;exact{by rw[seqIndex_of h0 h1,e],by lia,by lia,h1}
  rw[ao h1]at h;cases h
 rw[ao h0]at h;by_cases h1: -(n:Int)<=i
 .rw[az h1]at h;have e:(i+n).toNat=j:=nj h;exact{by rw[seqIndex_neg (by lia) h1,e],by lia,h1,by lia}
 rw[ao h1]at h;cases h
theorem NI{α:Type}{xs:List α}{i:Int}{v:α}(h:iV xs i=some v):∃j,seqIndex? i xs.length=some j/\xs[j]?=some v/\j<xs.length/\ -(xs.length:Int)<=i/\i<xs.length:=by unfold iV at h;cases e:rL xs.length i with|none=>rw[e]at h;cases h|some j=>rw[e]at h;obtain⟨h1,h2,h3,h4⟩:=ag6 e;exact{(j),h1,h,h2,h3,h4}
theorem lO{α:Type}{xs:List α}{j:Nat}{v:α}(h:xs[j]?=some v):iV xs (j:Int)=some v:=by
 have hj:j<xs.length:=(fB.mp h).1;have e:rL xs.length (j:Int)=some j:=by unfold rL;rw[az (by lia),az (by lia)];simp
 unfold iV;rwa[e]
theorem vd{α:Type}(xs:List α)(v:α):iV (xs++[v]) (-1)=some v:=by
 have hl:(xs++[v]).length=xs.length+1:=by simp
 have e:rL (xs++[v]).length (-1)=some xs.length:=by unfold rL;rw[hl,ao (by decide),az (by lia)];congr 1;lia
 unfold iV;rw[e];show(xs++[v])[xs.length]?=some v;simp
def ZN(b:bz):Prop:=∀o i,subscripted b false o i=operate [o,i] (Ac o i)
def Ed(X:Cx)(r:R2):Prop:=∀(value qA:bz) (pins:List (U×ba)) (s:ax) (σ:St) (H:Hp) (x y:V) (v u:af) (Q:VK),Inv X pins σ H s->RelV x v->RelV y u->r x y H Q->subscripted qA false v u=operate [v,u] (Ac v u)->aY (bp X.prog X.w) X.A (Y8 value qA v u) (EP X pins σ Q) X.xe s
def Al(X:Cx)(id:String)(r:V->List V->Hp->VK->Prop):Prop:=∀(pins:List (U×ba)) (s:ax) (σ:St) (H:Hp) (x:V) (xs:List V) (v:af) (us:List af) (Q:VK),Inv X pins σ H s->RelV x v->bF xs us->r x xs H Q->aY (bp X.prog X.w) X.A (call (.builtin id) (v::us)) (EP X pins σ Q) X.xe s
section
variable{X:Cx}{a b:bz}{ta tb:TE}{pos:cS}
theorem dY{r:R2}(hr:Ed X r)(ha:PE X a ta)(hb:PE X b tb)(hs:ZN b):PE X (.Subscript a b pos) (pF r ta tb):=by intro pins s σ H Q I h;exact Y7 (Ez ha hb I h fun v u s2 x y H2 I2 rx ry q=>hr a b pins s2 σ H2 x y v u Q I2 rx ry q (hs _ _))
def alt(K:bn):R2:=fun x y H Q=>∃p xs i v,x=.ref p/\y=.int i/\aB K H p xs/\iV xs i=some v/\Q v H
def Tk:R2:=fun x y H Q=>∃z i c,x=.str z/\y=.int i/\z.length<=cp/\iV z.cps.toList i=some c/\Q (.str ⟨#[c]⟩) H
theorem eN:Ed X (alt X.K):=by
 intro value qA pins s σ H x y v u Q I rx ry h hs;obtain⟨p,xs,i,z,rfl,rfl,hq,he,q⟩:=h;cases rx;obtain⟨t,rfl⟩:=ry;obtain⟨its,r,pl,hz⟩:=I.list hq;obtain⟨j,h1,h2,h3,h4,h5⟩:=NI he;obtain⟨w,ew,mi⟩:=r.gN h2;have hl:=r.length;have hn:=BJ;have fin:EP X pins σ Q w s:={(z),H,I,mi,q};by_cases h0:0<=i
 .have hj:i.toNat=j:=by rw[seqIndex_of h0 h5]at h1;exact nj h1
  exact item_listR pl.isList h0 (by lia) (by rw[hj];simpa using ew) fin hs
 have hj:(i+(its.toArray.size:Int)).toNat=j:=by rw[seqIndex_neg (by lia) h4]at h1;rw[gW,←hl];exact nj h1
 exact subscriptTail_builtinR (x:=w) pl.isList.typeIs slot_list_getitem.lookup (wpAny_getItem_list_neg (Q:=fun r s'=>r=w/\EP X pins σ Q r s') pl.isList (by lia) (by rw[gW]<;>lia) (by lia) (by rw[hj];simpa using ew) {(rfl),fin}) hs
theorem QX:Ed X Tk:=by
 intro value qA pins s σ H x y v u Q I rx ry h hs;obtain⟨z,i,c,rfl,rfl,hz,he,q⟩:=h;obtain⟨t,rfl⟩:=rx;obtain⟨t',rfl⟩:=ry;obtain⟨j,h1,h2,h3,h4,h5⟩:=NI he;have hl:z.cps.toList.length=z.length:=by simp[Str.length]
 rw[hl]at h1 h4 h5;have hn:=BJ;exact tail_any (typeIs_str s z t) slot_str_getitem.lookup (getItem_str (c:=c) (by have e1:decide (i< -(2^63:Int))=false:=dM (by lia);have e2:decide (i≥2^63)=false:=dM (by lia);rw[e1,e2,zJ]) (by rw[h1];simpa using h2) {.str ⟨#[c]⟩,H,I.dZ _,{_,rfl},q}) hs
theorem amN(lo hi:Option Int)(n:Nat):(xw lo hi none n).1=((HT.jd n 0 lo:Nat):Int)/\(xw lo hi none n).2.1=((HT.jd n n hi:Nat):Int)/\(xw lo hi none n).2.2=1:=by
 refine{?_,?_,rfl}
 .cases lo with
  |none=>simp[xw,HT.jd]|some i=>
   simp?[xw,HT.jd,zX,show(1:Int)>0 by decide,du];by_cases h:i<0
   .simp only[h,du]<;>lia
   simp only[h,cT]<;>lia
 cases hi with
 |none=>simp[xw,HT.jd]|some i=>
  simp?[xw,HT.jd,zX,show(1:Int)>0 by decide,du];by_cases h:i<0
  .simp only[h,du]<;>lia
  simp only[h,cT]<;>lia
theorem amM(its:List af)(lo hi:Option Int):slicePick its.toArray lo hi none=((its.drop (HT.jd its.length 0 lo)).take (HT.jd its.length its.length hi-HT.jd its.length 0 lo)).toArray:=by obtain⟨h1,h2,h3⟩:=amN lo hi its.toArray.size;unfold slicePick;rw[h1,h2,h3];simp only[sliceRange_one,pick_run,gW]<;>rfl
def KR(K:bn):V->Option Int->Option Int->Hp->VK->Prop:=fun x lo hi H Q=>∃a xs,x=.ref a/\aB K H a xs/\∀p,H p=none->Q (.ref p) (ae H p (.ag (mG xs lo hi)))
theorem C5:Nq X (KR X.K):=by intro pins s σ H x v vl vu lo hi sl Q I rx hs pl pu h;obtain⟨a,xs,rfl,hx,q⟩:=h;cases rx;obtain⟨its,r,ht,hz⟩:=I.list hx;have hlen:=r.length;refine{"list",_,slot_list_getitem.lookup,ht.isList.typeIs,?_};refine wpAny_getItem_list_slice ht.isList hs pl pu .none (by simp) ?_ (by rw[gW]<;>lia);rw[amM,←hlen];refine{.ref s.heap.objs.size,_,I.j8 (t':=s.toks) (o:=.ag (mG xs lo hi)) (fun b ob q=>Heap.get?_push_of_some _ q) (bR _) ?_,rfl,q _ (I.aO.fresh (bR _))};exact{jk (abk xs lo hi) hz,_,0,(r.drop (HT.jd xs.length 0 lo)).take (HT.jd xs.length xs.length hi-HT.jd xs.length 0 lo),Heap.get?_push_size _ rfl}
def rj:V->Bool
 |.aN=>true|.bl _=>true
 |.int _=>true|.str _=>true
 |_=>false
noncomputable def oW:V->V->Bool
 |.aN,.aN=>true|.bl a,.bl b=>a==b
 |.bl a,.int b=>(if a then 1 else 0)==b|.int a,.bl b=>a==(if b then 1 else 0)
 |.int a,.int b=>a==b|.str a,.str b=>a==b
 |_,_=>false
theorem adJ{A:cO}{s:ax}{y x:V}{u v:af}(ry:RelV y u)(rx:RelV x v)(fy:rj y=true)(fx:rj x=true):SeqAt.EqAt A s u v (oW y x):=by
 cases y with
 |aN=>
  cases ry;cases x with
  |aN=>cases rx;exact SeqAt.EqAt.same _|bl b=>cases rx;exact SeqAt.EqAt.none_bool b
  |int b=>obtain⟨t,rfl⟩:=rx;exact SeqAt.EqAt.none_int b t|str b=>obtain⟨t,rfl⟩:=rx;exact SeqAt.EqAt.none_str b t
  |_=>exact aJ (show false=true from fx) fX
 |bl a=>
  cases ry;cases x with
  |aN=>cases rx;exact SeqAt.EqAt.bool_none a|bl b=>cases rx;exact SeqAt.EqAt.bool_bool a b
  |int b=>obtain⟨t,rfl⟩:=rx;exact SeqAt.EqAt.bool_int a b t|str b=>obtain⟨t,rfl⟩:=rx;exact SeqAt.EqAt.bool_str a b t
  |_=>exact aJ (show false=true from fx) fX
 |int a=>
  obtain⟨t',rfl⟩:=ry;cases x with
  |aN=>cases rx;exact SeqAt.EqAt.int_none a t'|bl b=>cases rx;exact SeqAt.EqAt.int_bool a t' b
  |int b=>obtain⟨t,rfl⟩:=rx;exact SeqAt.EqAt.int_int a t' b t|str b=>obtain⟨t,rfl⟩:=rx;exact SeqAt.EqAt.int_str a t' b t
  |_=>exact aJ (show false=true from fx) fX
 |str a=>
  obtain⟨t',rfl⟩:=ry;cases x with
  |aN=>cases rx;exact SeqAt.EqAt.str_none a t'|bl b=>cases rx;exact SeqAt.EqAt.str_bool a t' b
  |int b=>obtain⟨t,rfl⟩:=rx;exact SeqAt.EqAt.str_int a t' b t|str b=>obtain⟨t,rfl⟩:=rx;exact SeqAt.EqAt.str_str a t' b t
  |_=>exact aJ (show false=true from fx) fX
 |_=>exact aJ (show false=true from fy) fX
def p4(x:V)(u:af):Bool:=match u with
 |.none=>oW .aN x|.bool b=>oW (.bl b) x
 |.int i _=>oW (.int i) x|.str z _=>oW (.str z) x
 |_=>false
theorem OO{x y:V}{u:af}(r:RelV y u)(f:rj y=true):p4 x u=oW y x:=by
 cases y with
 |aN=>cases r;rfl|bl b=>cases r;rfl
 |int i=>obtain⟨t,rfl⟩:=r;rfl|str z=>obtain⟨t,rfl⟩:=r;rfl
 |_=>exact aJ (show false=true from f) fX
theorem Et{x:V}:∀{xs:List V} {us:List af},bF xs us->xs.all rj=true->us.any (p4 x)=xs.any fun y=>oW y x|_,_,.nil,_=>rfl|y::xs,u::us,.cons r t,f=>by rw[DE,jJ]at f;rw[pI,pI,OO r f.1,Et t f.2]
theorem Je{A:cO}{s:ax}{x:V}{v:af}(rx:RelV x v)(fx:rj x=true):∀{xs:List V} {us:List af},bF xs us->xs.all rj=true->∀u∈us,SeqAt.EqAt A s u v (p4 x u)
 |_,_,.nil,_=>fun u hu=>by cases hu|y::xs,u::us,.cons r t,f=>fun u' hu=>by
  rw[DE,jJ]at f;rcases bw.mp hu with rfl |hu
  .rw[OO r f.1];exact adJ r rx f.1 fx
  exact Je rx fx t f.2 u' hu
def qj(x:V)(xs:List V):Bool:=xs.any fun y=>oW y x
def rIn(K:bn)(neg:Bool):R2:=fun x y H Q=>∃p xs,y=.ref p/\(aB K H p xs∨eW K H p xs)/\rj x=true/\xs.all rj=true/\Q (.bl (if neg then !qj x xs else qj x xs)) H
theorem rZ:fR X (jo .In) (rIn X.K false):=by
 intro pins s σ H x y v u Q I rx ry h;obtain⟨p,xs,rfl,hq,fx,fs,q⟩:=h;cases ry;rcases hq with hq |hq
 .obtain⟨its,r,pl,hz⟩:=I.list hq;refine SeqAt.in_listAt (p4 x) pl.isList (fun w hw=>Je rx fx r fs w (by simpa using hw)) {.bl _,H,I,rfl,?_};rwa[show its.toArray.any (p4 x)=its.any (p4 x) by simp,Et r fs]
 obtain⟨its,r,pl,hz⟩:=I.tuple hq;refine SeqAt.in_tupleAt (p4 x) pl (fun w hw=>Je rx fx r fs w (by simpa using hw)) {.bl _,H,I,rfl,?_};rwa[show its.toArray.any (p4 x)=its.any (p4 x) by simp,Et r fs]
theorem dH:kQ X (.builtin "len") (fun xs H Q=>∃p ys,xs=[.ref p]/\(aB X.K H p ys∨eW X.K H p ys)/\Q (.int ys.length) H):=by
 intro pins s σ H xs us Q I r h;obtain⟨p,ys,rfl,hq,q⟩:=h;obtain⟨u,rfl,rx⟩:=vals1 r;cases rx;have hn:=BJ;rcases hq with hq |hq
 .obtain⟨its,r',pl,hz⟩:=I.list hq;have hlen:=r'.length;exact Calls.call_len_list pl.isList (by simp only[gW]<;>lia) {.int ys.length,H,I.dZ _,{s.toks+1,by rw[gW,hlen]},q}
 obtain⟨its,r',pl,hz⟩:=I.tuple hq;have hlen:=r'.length;exact len_tuple pl (by simp only[gW]<;>lia) {.int ys.length,H,I.dZ _,{s.toks+1,by rw[gW,hlen]},q}
theorem AB:kQ X (.builtin "len") (fun xs H Q=>∃z,xs=[.str z]/\z.length<=cp/\Q (.int z.length) H):=by intro pins s σ H xs us Q I r h;obtain⟨z,rfl,hz,q⟩:=h;obtain⟨u,rfl,t,rfl⟩:=vals1 r;have hn:=BJ;exact len_str (by lia) {.int z.length,H,I.dZ _,{_,rfl},q}
theorem aba:kQ X (.type "list") (fun xs H Q=>∃p ys,xs=[.ref p]/\(aB X.K H p ys∨eW X.K H p ys)/\∀l,H l=none->Q (.ref l) (ae H l (.ag ys))):=by
 intro pins s σ H xs us Q I r h;obtain⟨p,ys,rfl,hq,q⟩:=h;obtain⟨u,rfl,rx⟩:=vals1 r;cases rx
 have fin:∀(its:List af),bF ys its->ys.length<=cp->∀(h':bP) (c':Nat),(∀b o',s.heap.get? b=some o'->h'.get? b=some o')->
   h'.get? s.heap.objs.size=some {cls:=.type "list",dict:=none,data:=.seq its.toArray c',slots:=#[]}->EP X pins σ Q (.ref s.heap.objs.size) {s with heap:=h'}:=fun its r' hz h' c' kp e=>
  {.ref s.heap.objs.size,_,I.j8 (t':=s.toks) kp (bR _) (show eV X.prog X.w _ h' _ (.ag ys)from{(hz),its,c',r',e}),rfl,q _ (I.aO.fresh (bR _))}
 rcases hq with hq |hq
 .obtain⟨its,r',pl,hz⟩:=I.list hq;have hlen:=r'.length;obtain⟨o,ho,hc,n,hd⟩:=pl.isList;exact call_list_seq p (.inl rfl) ho hc hd (fun h' c' kp e=>fin its r' hz h' c' kp e) (by simp only[gW]<;>lia)
 obtain⟨its,r',pl,hz⟩:=I.tuple hq;have hlen:=r'.length;obtain⟨o,ho,hc,n,hd⟩:=pl;exact call_list_seq p (.inr rfl) ho hc hd (fun h' c' kp e=>fin its r' hz h' c' kp e) (by simp only[gW]<;>lia)
def wW(K:bn)(T:String)(x:V)(H:Hp):Prop:=match x with
 |.str _=>T="str"|.int _=>T="int"
 |.ref p=>(T="list"/\∃xs,aB K H p xs)∨(T="tuple"/\∃o,K.lookup p=some o/\o.cls=.type "tuple"/\o.dict=none)∨(T="dict"/\((∃kvs,H p=some (.dK kvs))∨∃kvs,H p=some (.dT kvs)))∨(T="set"/\∃S n,H p=some (.set S n))|_=>False
theorem Yi{pins:List (U×ba)}{σ:St}{H:Hp}{s:ax}{T:String}{x:V}{v:af}(I:Inv X pins σ H s)(r:RelV x v)(ty:wW X.K T x H):
  s.TypeIs v T/\∀a,v=.ref a->∃ob,s.heap.get? a=some ob/\ob.dict=none:=by
 cases x with
 |str z=>obtain⟨t,rfl⟩:=r;cases(show T="str"from ty);exact{typeIs_str s z t,fun _ e=>nomatch e}|int i=>obtain⟨t,rfl⟩:=r;cases(show T="int"from ty);exact{typeIs_int s i t,fun _ e=>nomatch e}
 |ref p=>
  cases r;rcases ty with⟨rfl,xs,hq⟩ |⟨rfl,o,hk,hc,hd⟩ |⟨rfl,hk⟩ |⟨rfl,S,n,hk⟩
  .obtain⟨its,_,pl,_⟩:=I.list hq;refine{pl.isList.typeIs,fun a e=>?_};cases e;obtain⟨o,n,e,c,hd,_⟩:=pl;exact{(o),e,hd}
  .refine{{o,I.eO p o hk,hc},fun a e=>?_};cases e;exact{o,I.eO _ o hk,hd}
  .have z:∃o,s.heap.get? p=some o/\o.ExactDict:=by
    rcases hk with⟨kvs,hk⟩ |⟨kvs,hk⟩
    .obtain⟨_,_,_,_,o,_,_,e,ex,_⟩:=I.aO p _ hk;exact{(o),e,ex}
    obtain⟨_,_,_,_,o,_,_,e,ex,_⟩:=I.aO p _ hk;exact{(o),e,ex}
   obtain⟨o,e,ex⟩:=z;refine{{(o),e,ex.1},fun a e2=>?_};cases e2;exact{(o),e,ex.2.1}
  obtain⟨o,_,_,_,e,ex,_⟩:=I.aO p _ hk;refine{{(o),e,ex.1},fun a e2=>?_};cases e2;exact{(o),e,ex.2.1}
 |_=>exact jK ty
def LJ(K:bn)(T:String)(r:V->List V->Hp->VK->Prop)(to:TE):TE:=fun σ H Q=>to σ H fun x H1=>wW K T x H1/\r x [] H1 Q
def wO(K:bn)(T:String)(r:V->List V->Hp->VK->Prop)(to:TE)(t:TA):TE:=fun σ H Q=>to σ H fun x H1=>wW K T x H1/\t σ H1 fun xs H2=>r x xs H2 Q
variable{o e:bz}{es:List bz}{to:TE}{t:TA}{name:ac}{apos cpos:cS}{T id:String}{r:V->List V->Hp->VK->Prop}
theorem zc(pa:PlainAttrs T)(slot:Slot T name id)(hty:typeOf (.builtin id)=pure (.type "method_descriptor"))(hm:Al X id r)(ho:PE X o to)
  (hbase:autoParam (xr o name X.env (cB o X.env)=cB o X.env) _L.aR)(hline:autoParam ((apos.endLine==cpos.line)=true) _L.aR):PE X (.Call (.Attribute o name apos) [] [] cpos) (LJ X.K T r to):=by
 intro pins s σ H Q I h;refine wpAny_Call_method0_late hbase hline (bj (ho pins s σ H _ I h) fun v s1 ⟨x,H1,I1,r1,ty,q1⟩=>?_);obtain⟨h1,h2⟩:=Yi I1 r1 ty;exact{T,id,pa,slot,hty,h1,h2,Calls.callWith_builtin rfl (apw (hm pins s1 σ H1 x [] v [] Q I1 r1 .nil q1))}
theorem fb(pa:PlainAttrs T)(slot:Slot T name id)(hty:typeOf (.builtin id)=pure (.type "method_descriptor"))(hm:Al X id r)(ho:PE X o to)(ha:PA X (e::es) t)
  (hbase:autoParam (xr o name X.env (cB o X.env)=cB o X.env) _L.aR)
  (hfew:((ig cpos (cX (e::es) X.env)).all (fun x=>!x.1)&&(xt cpos (xu [] X.env)).all (fun x=>x.1.isSome)
   &&decide ((e::es).length+([]:List xq).length+(if ([]:List xq).isEmpty then 0 else 1)<30))=true:=by rfl)
  (hline:autoParam ((apos.endLine==cpos.line)=true) _L.aR)(hs:autoParam (cX (e::es) X.env=(false,cB e X.env)::cX es X.env) _L.aR)(hplain:autoParam ((ig cpos (cX es X.env)).any (·.1)=false) _L.aR):
  PE X (.Call (.Attribute o name apos) (e::es) [] cpos) (wO X.K T r to t):=by
 intro pins s σ H Q I h;refine wpAny_Call_method_late hbase hfew hline rfl (bj (ho pins s σ H _ I h) fun v s1 ⟨x,H1,I1,r1,ty,q1⟩=>?_);obtain⟨h1,h2⟩:=Yi I1 r1 ty;refine{T,id,pa,slot,hty,h1,h2,?_};have hA:=ha cpos pins s1 σ H1 _ I1 q1;rw[hs]at hA⊢;refine Calls.callWith_builtin (by show(false ||(ig cpos (cX es X.env)).any (·.1))=false;rw[hplain]<;>rfl) (Calls.evalArgs_plain ?_);exact bj hA fun us s2 ⟨vs,H2,I2,r2,q2⟩=>hm pins s2 σ H2 x vs v us Q I2 r1 r2 q2
end
end _L
namespace _L
def Eg(X:Cx)(id:String)(r:V->List V->Hp->VK->Prop):Prop:=∀(pins:List (U×ba)) (s:ax) (σ:St) (H:Hp) (x:V) (xs:List V) (v:af) (us:List af) (Q:VK),Inv X pins σ H s->RelV x v->bF xs us->r x xs H Q->aY (bp X.prog X.w) X.A (call (.builtin id) (v::us)) (EP X pins σ Q) X.xe s
theorem bF.ko:∀{x:V} {us:List af},bF [x] us->∃u,us=[u]/\RelV x u|_,_,.cons r .nil=>{_,rfl,r}
theorem bF.zero:∀{us:List af},bF [] us->us=[]|_,.nil=>rfl
theorem bF.dropLast{xs:List V}{us:List af}(h:bF xs us):bF xs.dropLast us.dropLast:=by induction h with|nil=>exact .nil|cons r t ih=>cases t with|nil=>exact .nil|cons q t'=>exact .cons r ih
theorem adL{α:Type}(l:List α):l.eraseIdx (l.length-1)=l.dropLast:=by
 induction l with
 |nil=>rfl|cons a r ih=>
  cases r with
  |nil=>rfl|cons b r=>
   have e:(a::b::r).length-1=((b::r).length-1)+1:=by have h1:(a::b::r).length=r.length+2:=rfl;have h2:(b::r).length=r.length+1:=rfl;lia
   rw[e,List.eraseIdx_cons_succ,ih];all_goals rfl
section
variable{X:Cx}{pins:List (U×ba)}{σ:St}{H:Hp}{s:ax}{l b:U}{xs ys zs:List V}
theorem Inv.IQ{its its':List af}{n:Nat}{f:Array af->Array af}{t':Nat}(I:Inv X pins σ H s)(hH:H l=some (.ag xs))
  (e:s.heap.get? l=some {cls:=.type "list",data:=.seq its.toArray n})(hf:f its.toArray=its'.toArray)(hv:bF ys its')(hz:ys.length<=cp):
  Inv X pins σ (ae H l (.ag ys)) {s with heap:=s.heap.update l (Obj.mapSeq f),toks:=t'}:=by
 have q:=PySem.IsL.update e f;rw[hf]at q;refine I.write (x:=l) (e:=l) (by rw[hH];exact trivial) (.inl rfl) (fun b' u hb hu=>(Heap.get?_update_other s.heap (Obj.mapSeq f) (pJ hb)).trans hu) {_,q} ?_;exact{hz,its',_,hv,q}
theorem Inv.ahz{its:List af}{t':Nat}(I:Inv X pins σ H s)(hv:bF ys its)(hz:ys.length<=cp):
  Inv X pins σ (ae H s.heap.objs.size (.ag ys)) {s with heap:=s.heap.push {cls:=.type "list",data:=.seq its.toArray},toks:=t'}:=
 I.j8 (fun _ _ q=>Heap.get?_push_of_some _ q) (bR _) {hz,its,0,hv,Heap.get?_push_size _ rfl}
theorem Inv.fresh(I:Inv X pins σ H s):H s.heap.objs.size=none:=I.aO.fresh (bR _)
theorem Inv.wg(I:Inv X pins σ H s)(hH:H l=some (.ag xs)):xs.length<=cp/\∃(its:List af) (n:Nat),bF xs its/\xs.length=its.length/\s.heap.get? l=some {cls:=.type "list",data:=.seq its.toArray n}:=by obtain⟨z,its,n,r,e⟩:=I.aO l _ hH;exact{(z),its,n,r,r.length,e}
theorem ajv{n:Nat}(h:n<=cp):Builtin.List.listTooLong n=false:=by unfold Builtin.List.listTooLong;exact dM (by lia)
end
section
variable{X:Cx}
def wE:V->List V->Hp->VK->Prop:=fun x vs H Q=>∃l xs y,x=.ref l/\vs=[y]/\H l=some (.ag xs)/\xs.length<cp/\Q .aN (ae H l (.ag (xs++[y])))
theorem h9:Eg X "list.append" wE:=by intro pins s σ H x vs v us Q I rx rv h;obtain⟨l,xs,y,rfl,rfl,hH,hz,q⟩:=h;cases rx;obtain⟨u,rfl,ru⟩:=rv.ko;obtain⟨z,its,n,r,hl,e⟩:=I.wg hH;refine Zk F.slot_list_append {_,e,rfl} F.entry_list_append (F.args_list_append_2 _ _) (PySem.list_append l its.toArray n u (by rw[gW];lia)) {e,?_};refine{.aN,_,I.IQ (its':=its++[u]) hH e (by simp) (r.append (.cons ru .nil)) ?_,rfl,q};rw[cw,xj];lia
def Tj:V->List V->Hp->VK->Prop:=fun x vs H Q=>∃l b xs zs,x=.ref l/\vs=[.ref b]/\H l=some (.ag xs)/\H b=some (.ag zs)/\xs.length+zs.length<=cp/\Q .aN (ae H l (.ag (xs++zs)))
theorem rS:Eg X "list.extend" Tj:=by
 intro pins s σ H x vs v us Q I rx rv h;obtain⟨l,b,xs,zs,rfl,rfl,hH,hB,hz,q⟩:=h;cases rx;obtain⟨u,rfl,ru⟩:=rv.ko;cases ru;obtain⟨z,its,n,r,hl,e⟩:=I.wg hH;obtain⟨z2,tX,n2,r2,iK,e2⟩:=I.wg hB;have hsz:its.toArray.size+tX.toArray.size<=cp:=by rw[gW,gW];lia
 have af1:¬(!its.toArray.isEmpty&&Builtin.List.listTooLong (its.toArray.size+tX.toArray.size))=true:=by rw[ajv hsz,zG];exact fX
 refine Zk F.slot_list_extend {_,e,rfl} F.entry_list_extend (F.args_list_extend_2 _ _) (AutoSeq1.list_extend_list_list_0 l its.toArray n b tX.toArray n2 af1 (by rw[gW];lia) (by lia)) {e,e2,?_};refine{.aN,_,I.IQ (its':=its++tX) hH e (by simp) (r.append r2) ?_,rfl,q};rw[cw];lia
def alu:V->List V->Hp->VK->Prop:=fun x vs H Q=>∃l xs y,x=.ref l/\vs=[]/\H l=some (.ag xs)/\xs[xs.length-1]?=some y/\Q y (ae H l (.ag xs.dropLast))
theorem yJ:Eg X "list.pop" alu:=by
 intro pins s σ H x vs v us Q I rx rv h;obtain⟨l,xs,y,rfl,rfl,hH,hy,q⟩:=h;cases rx;have hus:=rv.zero;subst hus;obtain⟨z,its,n,r,hl,e⟩:=I.wg hH;obtain⟨u,hu,ru⟩:=r.gN hy;have hy':its.toArray[its.toArray.size-1]?=some u:=by show its.toArray[its.length-1]?=some u;rwa[←Array.getElem?_toList,←hl]
 refine Zk F.slot_list_pop {_,e,rfl} F.entry_list_pop (F.args_list_pop_1 _) (MeetsSeq.list_pop_last l its.toArray n u hy' (by rw[gW];lia)) {e,?_};refine{y,_,I.IQ (its':=its.dropLast) hH e ?_ r.dropLast ?_,ru,q}
 .show its.toArray.eraseIdxIfInBounds (its.toArray.size-1)=its.dropLast.toArray;rw[gW,List.eraseIdxIfInBounds_toArray,adL]
 rw[List.length_dropLast];lia
def alq:R2:=fun x y H Q=>∃l b xs zs,x=.ref l/\y=.ref b/\H l=some (.ag xs)/\H b=some (.ag zs)/\xs.length+zs.length<=cp/\∀p,H p=none->Q (.ref p) (ae H p (.ag (xs++zs)))
theorem akK:fR X (z9 .Add) alq:=by
 intro pins s σ H x y v u Q I rx ry h;obtain⟨l,b,xs,zs,rfl,rfl,hH,hB,hz,q⟩:=h;cases rx;cases ry;obtain⟨z,its,n,r,hl,e⟩:=I.wg hH;obtain⟨z2,tX,n2,r2,iK,e2⟩:=I.wg hB;refine PySem.P.add_list e e2 ?_ (by rw[gW,gW];lia);have ea:its.toArray++tX.toArray=(its++tX).toArray:=by simp
 rw[ea];exact{.ref _,_,I.ahz (t':=s.toks) (r.append r2) (by rw[cw];lia),rfl,q _ I.fresh}
end
section
variable{prog:cA}{w:ck}{A:cO}{E:af->ax->Prop}{s:ax}
end
section
variable{X:Cx}
end
end _L
namespace _L
theorem bF.ints:∀{ns:List Int} {us:List af},bF (ns.map V.int) us->IntsAre us ns|[],us,h=>by rw[lF]at h;cases h;exact IntsAre.nil|n::ns,us,h=>by rw[cI]at h;cases h with|cons r t=>obtain⟨k,rfl⟩:=r;exact IntsAre.cons n k (bF.ints t)
theorem Yn:∀{us:List af} {ns:List Int},IntsAre us ns->bF (ns.map V.int) us|_,_,.nil=>by rw[lF];exact Paired.nil|_,_,.cons n t h=>by rw[cI];exact Paired.cons (show RelV (V.int n) (Value.int n t)from{(t),rfl}) (Yn h)
theorem bF.strs:∀{xs:List ac} {us:List af},bF (xs.map V.str) us->StrsAre us xs|[],us,h=>by rw[lF]at h;cases h;exact StrsAre.nil|x::xs,us,h=>by rw[cI]at h;cases h with|cons r t=>obtain⟨k,rfl⟩:=r;exact StrsAre.cons x k (bF.strs t)
theorem bF.NW:∀{bs:List Bool} {us:List af},bF (bs.map V.bl) us->us=bs.map Value.bool|[],us,h=>by rw[lF]at h;cases h;rfl|b::bs,us,h=>by rw[cI]at h;cases h with|cons r t=>cases r;rw[bF.NW t,cI]
theorem bF.CU{a:U}{us:List af}(r:bF [V.ref a] us):us=[Value.ref a]:=by cases r with|cons r t=>cases t;cases r;rfl
section
variable{prog:cA}{w:ck}{A:cO}{E:af->ax->Prop}{s:ax}{l:U}{its:List af}{ns:List Int}{Q:af->ax->Prop}
end
section
variable{X:Cx}
end
theorem ag5{prog:cA}{w:ck}{A:cO}{E:af->ax->Prop}{s:ax}{l:U}{QV:Array af}{Q:af->ax->Prop}(hl:s.heap.IsList l QV)
  (h:∀s₂:ax,s₂={s with heap:=s.heap.push {cls:=.type "list_iterator",data:=.fields #[.ref l,.int 0 0]}}->s₂.heap.IsListIter s.heap.objs.size l 0/\s₂.heap.IsList l QV->l≠s.heap.objs.size->Q (.ref s.heap.objs.size) s₂):aY (bp prog w) A (Af (.ref l)) Q E s:=by
 have bX:l<s.heap.objs.size:=by obtain⟨_,e,_⟩:=hl;exact Heap.lt_size e
 exact Zv hl (h _ rfl {{_,Heap.get?_push_size _ rfl,rfl,rfl},hl.push _} (jl bX))
theorem ann{prog:cA}{w:ck}{A:cO}{bs:List Bool}{its:List af}(e:its=bs.map Value.bool):
  TruthOf prog w A (fun i v=>its.toArray[i]?=some v) (fun i=>bs.getD i false):=fun i v s Q E hv hq=>by
 have hv':its[i]?=some v:=by simpa using hv
 rw[e,dQ]at hv';obtain⟨b,hb,rfl⟩:=ao8.mp hv';have hg:bs.getD i false=b:=by rw[List.getD_eq_getElem?_getD,hb]<;>rfl
 have rK:Q (bs.getD i false) s:=hq;rw[hg]at rK;exact qK rK
theorem any_range:∀bs:List Bool,(xl bs.length).any (fun i=>bs.getD i false)=bs.any id|[]=>rfl|b::bs=>by rw[bJ,List.range_succ_eq_map,pI,qF,pI,←any_range bs];all_goals rfl
section
variable{X:Cx}
def alp(K:bn):List V->Hp->VK->Prop:=fun vs H Q=>∃(a:U) (bs:List Bool),vs=[V.ref a]/\aB K H a (bs.map V.bl)/\Q (.bl (bs.any id)) H
theorem vk(hc:X.calm=true):kQ X (.builtin "any") (alp X.K):=by
 intro pins s σ H vs us Q I r h;obtain⟨a,bs,rfl,hs,q⟩:=h;obtain⟨its,rv,hl,_⟩:=I.list hs;rw[bF.CU r];have hb:=rv.NW;refine call_any_walk (ag5 hl.isList fun s₂ e2 st hne=>?_);subst e2;refine{_,_,_,_,_,_,_,rfl,Walks.list (A:=X.A.in1) (I.ok.hd hc) _ a hne its.toArray,st,ann hb,fun h' tk hk=>?_};refine{.bl _,H,I.hU fun b o eo=>hk b o (fun hmem=>?_) (Heap.get?_push_of_some _ eo),?_,q}
 .rcases bw.mp hmem with e1 |hmem
  .exact aJ (e1▸Heap.lt_size eo) (qH _)
  cases hmem
 show Value.bool _=Value.bool _;rw[←any_range,hb,gW,bL]
end
mutual
inductive Dp(K:bn)(H:Hp):V->sD->Prop|aN:Dp K H .aN .none|bl (b:Bool):Dp K H (.bl b) (.bool b)|int (i:Int):Dp K H (.int i) (.int i)|str (x:ac):Dp K H (.str x) (.str x)|ag {a:U} {xs:List V} {ds:List sD}:aB K H a xs->sO K H xs ds->Dp K H (.ref a) (.list ds)|cH {a:U} {xs:List V} {ds:List sD}:eW K H a xs->sO K H xs ds->Dp K H (.ref a) (.tuple ds)
inductive sO(K:bn)(H:Hp):List V->List sD->Prop|nil:sO K H [] []|cons {v:V} {vs:List V} {d:sD} {ds:List sD}:Dp K H v d->sO K H vs ds->sO K H (v::vs) (d::ds)
end
section
variable{X:Cx}{pins:List (U×ba)}{σ:St}{H:Hp}{s:ax}
mutual
theorem Dp.wI(I:Inv X pins σ H s):∀(d:sD) (v:V) (u:af),Dp X.K H v d->RelV v u->∃as,Reads s.heap u d as
 |.none,_,_,h,r=>by cases h;cases r;exact{_,Reads.none}|.bool b,_,_,h,r=>by cases h;cases r;exact{_,Reads.bool b}
 |.int i,_,_,h,r=>by cases h;obtain⟨t,rfl⟩:=r;exact{_,Reads.int i t}|.str x,_,_,h,r=>by cases h;obtain⟨t,rfl⟩:=r;exact{_,Reads.str x t}
 |.list ds,_,_,h,r=>by cases h with|ag hs ha=>cases r;obtain⟨its,rv,⟨o,n,ho,hc,_,hd⟩,_⟩:=I.list hs;obtain⟨as,hr⟩:=Dp.ut I ds _ its ha rv;exact{_,Reads.list ho hc hd hr}
 |.tuple ds,_,_,h,r=>by cases h with|cH hs ha=>cases r;obtain⟨its,rv,⟨o,ho,hc,n,hd⟩,_⟩:=I.tuple hs;obtain⟨as,hr⟩:=Dp.ut I ds _ its ha rv;exact{_,Reads.tuple ho hc hd hr}
 |.dict _,_,_,h,_=>by cases h
theorem Dp.ut(I:Inv X pins σ H s):∀(ds:List sD) (vs:List V) (us:List af),sO X.K H vs ds->bF vs us->∃as,ReadsAll s.heap us ds as|[],_,_,h,r=>by cases h;cases r;exact{_,ReadsAll.nil}|d::ds,_,_,h,r=>by cases h with|cons h1 h2=>cases r with|cons r1 r2=>obtain⟨as,q1⟩:=Dp.wI I d _ _ h1 r1;obtain⟨bs,q2⟩:=Dp.ut I ds _ _ h2 r2;exact{_,ReadsAll.cons q1 q2}
end
end
section
variable{X:Cx}
def als(K:bn):R2:=fun x y H Q=>∃d e,Dp K H x d/\Dp K H y e/\SeqAt.shaped d=true/\SeqAt.shaped e=true/\Q (.bl (PyData.eqv d e)) H
theorem akL(hu:X.A.units+64<lG):fR X (jo .Eq) (als X.K):=by intro pins s σ H x y v u Q I rx ry h;obtain⟨d,e,hd,he,sd,se,q⟩:=h;obtain⟨as,r1⟩:=Dp.wI I d x v hd rx;obtain⟨bs,r2⟩:=Dp.wI I e y u he ry;exact SeqAt.compareEq_shaped r1 r2 sd se hu {.bl _,H,I,rfl,q}
end
end _L
namespace _L
abbrev Ng(h:bP)(c:U)(v:Option af):Prop:=h.IsCell c v
noncomputable def alF(scope sc:fZ):fZ:={scope with names:=scope.names.map fun(n,k)=>if (k==.free&&sc.kind==.function&&sc.names.lookup n==some .cell)then (n,.cell)else (n,k)}
noncomputable def gK(cells:List (ac×U)):List (ac×kK)->List (ac×U)->List (ac×U)|[],acc=>acc|(n,k)::r,acc=>if k==.free then gK cells r ((n,(cells.lookup n).getD 0)::acc)else gK cells r acc
theorem N4(env:fC)(f:ac×kK->List (ac×U)->jn (ForInStep (List (ac×U))))
  (hf:∀n k c,f (n,k) c=if k==.free then (do let a←cellOf env n;pure (.yield ((n,a)::c)))else pure (.yield c)):
  ∀(names:List (ac×kK)) (acc:List (ac×U)),(∀y∈names,y.2=.free->∃c,env.cells.lookup y.1=some c)->forIn names acc f=pure (gK env.cells names acc)
 |[],acc,_=>by rw[aoR];rfl|(n,k)::r,acc,h=>by
  rw[List.forIn_cons,hf];have ih:=fun acc=>N4 env f hf r acc fun y hy=>h y (dq _ hy);unfold gK;by_cases hk:(k==NameKind.free)=true
  .rw[az hk,az hk];obtain⟨c,hc⟩:=h (n,k) eS (by simpa using hk);have e:cellOf env n=pure c:=by unfold cellOf;rw[hc]
   rw[e];have e2:(env.cells.lookup n).getD 0=c:=by rw[hc];rfl
   rw[e2];exact ih _
  rw[ao hk,ao hk];exact ih _
theorem abd{scope:fZ}{env:fC}(h:∀y∈scope.names,y.2=.free->∃c,env.cells.lookup y.1=some c):closureFor scope env=pure (gK env.cells scope.names []):=by simp?[closureFor];rw[N4 env _ (fun n k c=>rfl) scope.names [] h];rfl
theorem mem_lookup{α:Type}:∀{l:List (ac×α)} {n:ac} {c:α},(n,c)∈l->∃c',l.lookup n=some c'
 |(k,v)::r,n,c,h=>by
  rw[xk];cases hb:n==k with
  |true=>exact{_,rfl}|false=>
   rcases bw.mp h with e |h
   .cases e;simp at hb
   exact mem_lookup h
theorem AE{cells:List (ac×U)}:∀{names:List (ac×kK)} {acc:List (ac×U)} {n:ac} {c:U},(n,c)∈gK cells names acc->(n,c)∈acc∨((n,.free)∈names/\c=(cells.lookup n).getD 0)
 |[],_,_,_,h=>.inl h|(m,k)::r,acc,n,c,h=>by
  unfold gK at h;split at h
  .rename_i hk;have hk:k=.free:=by simpa using hk
   rcases AE h with h |⟨h1,h2⟩
   .rcases bw.mp h with e |h
    .cases e;exact .inr {hk▸eS,rfl}
    exact .inl h
   exact .inr {dq _ h1,h2}
  rcases AE h with h |⟨h1,h2⟩
  .exact .inl h
  exact .inr {dq _ h1,h2}
theorem EH{cells:List (ac×U)}:∀{names:List (ac×kK)} {acc:List (ac×U)} {p:ac×U},p∈acc->p∈gK cells names acc
 |[],_,_,h=>h|(m,k)::r,acc,p,h=>by
  unfold gK;split
  .exact EH (dq _ h)
  exact EH h
theorem EI{cells:List (ac×U)}:∀{names:List (ac×kK)} {acc:List (ac×U)} {n:ac},(n,.free)∈names->(n,(cells.lookup n).getD 0)∈gK cells names acc
 |(m,k)::r,acc,n,h=>by
  unfold gK;rcases bw.mp h with e |h
  .cases e;exact EH eS
  split
  .exact EI h
  exact EI h
theorem xK:∀{names:List (ac×kK)} {h:bP} {acc:List (ac×U)} {x:ac} {c:U},(x,c)∈ij h.objs.size names acc->
  (x,c)∈acc∨((x,.cell)∈names/\h.objs.size<=c/\Ng (uW h names) c none)
 |[],_,_,_,_,h=>.inl h|(n,k)::r,h,acc,x,c,hm=>by
  unfold ij at hm;unfold uW;split at hm
  .rename_i hk;rw[az hk];have hk:k=.cell:=by simpa using hk
   rw[←Heap.size_push h {cls:=.type "cell",data:=.cell none}]at hm;rcases xK hm with hm |⟨h1,h2,h3⟩
   .rcases bw.mp hm with e |hm
    .cases e;exact .inr {hk▸eS,bR _,_,MY r _ _ _ (Heap.get?_push_size _ rfl),rfl}
    exact .inl hm
   rw[Heap.size_push]at h2;exact .inr {dq _ h1,MC h2,h3}
  rename_i hk;rw[ao hk];rcases xK hm with hm |⟨h1,h2,h3⟩
  .exact .inl hm
  exact .inr {dq _ h1,h2,h3}
theorem AC:∀{names:List (ac×kK)} {n:Nat} {acc:List (ac×U)} {p:ac×U},p∈acc->p∈ij n names acc
 |[],_,_,_,h=>h|(m,k)::r,n,acc,p,h=>by
  unfold ij;split
  .exact AC (dq _ h)
  exact AC h
theorem EB:∀{names:List (ac×kK)} {n:Nat} {acc:List (ac×U)} {x:ac},(x,.cell)∈names->∃c,(x,c)∈ij n names acc
 |(m,k)::r,n,acc,x,h=>by
  unfold ij;rcases bw.mp h with e |h
  .cases e;exact{n,AC eS}
  split
  .exact EB h
  exact EB h
theorem EC:∀{names:List (ac×kK)} {h:bP} {acc:List (ac×U)} {x y:ac} {c:U},(∀p∈acc,p.2<h.objs.size)->(∀x y c,(x,c)∈acc->(y,c)∈acc->x=y)->
  (x,c)∈ij h.objs.size names acc->(y,c)∈ij h.objs.size names acc->x=y
 |[],_,_,_,_,_,_,hi,h1,h2=>hi _ _ _ h1 h2|(n,k)::r,h,acc,x,y,c,hl,hi,h1,h2=>by
  unfold ij at h1 h2;split at h1
  .rename_i hk;rw[az hk]at h2;rw[←Heap.size_push h {cls:=.type "cell",data:=.cell none}]at h1 h2;refine EC (h:=h.push _) (fun p hp=>?_) (fun x y c a b=>?_) h1 h2
   .rw[Heap.size_push];rcases bw.mp hp with rfl |hp
    .exact gF _
    exact MD (hl p hp)
   rcases bw.mp a with e |a<;>rcases bw.mp b with e' |b
   .cases e;cases e';rfl
   .cases e;exact aJ (hl _ b) (qH _)
   .cases e';exact aJ (hl _ a) (qH _)
   exact hi _ _ _ a b
  rename_i hk;rw[ao hk]at h2;exact EC hl hi h1 h2
theorem aji{M:z7}{A:cO}{E:af->ax->Prop}{s:ax}{scope:fZ}{globals:U}{closure:List (ac×U)}{qual:ac}{func:Option U}{code:af}{NH:fC}{builtins:U}{Q:fC->ax->Prop}
  (h:Q (newEnv scope s.heap.objs.size globals (ij (s.heap.objs.size+1) scope.names closure) qual func code (some NH) builtins)
   {s with heap:=uW (s.heap.push {cls:=.type "dict",data:=.dict #[]}) scope.names}):
  aY M A (apy scope globals closure [] qual func code (some NH) builtins) Q E s:=by
 simp?[apy,DL,du];refine bN (wpAny_alloc ?_);refine bN (wpAny_layCells _ (fun n k c=>rfl) scope.names closure _ _ ?_);rw[show({s with heap:=s.heap.push {cls:=.type "dict",data:=.dict #[]}}:ax).heap.objs.size=s.heap.objs.size+1 from Heap.size_push ..];rw[aoR];exact bN (cJ (cJ h))
theorem IM{sc:fZ}:∀{names:List (ac×kK)} {x:ac} {k:kK},
  (names.map fun(n,k)=>if (k==NameKind.free&&sc.kind==.function&&sc.names.lookup n==some .cell)then (n,NameKind.cell)else (n,k)).lookup x=some k->
  ∃k',names.lookup x=some k'/\(k=k'∨(k'=.free/\k=.cell))
 |[],_,_,h=>by simp at h|(n,k₀)::r,x,k,h=>by
  have ih:=@IM sc r x k;have h':sA x ((if (k₀==NameKind.free&&sc.kind==.function&&sc.names.lookup n==some .cell)=true then (n,NameKind.cell)else (n,k₀))::(r.map _))=some k:=h;cases hx:x==n with
  |true=>
   simp?[xk,hx];by_cases hc:(k₀==NameKind.free&&sc.kind==.function&&sc.names.lookup n==some .cell)=true
   .rw[az hc]at h';simp?[xk,hx]at h';cases h';simp?[jJ,beq_iff_eq]at hc;exact{k₀,rfl,.inr {(hc.1.1),rfl}}
   rw[ao hc]at h';simp?[xk,hx]at h';cases h';exact{_,rfl,.inl rfl}
  |false=>
   simp?[xk,hx];by_cases hc:(k₀==NameKind.free&&sc.kind==.function&&sc.names.lookup n==some .cell)=true
   .rw[az hc]at h';simp?[xk,hx]at h';exact ih h'
   rw[ao hc]at h';simp?[xk,hx]at h';exact ih h'
structure xA(N:List ac)(sc scope:fZ)(own:List (ac×Nat)):Prop where
 kind:scope.kind=.function
 Mb:∀y∈scope.names,scope.names.lookup y.1=some y.2
 ix:∀p∈own,N[p.2]?=some p.1
 free:∀y∈scope.names,y.2=.free->sc.names.lookup y.1=some .cell∨sc.names.lookup y.1=some .free
 own:∀y∈scope.names,y.2=.local∨y.2=.cell->y.1∈own.map (·.1)∨y.1 ∉ N
noncomputable def cu(σ:St):List Nat->St|[]=>σ|v::vs=>(cu σ vs).set v none
theorem Mg(σ:St):∀vs:List Nat,(cu σ vs).length=σ.length|[]=>rfl|v::vs=>by unfold cu;rw[List.length_set,Mg σ vs]
theorem Mh{σ:St}{i:Nat}{x:V}:∀{vs:List Nat},(cu σ vs)[i]?=some (some x)->σ[i]?=some (some x)/\i ∉ vs
 |[],h=>{h,by simp}|v::vs,h=>by
  unfold cu at h;by_cases hi:v=i
  .subst hi;by_cases hv:v<(cu σ vs).length
   .rw[YO hv]at h;cases h
   rw[YL (by simpa using hv)]at h;cases h
  rw[YN hi]at h;obtain⟨h1,h2⟩:=Mh h;exact{h1,by simp?[bw,not_or];exact{fun e=>hi e.symm,h2}}
noncomputable abbrev Cx.aU(X:Cx)(s:ax)(H:Hp)(scope:fZ)(cenv:fC)(fp:List U):Cx:={X with gy:=s,sQ:=H,env:=cenv,outer:=X.stack,ex:=fp,fn:=fun x=>scope.names.lookup x==some .cell,pn:=[],xe:=fun _ _=>False}
section
variable{X:Cx}{pins:List (U×ba)}{σ:St}{H:Hp}{s:ax}
theorem aa0{scope:fZ}{own:List (ac×Nat)}{fp:List U}(I:Inv X pins σ H s)(ok:xA X.N X.env.scope scope own)(hN:X.N.Nodup)(hfp:∀b∈fp,oF X pins H b/\b<s.heap.objs.size):
  Inv (X.aU s H scope (nz scope (ij (s.heap.objs.size+1) scope.names (gK X.env.cells scope.names [])) s.heap.objs.size X.env) fp) [] (cu σ (own.map (·.2))) H {s with heap:=uW (s.heap.push {cls:=.type "dict",data:=.dict #[]}) scope.names}:=by
 have rG:∀y∈scope.names,y.2=.free->∃c,X.env.cells.lookup y.1=some c:=fun y hy e=>by
  rcases ok.free y hy e with k |k
  .exact I.ok.has _ (.inl k)
  exact I.ok.has _ (.inr k)
 generalize yj:nz scope (ij (s.heap.objs.size+1) scope.names (gK X.env.cells scope.names [])) s.heap.objs.size X.env=cenv;have kp:∀b o,s.heap.get? b=some o->(uW (s.heap.push {cls:=.type "dict",data:=.dict #[]}) scope.names).get? b=some o:=fun b o e=>MY _ _ _ _ (Heap.get?_push_of_some _ e);have hL:cenv.locals=s.heap.objs.size:=by rw[←yj];rfl
 have mO:cenv.cells=ij (s.heap.objs.size+1) scope.names (gK X.env.cells scope.names []):=by rw[←yj];rfl
 have HZ:cenv.scope=alF scope X.env.scope:=by rw[←yj];rfl
 rw[←Heap.size_push s.heap {cls:=.type "dict",data:=.dict #[]}]at mO;have cm:∀{y c},(y,c)∈gK X.env.cells scope.names []->X.env.cells.lookup y=some c/\c<s.heap.objs.size:=fun{y c} hm=>by
  rcases AE hm with hm |⟨h1,rfl⟩
  .cases hm
  obtain⟨c,hc⟩:=rG _ h1 rfl;rw[hc];obtain⟨w,z⟩:=I.cell _ _ hc;exact{(rfl),z.lt}
 have mem:∀{y c},cenv.cells.lookup y=some c->(X.env.cells.lookup y=some c/\c<s.heap.objs.size)∨(s.heap.objs.size+1<=c/\Ng (uW (s.heap.push {cls:=.type "dict",data:=.dict #[]}) scope.names) c none):=fun{y c} e=>by
  rw[mO]at e;rcases xK (lH e)with hm |⟨_,h2,h3⟩
  .exact .inl (cm hm)
  rw[Heap.size_push]at h2;exact .inr {(h2),h3}
 have t9:∀{y},scope.names.lookup y=some .free->∃c,cenv.cells.lookup y=some c/\X.env.cells.lookup y=some c:=fun{y} hl=>by
  have hy:(y,NameKind.free)∈scope.names:=lH hl;obtain⟨c',e'⟩:=mem_lookup (AC (names:=scope.names) (n:=(s.heap.push {cls:=.type "dict",data:=.dict #[]}).objs.size) (EI (cells:=X.env.cells) (acc:=[]) hy));rw[←mO]at e';refine{c',e',?_};rw[mO]at e';rcases xK (lH e')with hm |⟨h1,_,_⟩
  .exact(cm hm).1
  have:=ok.Mb _ h1;rw[hl]at this;cases this
 have okB:(X.aU s H scope cenv fp).Ok:=by
  refine{I.ok.ir,by show cenv.scope.kind=_;rw[HZ];exact ok.kind,by show cenv.globals=_;rw[←yj];exact I.ok.p8,by show cenv.builtins=_;rw[←yj];exact I.ok.vf,by show s.heap.objs.size<=cenv.locals;rw[hL];exact bR _,fun y z c e1 e2=>?_,fun y hy=>?_,fun y c z e=>?_,I.ok.hd,I.ok.frames,.inl rfl,fun b hb=>{?_,fun y c e z=>?_},I.bs,jk I.ok.pX I.sz,fun b o e hb=>?_,fun b hb z=>?_,I.stack,I.XE}
  .have e1:cenv.cells.lookup y=some c:=e1;have e2:cenv.cells.lookup z=some c:=e2;rw[mO]at e1 e2;refine EC (fun p hp=>?_) (fun y z c a b=>I.ok.inj y z c (cm a).1 (cm b).1) (lH e1) (lH e2);rw[Heap.size_push];exact MD (cm (y:=p.1) (c:=p.2) hp).2
  .show∃c,cenv.cells.lookup y=some c;have key:∀k,cenv.kindOf y=some k->(k=.cell∨k=.free)->∃c,cenv.cells.lookup y=some c:=fun k hk yq=>by
    unfold Env.kindOf at hk;rw[HZ]at hk;obtain⟨k',e,r⟩:=IM hk;have:k'=.cell∨k'=.free:=by
     rcases r with rfl |⟨rfl,_⟩
     .exact yq
     exact .inr rfl
    rcases this with rfl |rfl
    .obtain⟨c,hm⟩:=EB (n:=(s.heap.push {cls:=.type "dict",data:=.dict #[]}).objs.size) (acc:=gK X.env.cells scope.names []) (lH e);obtain⟨c',e'⟩:=mem_lookup hm;exact{c',by rw[mO];exact e'}
    obtain⟨c,h1,_⟩:=t9 e;exact{(c),h1}
   rcases hy with hy |hy
   .exact key _ hy (.inl rfl)
   exact key _ hy (.inr rfl)
  .have z:(scope.names.lookup y==some NameKind.cell)=true:=z;have z:scope.names.lookup y=some .cell:=by simpa using z
   have e:cenv.cells.lookup y=some c:=e;rw[mO]at e;rcases xK (lH e)with hm |⟨_,h2,_⟩
   .rcases AE hm with hm |⟨h1,_⟩
    .cases hm
    have q:=ok.Mb _ h1;rw[z]at q;cases q
   rw[Heap.size_push]at h2;exact MC h2
  .show b≠cenv.locals;rw[hL];exact jl (hfp b hb).2
  .have e:cenv.cells.lookup y=some c:=e;rcases mem e with⟨h1,_⟩ |⟨h1,_⟩
   .exact(hfp b hb).1.2.2.2.2.1 y c h1 z
   have h2:s.heap.objs.size+1<=b:=by rwa[←z]
   exact aJ (iQ (hfp b hb).2 (MC h2)) (qH _)
  .rcases(hfp b hb).1.2.2.2.1 with z |z
   .exact I.ok.yV b o e z
   exact aJ (iQ (Heap.lt_size e) (jk I.ok.pX z)) (qH _)
  rcases bw.mp (I.LH b z)with z |z
  .exact(hfp b hb).1.2.1 z
  exact(hfp b hb).1.2.2.1 z
 refine{okB,rfl,I.gZ,Un.hU kp,{fun _=>none,?_,fun i y av e1 e2 e3=>?_},fun y c e=>?_,?_,fun y c e=>?_,fun p hp=>?_,I.aO.hU kp,by rw[Mg];exact I.bu}
 .show Heap.Ns _ cenv.locals _;rw[hL];exact Heap.Ns.keeps (Heap.Ns.new ..) fun b o e=>MY _ _ _ _ e
 .obtain⟨e2,hne⟩:=Mh e2;have vQ:scope.names.lookup y=some .free/\(cenv.kindOf y=some .cell∨cenv.kindOf y=some .free):=by
   have key:∀k,cenv.scope.names.lookup y=some k->k=.local∨k=.cell∨k=.free->scope.names.lookup y=some .free/\(cenv.kindOf y=some .cell∨cenv.kindOf y=some .free):=fun k hk yq=>by
    have Bn:=hk;rw[HZ]at hk;obtain⟨k',e,r⟩:=IM hk;have no:¬(k'=.local∨k'=.cell):=fun hh=>by
     rcases ok.own _ (lH e) hh with e' |e'
     .obtain⟨p,hp,hpy⟩:=bt.mp e';have e3:=ok.ix p hp;have:p.1=y:=hpy;rw[this]at e3;exact hne (bt.mpr {p,hp,Js hN e3 e1})
     exact e' (fh e1)
    rcases r with rfl |⟨rfl,rfl⟩
    .rcases yq with rfl |rfl |rfl
     .exact aJ (.inl rfl) no
     .exact aJ (.inr rfl) no
     exact{e,.inr Bn}
    exact{e,.inl Bn}
   have e3:sW cenv.scope y:=e3;rcases e3 with e3 |e3 |e3
   .exact key _ e3 (.inl rfl)
   .exact key _ e3 (.inr (.inl rfl))
   exact key _ e3 (.inr (.inr rfl))
  obtain⟨m,hn,hl⟩:=I.jb;have agq:sW X.env.scope y:=(ok.free _ (lH vQ.1) rfl).elim (fun k=>.inr (.inl k)) (fun k=>.inr (.inr k));obtain⟨w,r,q⟩:=hl i y av e1 e2 agq;refine{w,r,.inr {vQ.2,?_}};obtain⟨c,h1,h2⟩:=t9 vQ.1;rcases q with⟨k,_⟩ |⟨_,c',e',z⟩
  .have k:X.env.scope.names.lookup y=some .local:=k;rcases ok.free _ (lH vQ.1) rfl with k' |k'<;>rw[show X.env.scope.names.lookup y=_ from k']at k<;>cases k
  rw[h2]at e';cases e';exact{c,h1,z.keeps kp}
 .have e:cenv.cells.lookup y=some c:=e;rcases mem e with⟨h1,_⟩ |⟨_,z⟩
  .obtain⟨w,z⟩:=I.cell y c h1;exact{w,z.keeps kp}
  exact{_,z}
 .show H cenv.locals=none;rw[hL];exact I.aO.fresh (bR _)
 .have e:cenv.cells.lookup y=some c:=e;rcases mem e with⟨h1,_⟩ |⟨h1,_⟩
  .exact I.lU y c h1
  exact I.aO.fresh (MC h1)
 exact aJ (show p∈([]:List (U×ba))++[]from hp) (by simp)
theorem Au{E:af->ax->Prop}{D:U}{xs:List V}{y:V}{v:af}{Q:af->ax->Prop}(I:Inv X pins σ H s)(hD:H D=some (.ag xs))(hz:xs.length<cp)(r:RelV y v)
  (h:∀s',Inv X pins σ (ae H D (.ag (xs++[y]))) s'->Q .none s'):aY (bp X.prog X.w) X.A (call (.builtin "list.append") [.ref D,v]) Q E s:=by
 obtain⟨Ik,its,n,ri,e⟩:=I.aO D _ hD;have hl:=ri.length;refine append_at (hsz:=by rw[gW];lia) e fun h' sb ho'=>?_;refine h {s with heap:=h'} (I.write (t':=s.toks) (by rw[hD];trivial) (.inl rfl) (fun b u hb q=>(sb.2 b hb).trans q) {_,ho'} {by rw[cw];exact hz,its++[v],n+1,ri.append (.cons r .nil),?_});rw[ho'];simp
def xE(X:Cx)(ifs:List bz)(t:TT):Prop:=∀(pins:List (U×ba)) (s:ax) (σ:St) (H:Hp) (Q:Bool->Hp->Prop),Inv X pins σ H s->t σ H Q->aY (bp X.prog X.w) X.A (forIn ifs true fun c r=>if r=true then do let ok←DZ c X.env (cB c X.env);pure (Mq ok)else pure (Mq r)) (TP X pins σ Q) X.xe s
def je:TT:=fun _ H Q=>Q true H
theorem qy:xE X [] je:=fun _ _ _ H _ I h=>wpAny_tests_nil {(H),I,h}
theorem alj{c:bz}{t:TT}(h:PT X c t):xE X [c] t:=fun pins s σ H Q I hw=>wpAny_tests_one (h pins s σ H Q I hw)
end
theorem wV{α:Type}{t:jn α}{Q Q':α->ax->Prop}{M:z7}{A:cO}{E:af->ax->Prop}{s:ax}(h:aY M A t Q (fun _ _=>False) s)(hQ:∀a s,Q a s->Q' a s):aY M A t Q' E s:=nA h hQ fun _ _ z=>jK z
theorem abf{prog:cA}{w:ck}{A:cO}{R:DT->ax->Prop}{s:ax}{hC target fH:bz}{ifs:List bz}{scope:fZ}{pos:cS}{it acc:af}{env:fC}(I:Nat->ax->Prop)
  (turn:∀n s,I n s->aY (bp prog w) A (sJ it) (fun r s₁=>match r with
   |none=>R (.ok .next) s₁
   |some v=>aY (bp prog w) A (MX target it v) (fun _ s₁'=>aY (bp prog w) A (assign target env v) (fun _ s₂=>
     aY (bp prog w) A (forIn ifs true fun c r=>if r=true then do let ok←DZ c env (cB c env);pure (Mq ok)else pure (Mq r)) (fun ok s₃=>
      if ok=true then aY (bp prog w) A (cB hC env) (fun x s₄=>aY (bp prog w) A (call (.builtin "list.append") [acc,x]) (fun _ s₅=>∃m,m<n/\I m s₅) (Ae (bp prog w) A env fun e s'=>R (.error e) s') s₄) (Ae (bp prog w) A env fun e s'=>R (.error e) s') s₃
      else∃m,m<n/\I m s₃) (Ae (bp prog w) A env fun e s'=>R (.error e) s') s₂) (Ae (bp prog w) A env fun e s'=>R (.error e) s') s₁') (Ae (bp prog w) A env fun e s'=>R (.error e) s') s₁) (Ae (bp prog w) A env fun e s'=>R (.error e) s') s)
  (n:Nat)(h:I n s):
  sI (bp prog w) A (.compLoop (.ListComp hC [{target,fH,ifs,0}] scope pos) 0 it acc env) R s:=by
 refine codeAny_loop rfl I (fun n s hI=>?_) n h;show aY _ A ((compTurn (.ListComp hC [{target,fH,ifs,0}] scope pos) 0 it acc env).onRaise (fun x=>do noteFrame x env;theTreesLotGoes x)) _ _ s;refine wpAny_noted ?_;rw[compTurn_list];refine bN (wpAny_standAt (bN (nA (turn n s hI) (fun r s₁ h₁=>?_) fun _ _ h'=>h')));cases r with|none=>exact cJ h₁|some v=>refine bN (nA h₁ (fun _ s₁' h₁'=>?_) fun _ _ h'=>h');refine bN (nA h₁' (fun _ s₂ h₂=>bN (nA h₂ (fun ok s₃ h₃=>?_) fun _ _ h'=>h')) fun _ _ h'=>h');cases ok with|false=>exact cJ {(rfl),h₃}|true=>exact bN (bN (nA h₃ (fun x s₄ h₄=>bN (nA h₄ (fun _ s₅ h₅=>cJ (cJ {(rfl),h₅})) fun _ _ h'=>h')) fun _ _ h'=>h'))
section
variable{X:Cx}
def zu(wi:TI)(g:TG)(tt:TT)(te:TE)(vs:List Nat):TE:=fun σ H Q=>wi σ H fun J H1=>∀D,H1 D=none->∃W:Nat->Nat->Hp->Prop,(∃m,W 0 m (ae H1 D (.ag [])))/\∀i m H,W i m H->(J.cF i H/\Q (.ref D) H)∨(J.go i H/\∃Nx:Hp->Prop,(∀H',Nx H'->∃m',m'<m/\W (i+1) m' H')/\∀x H',J.lC i H x H'->g x (cu σ vs) H' fun σ2 H2=>cu σ2 vs=cu σ vs/\tt σ2 H2 fun b H3=>if b=true then te σ2 H3 fun y H4=>∃acc,H4 D=some (.ag acc)/\acc.length<cp/\Nx (ae H4 D (.ag (acc++[y])))else Nx H3)
theorem Q6{pins:List (U×ba)}{s:ax}{σ:St}{H:Hp}{Q:VK}{hC tg fH:bz}{ifs:List bz}{scope:fZ}{own:List (ac×Nat)}{pos jC:cS}{wi:TI}{g:TG}{tt:TT}{te:TE}{use:Option (af->jn Unit)}{Qf:af->ax->Prop}
  (hc:X.calm=true)(hN:X.N.Nodup)(I:Inv X pins σ H s)(hi:PI X tg fH wi)(ok:xA X.N X.env.scope scope own)
  (hg:∀(s:ax) (H:Hp) (C:U) (cl:List (ac×U)) (fp:List U),PG (X.aU s H scope (nz scope cl C X.env) fp) tg g)(ht:∀(s:ax) (H:Hp) (C:U) (cl:List (ac×U)) (fp:List U),xE (X.aU s H scope (nz scope cl C X.env) fp) ifs tt)
  (he:∀(s:ax) (H:Hp) (C:U) (cl:List (ac×U)) (fp:List U),PE (X.aU s H scope (nz scope cl C X.env) fp) hC te)(hs:∀x,MV fH X.env x=pure x)
  (h:zu wi g tt te (own.map (·.2)) σ H Q)
  (hRR:∀D C s' m H',Inv X pins σ H' s'->Q (.ref D) H'->s'.heap.Ns C m->oF X pins H' C->Zm (bp X.prog X.w) X.A X.xe use Qf (.ref D) C (.ok .next) s'):
  aY (bp X.prog X.w) X.A (comprehension (.ListComp hC [{tg,fH,ifs,0}] scope pos) scope X.env jC (newList []) false (cB fH X.env) use) Qf X.xe s:=by
 have rG:∀y∈scope.names,y.2=.free->∃c,X.env.cells.lookup y.1=some c:=fun y hy e=>by
  rcases ok.free y hy e with k |k
  .exact I.ok.has _ (.inl k)
  exact I.ok.has _ (.inr k)
 refine wpAny_comprehension_free (use:=use) rfl hs (abd rG) ok.kind (fun y hy e=>by rw[ok.Mb y hy,e])
  (bj (hi pins s σ H _ I h) fun xv s1 hx=>bj hx fun itv s2 h2=>?_)
 obtain⟨it,fp,tn,J,H2,e,I2,T,Db,f2,q⟩:=h2;subst e;refine Nc (aji ?_) (by show 0<=cp;decide);generalize hD:s2.heap.objs.size=D;have hDn:H2 D=none:=I2.aO.fresh (MB hD);obtain⟨W,⟨m0,w0⟩,turn⟩:=q D hDn;generalize yw:({s2 with heap:=s2.heap.push {cls:=.type "list",data:=.seq ([]:List af).toArray}}:ax)=s3;have I3:Inv X pins σ (ae H2 D (.ag [])) s3:=by rw[←yw];refine I2.j8 (t':=s2.toks) (fun b o e=>Heap.get?_push_of_some _ e) (MB hD) {dE _,[],0,.nil,?_};rw[←hD];exact Heap.get?_push_size _ rfl
 have h3:s3.heap=s2.heap.push {cls:=.type "list",data:=.seq ([]:List af).toArray}:=by rw[←yw]
 have sz:∀b∈fp,b<s2.heap.objs.size:=fun b hb=>by obtain⟨o,e,_⟩:=T.obj _ _ Db b hb;exact Heap.lt_size e
 have f3:∀b∈fp,oF X pins (ae H2 D (.ag [])) b/\b<s3.heap.objs.size:=fun b hb=>by have bX:=sz b hb;refine{{?_,(f2 b hb).2},by rw[h3,Heap.size_push];exact MD bX};rw[aj (by rw[←hD];exact jl bX)];exact(f2 b hb).1
 have Dc:tn 0 s3.heap:=T.keep _ _ _ Db fun b _ o e=>by rw[h3];exact Heap.get?_push_of_some _ e
 have I4:=aa0 I3 ok hN f3;have pg:=hg s3 (ae H2 D (.ag [])) s3.heap.objs.size (ij (s3.heap.objs.size+1) scope.names (gK X.env.cells scope.names [])) fp;have pt:=ht s3 (ae H2 D (.ag [])) s3.heap.objs.size (ij (s3.heap.objs.size+1) scope.names (gK X.env.cells scope.names [])) fp;have pe:=he s3 (ae H2 D (.ag [])) s3.heap.objs.size (ij (s3.heap.objs.size+1) scope.names (gK X.env.cells scope.names [])) fp;show sI _ _ (.compStart (.ListComp hC [{tg,fH,ifs,0}] scope pos) 0 (.ref it) (.ref D) (nz scope (ij (s3.heap.objs.size+1) scope.names (gK X.env.cells scope.names [])) s3.heap.objs.size X.env)) (Zm (bp X.prog X.w) X.A X.xe use Qf (.ref D) s3.heap.objs.size) {s3 with heap:=uW (s3.heap.push {cls:=.type "dict",data:=.dict #[]}) scope.names};have RS:∀b∈fp,(ae H2 D (.ag [])) b=none:=fun b hb=>(f3 b hb).1.1;generalize hce:nz scope (ij (s3.heap.objs.size+1) scope.names (gK X.env.cells scope.names [])) s3.heap.objs.size X.env=ce at I4 pg pt pe⊢;have cL:ce.locals=s3.heap.objs.size:=by subst hce;rfl
 generalize nX:ae H2 D (.ag [])=H3 at I3 I4 pg pt pe w0 RS f3;generalize hs4:({s3 with heap:=uW (s3.heap.push {cls:=.type "dict",data:=.dict #[]}) scope.names}:ax)=s4 at I4⊢;have XB:tn 0 s4.heap:=T.keep _ _ _ Dc fun b _ o e=>by rw[←hs4];exact MY _ _ _ _ (Heap.get?_push_of_some _ e)
 have stat:∀{σ':St} {H':Hp} {s':ax},Inv (X.aU s3 H3 scope ce fp) [] σ' H' s'->(∀b∈fp,H' b=none)->∀b∈fp,oF (X.aU s3 H3 scope ce fp) [] H' b:=fun{σ' H' s'} I' hn b hb=>{hn b hb,(I'.ok.AW b hb).1,I'.ok.x0 b hb,.inl hb,fun x c e=>(I'.ok.AW b hb).2 x c e,fun p hp=>aJ (show p∈([]:List (U×ba))++[]from hp) (by simp)};have k8:sI (bp X.prog X.w) X.A (.compLoop (.ListComp hC [{tg,fH,ifs,0}] scope pos) 0 (.ref it) (.ref D) ce) (Zm (bp X.prog X.w) X.A X.xe use Qf (.ref D) s3.heap.objs.size) s4:=by
  refine abf (fun n s'=>∃i H',Inv (X.aU s3 H3 scope ce fp) [] (cu σ (own.map (·.2))) H' s'/\tn i s'.heap/\(∀b∈fp,H' b=none)/\W i n H') ?_ m0 {0,H3,I4,XB,RS,w0};rintro n s5 ⟨i,H5,I5,wL,n5,w5⟩;rcases turn i n H5 w5 with⟨cF,qq⟩ |⟨go,Nx,hNx,step⟩
  .have td:=T.done (X.aU s3 H3 scope ce fp) rfl rfl rfl hc i [] s5 _ H5 (fun _ _=>False) I5 (stat I5 n5) wL cF;refine wV td fun r s6 ⟨hr,I6⟩=>?_;subst hr;have I7:Inv X pins σ H5 s6:=I3.aa9 (ch:=fp) I6.os I6.base I6.aO I6.gZ fun b hb=>{(f3 b hb).1.2.2.2.1,(f3 b hb).1.2.1,(f3 b hb).1.2.2.2.2.1,(f3 b hb).1.2.2.2.2.2};have nC:H5 s3.heap.objs.size=none:=by have z:H5 ce.locals=none:=I6.free;rwa[cL]at z
   obtain⟨m,hn,_⟩:=I6.jb;have hn:s6.heap.Ns ce.locals m:=hn;rw[cL]at hn;exact hRR D s3.heap.objs.size s6 m H5 I7 qq hn (I3.A4 (bR _) nC)
  have ti:=T.item (X.aU s3 H3 scope ce fp) rfl rfl rfl hc i [] s5 _ H5 (fun _ _=>False) I5 (stat I5 n5) wL go;refine wV ti fun r s6 ⟨u,hr,h6⟩=>?_;subst hr;refine wV h6 fun _ s7 ⟨x,H7,I7,r7,y7,LF,n7⟩=>?_;have ZG:=I7.Ta (stat I7 n7) (T.obj _ _ LF);refine wV (pg _ s7 _ H7 x u _ ZG r7 (step x H7 y7)) fun _ s8 ⟨σ8,H8,I8,Qx,q8⟩=>?_;refine wV (pt _ s8 σ8 H8 _ I8 q8) fun b s9 ⟨H9,I9,q9⟩=>?_;have fin:∀{s':ax} {H':Hp},Inv (X.aU s3 H3 scope ce fp) ([]++zd fp s7.heap) σ8 H' s'->Nx H'->∃m,m<n/\∃i H',Inv (X.aU s3 H3 scope ce fp) [] (cu σ (own.map (·.2))) H' s'/\tn i s'.heap/\(∀b∈fp,H' b=none)/\W i m H':=fun{s' H'} I' nx=>by
   obtain⟨m',hm,w'⟩:=hNx H' nx;have pin':∀b∈fp,∀o,s7.heap.get? b=some o->s'.heap.get? b=some o/\H' b=none:=fun b hb o e=>
    let z:=I'.lg (b,o) (mo _ (mo _ (Jf hb e)))
    {(z.1),z.2.1}
   have hl:(cu σ (own.map (·.2))).length=σ8.length:=by rw[←Qx,Mg]
   refine{m',hm,i+1,H',(I'.Du (pins:=[])).anE hl (fun j v e=>?_),T.keep _ _ _ LF fun b hb o e=>(pin' b hb o e).1,fun b hb=>?_,w'}
   .rw[←Qx]at e;exact(Mh e).1
   obtain⟨o,e,_⟩:=T.obj _ _ LF b hb;exact(pin' b hb o e).2
  cases b with|false=>simp?[eE,cT]at q9⊢;exact fin I9 q9|true=>simp?[du]at q9⊢;refine wV (pe _ s9 σ8 H9 _ I9 q9) fun z s10 ⟨yv,H10,ZD,r10,acc,aff,agr,nx⟩=>?_;exact Au (X:=X.aU s3 H3 scope ce fp) ZD aff agr r10 fun s11 ZE=>fin ZE nx
 exact codeAny_compStart_list k8 (T.self X.A 0 _ _ _ XB k8)
theorem qx{hC tg fH:bz}{ifs:List bz}{scope:fZ}{own:List (ac×Nat)}{pos:cS}{wi:TI}{g:TG}{tt:TT}{te:TE}(hc:X.calm=true)(hN:X.N.Nodup)(hi:PI X tg fH wi)(ok:xA X.N X.env.scope scope own)
  (hg:∀(s:ax) (H:Hp) (C:U) (cl:List (ac×U)) (fp:List U),PG (X.aU s H scope (nz scope cl C X.env) fp) tg g)(ht:∀(s:ax) (H:Hp) (C:U) (cl:List (ac×U)) (fp:List U),xE (X.aU s H scope (nz scope cl C X.env) fp) ifs tt)
  (he:∀(s:ax) (H:Hp) (C:U) (cl:List (ac×U)) (fp:List U),PE (X.aU s H scope (nz scope cl C X.env) fp) hC te)(hs:autoParam (∀x,MV fH X.env x=pure x) _L.aI):
  PE X (.ListComp hC [{tg,fH,ifs,0}] scope pos) (zu wi g tt te (own.map (·.2))):=by
 intro pins s σ H Q I h;rw[eval_ListComp];refine Q6 hc hN I hi ok hg ht he hs h fun D C s' m H' I' q hn f=>{m,hn,fun h'' sb=>?_};obtain⟨f0,f1,f2,f3,f4,f5⟩:=f;exact{.ref D,H',I'.jg (t':=s'.toks) (fun b o hb e=>(sb.2 b hb).trans e) f0 f1 f3 f4 f5,rfl,q}
theorem alh{i:Nat}{y:ac}{py:cS}{hC tg fH:bz}{ifs:List bz}{scope:fZ}{own:List (ac×Nat)}{pos Xz:cS}{wi:TI}{g:TG}{tt:TT}{te:TE}(hc:X.calm=true)(hN:X.N.Nodup)(hy:X.N[i]?=some y)(hyl:X.env.scope.names.lookup y=some .local)
  (hsw:xx (.ListComp hC [{tg,fH,ifs,0}] scope pos) (some (.Name y py)) Xz.line X.env=pure true)(hi:PI X tg fH wi)(ok:xA X.N X.env.scope scope own)
  (hg:∀(s:ax) (H:Hp) (C:U) (cl:List (ac×U)) (fp:List U),PG (X.aU s H scope (nz scope cl C X.env) fp) tg g)(ht:∀(s:ax) (H:Hp) (C:U) (cl:List (ac×U)) (fp:List U),xE (X.aU s H scope (nz scope cl C X.env) fp) ifs tt)
  (he:∀(s:ax) (H:Hp) (C:U) (cl:List (ac×U)) (fp:List U),PE (X.aU s H scope (nz scope cl C X.env) fp) hC te)(hs:autoParam (∀x,MV fH X.env x=pure x) _L.aI):
  PS X (.Assign [.Name y py] (.ListComp hC [{tg,fH,ifs,0}] scope pos) Xz) (Df (zu wi g tt te (own.map (·.2))) (rC i)):=by
 intro pins s σ H D I h;rw[exec_Assign_Name_used _ _ _ _ hsw];refine bN (wpAny_standAt (bN ?_));show aY _ X.A (do let _←comprehension (.ListComp hC [⟨tg,fH,ifs,0⟩] scope pos) scope X.env (firstIterPos [⟨tg,fH,ifs,0⟩] pos) (newList []) false (cB fH X.env) (some (assign (.Name y py) X.env))) _ _ s;have h:zu wi g tt te (own.map (·.2)) σ H (fun x H1=>rC i x σ H1 D.nx):=h;refine bN (bj (Q6 (Qf:=fun _ s'=>_S X pins D .next s') hc hN I hi ok hg ht he hs h fun L C s' m H' I' q hn f=>?_) fun _ s' hq=>cJ (cJ hq));show aY _ _ (assign (.Name y py) X.env (.ref L)) _ _ _;refine apB (XH (v:=V.ref L) I' hN hy (.inl hyl) rfl (fun s2 I2 ⟨a,sb,ha⟩=>?_) (.inr hyl));obtain⟨f0,f1,f2,f3,f4,f5⟩:=f;have haC:C≠a:=by
  rcases ha with z |z
  .rwa[z]
  exact fun e=>f4 y a z e.symm
 refine{m,hn.sameBut sb haC,fun h3 sb3=>?_};exact{_,H',I2.jg (t':=s2.toks) (fun b o hb e=>(sb3.2 b hb).trans e) f0 f1 f3 f4 f5,q}
theorem am1{hC:bz}{gs:List Comprehension}{scope:fZ}{pos py:cS}{y:ac}{l:Nat}{env:fC}(hk:env.scope.kind=.function)(hy:env.scope.names.lookup y=some .local)(hl:(py.line==pos.line)=true)
  (ha:(scope.names.any fun(n,k)=>n==y&&(k==.local ||k==.cell))=false):xx (.ListComp hC gs scope pos) (some (.Name y py)) l env=pure true:=by
 have ky:env.kindOf y=some .local:=hy;have hb:env.blockKind=.function:=by unfold Env.blockKind;rw[hk];rfl
 unfold xx;simp?[hb,ky,ha,show(Expr.ListComp hC gs scope pos).pos=pos from rfl,show(Expr.Name y py).pos=py from rfl,hl];rfl
end
theorem Q8{K:bn}{a:U}{xs:List V}{g:TG}{tt:TT}{te:TE}{vs:List Nat}{σ:St}{H1:Hp}{D:U}{Qd:Hp->Prop}(Pv:Nat->Hp->Prop)(h0:Pv 0 (ae H1 D (.ag [])))(hl:∀i H,i<=xs.length->Pv i H->aB K H a xs)
  (hs:∀i x H,xs[i]?=some x->Pv i H->g x (cu σ vs) H fun σ2 H2=>cu σ2 vs=cu σ vs/\tt σ2 H2 fun b H3=>if b=true then te σ2 H3 fun y H4=>∃acc,H4 D=some (.ag acc)/\acc.length<cp/\Pv (i+1) (ae H4 D (.ag (acc++[y])))else Pv (i+1) H3)(hd:∀H,Pv xs.length H->Qd H):
  ∃W:Nat->Nat->Hp->Prop,(∃m,W 0 m (ae H1 D (.ag [])))/\∀i m H,W i m H->((nE K a).cF i H/\Qd H)∨((nE K a).go i H/\∃Nx:Hp->Prop,(∀H',Nx H'->∃m',m'<m/\W (i+1) m' H')/\∀x H',(nE K a).lC i H x H'->g x (cu σ vs) H' fun σ2 H2=>cu σ2 vs=cu σ vs/\tt σ2 H2 fun b H3=>if b=true then te σ2 H3 fun y H4=>∃acc,H4 D=some (.ag acc)/\acc.length<cp/\Nx (ae H4 D (.ag (acc++[y])))else Nx H3):=by
 refine{fun i m H=>m=xs.length-i/\i<=xs.length/\Pv i H,{xs.length,by simp,dE _,h0},?_};rintro i m H ⟨rfl,hi,p⟩;have q:=hl i H hi p;by_cases bX:i<xs.length
 .refine .inr {{xs,xs[i],q,by simp[bX]},Pv (i+1),fun H' p'=>{xs.length-(i+1),by lia,rfl,bX,p'},fun x H' y=>?_};obtain⟨e,y⟩:=y;subst e;exact hs i x _ (y xs q) p
 have e:i=xs.length:=by lia
 subst e;exact .inl {{xs,q,bR _},hd H p}
theorem aht{K:bn}{a:U}{xs:List V}{g:TG}{tt:TT}{te:TE}{vs:List Nat}{σ:St}{H1:Hp}{D:U}{Qd:Hp->Prop}(Pv:Nat->Hp->Prop)(h0:Pv 0 (ae H1 D (.ag [])))(hl:∀i H,i<=xs.length->Pv i H->eW K H a xs)
  (hs:∀i x H,xs[i]?=some x->Pv i H->g x (cu σ vs) H fun σ2 H2=>cu σ2 vs=cu σ vs/\tt σ2 H2 fun b H3=>if b=true then te σ2 H3 fun y H4=>∃acc,H4 D=some (.ag acc)/\acc.length<cp/\Pv (i+1) (ae H4 D (.ag (acc++[y])))else Pv (i+1) H3)(hd:∀H,Pv xs.length H->Qd H):
  ∃W:Nat->Nat->Hp->Prop,(∃m,W 0 m (ae H1 D (.ag [])))/\∀i m H,W i m H->((qM K a).cF i H/\Qd H)∨((qM K a).go i H/\∃Nx:Hp->Prop,(∀H',Nx H'->∃m',m'<m/\W (i+1) m' H')/\∀x H',(qM K a).lC i H x H'->g x (cu σ vs) H' fun σ2 H2=>cu σ2 vs=cu σ vs/\tt σ2 H2 fun b H3=>if b=true then te σ2 H3 fun y H4=>∃acc,H4 D=some (.ag acc)/\acc.length<cp/\Nx (ae H4 D (.ag (acc++[y])))else Nx H3):=by
 refine{fun i m H=>m=xs.length-i/\i<=xs.length/\Pv i H,{xs.length,by simp,dE _,h0},?_};rintro i m H ⟨rfl,hi,p⟩;have q:=hl i H hi p;by_cases bX:i<xs.length
 .refine .inr {{xs,xs[i],q,by simp[bX]},Pv (i+1),fun H' p'=>{xs.length-(i+1),by lia,rfl,bX,p'},fun x H' y=>?_};obtain⟨e,y⟩:=y;subst e;exact hs i x _ (y xs q) p
 have e:i=xs.length:=by lia
 subst e;exact .inl {{xs,q,bR _},hd H p}
noncomputable def NV(N:List ac)(sc scope:fZ)(own:List (ac×Nat)):Bool:=
 (match scope.kind with |.function=>true |_=>false)&&(scope.names.all fun y=>decide (scope.names.lookup y.1=some y.2))&&(own.all fun p=>decide (N[p.2]?=some p.1))&&
  (scope.names.all fun y=>match y.2 with
   |.free=>(match sc.names.lookup y.1 with |some .cell=>true |some .free=>true |_=>false)|.local=>decide (y.1∈own.map (·.1)) ||decide (y.1 ∉ N)
   |.cell=>decide (y.1∈own.map (·.1)) ||decide (y.1 ∉ N)|_=>true)
theorem oO{N:List ac}{sc scope:fZ}{own:List (ac×Nat)}(h:NV N sc scope own=true):xA N sc scope own:=by
 unfold NV at h;simp?[jJ,zO,qL]at h;obtain⟨⟨⟨h1,h2⟩,h3⟩,h4⟩:=h;refine{?_,h2,h3,fun y hy e=>?_,fun y hy e=>?_}
 .split at h1
  .assumption
  cases h1
 .have q:=h4 y hy;simp only[e]at q;split at q<;>first |exact .inl (by assumption) |exact .inr (by assumption) |cases q
 have q:=h4 y hy;rcases e with e |e<;>(simp only[e,Mo,qL]at q;exact q)
end _L
namespace _L
section
variable{prog:cA}{w:ck}{A:cO}{R:DT->ax->Prop}{s:ax}{hC t0 i0 t1 i1:bz}{apV apW:List bz}{scope:fZ}{pos:cS}{it acc:af}{env:fC}
end
section
variable{X:Cx}
end
end _L
namespace _L
section
variable{κ:Type} [DecidableEq κ]
noncomputable def fg(kvs:List (κ×V))(k:κ):Option V:=(kvs.find? fun kv=>decide (kv.1=k)).map (·.2)
noncomputable def iM(kvs:List (κ×V))(k:κ)(v:V):List (κ×V):=if (kvs.any fun kv=>decide (kv.1=k))=true then kvs.map (fun kv=>if kv.1=k then (kv.1,v)else kv)else kvs++[(k,v)]
noncomputable def jU(kvs:List (κ×V))(k:κ):List (κ×V):=kvs.filter fun kv=>decide (kv.1≠k)
theorem Md{p:κ×V}{r:List (κ×V)}{k:κ}(e:p.1=k):fg (p::r) k=some p.2:=by simp[fg,zQ,e]
theorem Mc{p:κ×V}{r:List (κ×V)}{k:κ}(e:¬ p.1=k):fg (p::r) k=fg r k:=by simp[fg,zQ,e]
theorem Dv(k:κ):∀kvs:List (κ×V),(kvs.any fun kv=>decide (kv.1=k))=(fg kvs k).isSome
 |[]=>rfl|p::r=>by
  rw[pI];by_cases e:p.1=k
  .simp?[Md e,gG e,aos,DL]
  rw[Mc e,dM e,xb];exact Dv k r
theorem IL(kvs:List (κ×V))(k:κ)(v:V):(iM kvs k v).length<=kvs.length+1:=by
 unfold iM;split
 .rw[bL];lia
 rw[cw,bJ,ox];lia
theorem CM{kvs:List (κ×V)}{k:κ}(v:V)(h:fg kvs k=none):iM kvs k v=kvs++[(k,v)]:=by unfold iM;rw[Dv,h];exact ao (by decide)
theorem gY.vX{o:Option V}{u:Option af}(r:gY o u):o.isSome=u.isSome:=by
 cases o with
 |none=>cases u with
  |none=>rfl|some _=>exact(show False from r).elim
 |some _=>cases u with
  |none=>exact(show False from r).elim|some _=>rfl
theorem gY.getD{o:Option V}{u:Option af}{d:V}{d':af}(r:gY o u)(rd:RelV d d'):RelV (o.getD d) (u.getD d'):=by
 cases o with
 |none=>cases u with
  |none=>exact rd|some _=>exact(show False from r).elim
 |some _=>cases u with
  |none=>exact(show False from r).elim|some _=>exact r
theorem KV.val{kvs:List (κ×V)}{vs:List (κ×af)}(r:KV kvs vs)(k:κ):gY (fg kvs k) (sK vs k):=by
 unfold KV at r;induction r with
 |nil=>exact jq|@cons p q ps qs h t ih=>
  obtain⟨h1,h2⟩:=h;by_cases e:p.1=k
  .have e':q.1=k:=h1.symm.trans e;have b:sK (q::qs) k=some q.2:=by simp[sK,zQ,e']
   rwa[Md e,b]
  have e':¬ q.1=k:=fun z=>e (h1.trans z);have b:sK (q::qs) k=sK qs k:=by simp[sK,zQ,e']
  rwa[Mc e,b]
theorem KV.any{kvs:List (κ×V)}{vs:List (κ×af)}(r:KV kvs vs)(k:κ):(kvs.any fun kv=>decide (kv.1=k))=vs.any fun kv=>decide (kv.1=k):=by unfold KV at r;induction r with|nil=>rfl|cons h t ih=>rw[pI,pI,ih,h.1]
theorem KV.KW{kvs:List (κ×V)}{vs:List (κ×af)}(r:KV kvs vs)(k:κ){y:V}{u:af}(ry:RelV y u):
  KV (kvs.map fun kv=>if kv.1=k then (kv.1,y)else kv) (vs.map fun kv=>if kv.1=k then (kv.1,u)else kv):=by
 unfold KV at r⊢;induction r with
 |nil=>exact .nil|@cons p q ps qs h t ih=>
  rw[cI,cI];refine .cons ?_ ih;obtain⟨h1,h2⟩:=h;by_cases e:p.1=k
  .rw[az e,az (h1.symm.trans e)];exact{(h1),ry}
  rw[ao e,ao (fun z=>e (h1.trans z))];exact{(h1),h2}
theorem KV.put{kvs:List (κ×V)}{vs:List (κ×af)}(r:KV kvs vs)(k:κ){y:V}{u:af}(ry:RelV y u):KV (iM kvs k y) (stored vs k u):=by
 unfold iM stored;rw[r.any k];by_cases e:(vs.any fun kv=>decide (kv.1=k))=true
 .rw[az e,az e];exact r.KW k ry
 rw[ao e,ao e];exact Paired.snoc r {(rfl),ry}
theorem KV.drop{kvs:List (κ×V)}{vs:List (κ×af)}(r:KV kvs vs)(k:κ):KV (jU kvs k) (without vs k):=by
 unfold KV at r⊢;unfold jU without;induction r with
 |nil=>exact .nil|@cons p q ps qs h t ih=>
  obtain⟨h1,h2⟩:=h;rw[jM,jM];by_cases e:p.1=k
  .have a:¬ decide (p.1≠k)=true:=by simp[e]
   have b:¬ decide (q.1≠k)=true:=by simp[h1.symm.trans e]
   rwa[ao a,ao b]
  have e':¬ q.1=k:=fun z=>e (h1.trans z);have a:decide (p.1≠k)=true:=by simp[e]
  have b:decide (q.1≠k)=true:=by simp[e']
  rw[az a,az b];exact .cons {(h1),h2} ih
theorem KV.length{kvs:List (κ×V)}{vs:List (κ×af)}(r:KV kvs vs):kvs.length=vs.length:=Paired.length r
theorem adx(kvs:List (κ×V))(k:κ):(jU kvs k).length<=kvs.length:=xi _ _
end
theorem ph{P:cA}{w:ck}{k:Key}{u:af}(r:RelV (kV k) u):(gc P w).is k u=true:=by cases k with|inl i=>obtain⟨t,e⟩:=(show∃t,u=Value.int i t from r);subst e;exact qp P w i t|inr x=>obtain⟨t,e⟩:=(show∃t,u=Value.str x t from r);subst e;exact aih P w x t
theorem QW{P:cA}{w:ck}:∀{ks:List Key} {us:List af},bF (ks.map kV) us->ItemsAre (gc P w) ks us|[],_,r=>by rw[lF]at r;cases r;exact .nil|k::ks,_,r=>by rw[cI]at r;cases r with|cons h t=>exact .cons (ph h) (QW t)
abbrev KT(H:Hp):List (List Key×V)->List (List Key×U×af)->Prop:=Paired fun p q=>p.1=q.1/\H q.2.1=some (.cH (p.1.map kV))/\RelV p.2 q.2.2
theorem KT.val{H:Hp}{kvs:List (List Key×V)}{xs:List (List Key×U×af)}(r:KT H kvs xs)(k:List Key):gY (fg kvs k) ((sG xs k).map (·.2)):=by
 induction r with
 |nil=>exact jq|@cons p q ps qs h t ih=>
  obtain⟨h1,_,h2⟩:=h;by_cases e:p.1=k
  .have e':q.1=k:=h1.symm.trans e;have b:sG (q::qs) k=some q.2:=by simp[sG,zQ,e']
   rwa[Md e,b]
  have e':¬ q.1=k:=fun z=>e (h1.trans z);have b:sG (q::qs) k=sG qs k:=by simp[sG,zQ,e']
  rwa[Mc e,b]
theorem KT.KW{H:Hp}{kvs:List (List Key×V)}{xs:List (List Key×U×af)}(r:KT H kvs xs)(k:List Key){y:V}{u:af}(ry:RelV y u):
  KT H (kvs.map fun kv=>if kv.1=k then (kv.1,y)else kv) (xs.map (putAt k u)):=by
 induction r with
 |nil=>exact .nil|@cons p q ps qs h t ih=>
  rw[cI,cI];refine .cons ?_ ih;obtain⟨h1,h2,h3⟩:=h;unfold putAt;by_cases e:p.1=k
  .rw[az e,az (h1.symm.trans e)];exact{(h1),h2,ry}
  rw[ao e,ao (fun z=>e (h1.trans z))];exact{(h1),h2,h3}
theorem KT.put{H:Hp}{kvs:List (List Key×V)}{xs:List (List Key×U×af)}(r:KT H kvs xs)(k:List Key){b:U}{y:V}{u:af}(hb:H b=some (.cH (k.map kV)))(ry:RelV y u):
  KT H (iM kvs k y) (storedH xs k b u):=by
 have e:(kvs.any fun kv=>decide (kv.1=k))=(sG xs k).isSome:=by rw[Dv,(r.val k).vX,YZ]
 unfold iM storedH;rw[e];by_cases q:(sG xs k).isSome=true
 .rw[az q,az q];exact r.KW k ry
 rw[ao q,ao q];exact Paired.snoc r {(rfl),hb,ry}
theorem KT.keeps{H H':Hp}{kvs:List (List Key×V)}{xs:List (List Key×U×af)}(r:KT H kvs xs)(ht:∀b ys,H b=some (.cH ys)->H' b=some (.cH ys)):KT H' kvs xs:=Paired.Ja r fun _ _ z=>{z.1,ht _ _ z.2.1,z.2.2}
section
variable{P:cA}{w:ck}{H:Hp}{h:bP}{a:U}
theorem Tl{u:HO}(ok:dG P w H h)(e:Rd H a u):eV P w H h a u:=e.ok ok
theorem qZ{kvs:List (Key×V)}(ok:dG P w H h)(e:Rd H a (.dK kvs)):kvs.length<=cp/\(a==lI)=false/\∃vs,KV kvs vs/\h.DictOf (gc P w) a vs:=show eV P w H h a (.dK kvs)from Tl ok e
theorem EN{kvs:List (Key×V)}(ok:dG P w H h)(e:H a=some (.dK kvs)):kvs.length<=cp/\(a==lI)=false/\∃vs,KV kvs vs/\h.DictOf (gc P w) a vs:=qZ ok (.inl e)
theorem wc{ks:List Key}(ok:dG P w H h)(e:H a=some (.cH (ks.map kV))):(Ah (gc P w)).is h ks a:=by obtain⟨_,its,r,o,h1,h2,n,h3⟩:=(show eV P w H h a (.cH (ks.map kV))from ok a _ e);exact{o,its.toArray,n,h1,h2,h3,by simpa using QW r}
theorem tu{kvs:List (List Key×V)}(ok:dG P w H h)(e:Rd H a (.dT kvs)):kvs.length<=cp/\(a==lI)=false/\
  ∃xs,KT H kvs xs/\h.DictOfH (Ah (gc P w)) a xs:=by
 obtain⟨z,y,xs,r,o,es,ep,h1,h2,h3,h4,h5⟩:=(show eV P w H h a (.dT kvs)from Tl ok e);refine{z,y,xs,r,o,es,ep,h1,h2,h3,h4,fun x hx=>?_,h5};have all:∀{l:List (List Key×V)} {m:List (List Key×U×af)},KT H l m->∀x∈m,(Ah (gc P w)).is h x.1 x.2.1:=by
  intro l m q;induction q with
  |nil=>intro x hx;exact nomatch hx|@cons p q ps qs hq t ih=>
   intro x hx;rcases bw.mp hx with e |hx
   .subst e;exact wc ok (by rw[←hq.1];exact hq.2.1)
   exact ih x hx
 exact all r x hx
theorem adz{kvs:List (List Key×V)}(ok:dG P w H h)(e:H a=some (.dT kvs)):kvs.length<=cp/\(a==lI)=false/\∃xs,KT H kvs xs/\h.DictOfH (Ah (gc P w)) a xs:=tu ok (.inl e)
end
def kR(H:Hp)(a:U)(y:V)(r:Option V):Prop:=(∃kvs k,Rd H a (.dK kvs)/\y=kV k/\r=fg kvs k)∨∃kvs k b,Rd H a (.dT kvs)/\y=.ref b/\H b=some (.cH (k.map kV))/\r=fg kvs k
def Nh(H:Hp)(a:U)(y v:V)(H':Hp):Prop:=
 (∃kvs k,H a=some (.dK kvs)/\y=kV k/\kvs.length<cp/\H'=ae H a (.dK (iM kvs k v)))∨
 ∃kvs k b,H a=some (.dT kvs)/\y=.ref b/\H b=some (.cH (k.map kV))/\kvs.length<cp/\H'=ae H a (.dT (iM kvs k v))
section
variable{X:Cx}{pins:List (U×ba)}{σ:St}{H:Hp}{s:ax}{a:U}{y v:V}{u r:af}{o:Option V}{A:cO}{E:af->ax->Prop}
theorem Inv.big(I:Inv X pins σ H s):lI<s.heap.objs.size:=by have h:jp<s.heap.objs.size:=(I.ir.p8.keeps I.bk).lt;exact Nat.lt_trans (by decide) h
theorem acL{Q:af->ax->Prop}(hu:A.units+1<lG)(I:Inv X pins σ H s)(g:kR H a y (some v))(ry:RelV y u)(h:∀w' s',Inv X pins σ H s'->RelV v w'->Q w' s'):
  aY (bp X.prog X.w) A (Ac (.ref a) u) Q E s:=by
 rcases g with⟨kvs,k,e,ey,l⟩ |⟨kvs,k,b,e,ey,eb,l⟩
 .subst ey;obtain⟨z,hd,vs,rel,dd⟩:=qZ I.aO e;obtain⟨w',hw,mi⟩:=gY.zp (v:=v) (o:=sK vs k) (by rw[l];exact rel.val k);exact apF (ph ry) dd.mapOf hw (h w' _ (I.dZ _) mi)
 subst ey;cases(show u=Value.ref b from ry);obtain⟨z,hd,xs,rel,dd⟩:=tu I.aO e;obtain⟨w',hw,mi⟩:=gY.zp (v:=v) (o:=(sG xs k).map (·.2)) (by rw[l];exact rel.val k);obtain⟨p,hp,vS⟩:=ao8.mp hw;refine wpAny_getItem_heap (D8 hu) (wc I.aO eb) dd hp ?_;rw[vS];exact h w' _ (I.dZ _) mi
theorem acP{Q:af->ax->Prop}(hu:A.units+1<lG)(I:Inv X pins σ H s)(g:kR H a y o)(ry:RelV y u)(h:∀s',Inv X pins σ H s'->Q (.bool o.isSome) s'):
  aY (bp X.prog X.w) A (jo .In u (.ref a)) Q E s:=by
 rcases g with⟨kvs,k,e,ey,l⟩ |⟨kvs,k,b,e,ey,eb,l⟩
 .subst ey;obtain⟨z,hd,vs,rel,dd⟩:=qZ I.aO e;refine wpAny_in_of (ph ry) hd dd.mapOf ?_;rw[←(rel.val k).vX,←l];exact h _ (I.dZ _)
 subst ey;cases(show u=Value.ref b from ry);obtain⟨z,hd,xs,rel,dd⟩:=tu I.aO e;refine wpAny_in_heap (D8 hu) (wc I.aO eb) hd dd ?_;have q:=(rel.val k).vX;rw[YZ]at q;rw[←q,←l];exact h _ (I.dZ _)
theorem ac7{Q:af->ax->Prop}(hu:A.units+1<lG)(I:Inv X pins σ H s)(g:kR H a y o)(ry:RelV y u)(h:∀s',Inv X pins σ H s'->Q (.bool (!o.isSome)) s'):
  aY (bp X.prog X.w) A (jo .NotIn u (.ref a)) Q E s:=by
 rcases g with⟨kvs,k,e,ey,l⟩ |⟨kvs,k,b,e,ey,eb,l⟩
 .subst ey;obtain⟨z,hd,vs,rel,dd⟩:=qZ I.aO e;refine wpAny_notIn_of (ph ry) hd dd.mapOf ?_;rw[←(rel.val k).vX,←l];exact h _ (I.dZ _)
 subst ey;cases(show u=Value.ref b from ry);obtain⟨z,hd,xs,rel,dd⟩:=tu I.aO e;refine wpAny_notIn_heap (D8 hu) (wc I.aO eb) hd dd ?_;have q:=(rel.val k).vX;rw[YZ]at q;rw[←q,←l];exact h _ (I.dZ _)
theorem AJ{h':bP}{t':Nat}{ob:HO}(I:Inv X pins σ H s)(mu:pP (H a))(hs:Heap.SameBut a s.heap h')(he:∃q,h'.get? a=some q)(new:eV X.prog X.w (ae H a ob) h' a ob):
  Inv X pins σ (ae H a ob) {s with heap:=h',toks:=t'}:=
 I.write (x:=a) (e:=a) mu (.inl rfl) (fun b q hb z=>(hs.2 b hb).trans z) he new
theorem EM{P:cA}{w:ck}{H':Hp}{h':bP}{kvs:List (Key×V)}{vs:List (Key×af)}(z:kvs.length<=cp)(hd:(a==lI)=false)(rel:KV kvs vs)(dd:h'.DictOf (gc P w) a vs):
  eV P w H' h' a (.dK kvs):={(z),hd,vs,rel,dd}
theorem adn{H':Hp}{Q:Unit->ax->Prop}(hu:A.units+1<lG)(I:Inv X pins σ H s)(g:Nh H a y v H')(ry:RelV y u)(rv:RelV v r)(h:∀s',Inv X pins σ H' s'->Q () s'):
  aY (bp X.prog X.w) A (setItem (.ref a) u r) Q E s:=by
 rcases g with⟨kvs,k,e,ey,l,eH⟩ |⟨kvs,k,b,e,ey,eb,l,eH⟩
 .subst ey eH;obtain⟨z,hd,vs,rel,dd⟩:=EN I.aO e;have hz:vs.length<=cp:=by rwa[←rel.length]
  have hl:(iM kvs k v).length<=cp:=by have:=IL kvs k v;lia
  refine wpAny_setItem_pairs (hsz:=hz) (ph ry) dd fun h' oP hs=>h _ ?_;have he:∃q,h'.get? a=some q:=let ⟨q,_,_,hq,_⟩:=oP;{(q),hq};exact AJ I (by rw[e];exact jq) hs he (EM hl hd (rel.put k rv) oP)
 subst ey eH;cases(show u=Value.ref b from ry);obtain⟨z,hd,xs,rel,dd⟩:=adz I.aO e;have hz:xs.length<=cp:=by rwa[←Paired.length rel]
 have hl:(iM kvs k v).length<=cp:=by have:=IL kvs k v;lia
 refine wpAny_setItem_heap (hsz:=hz) (D8 hu) (wc I.aO eb) dd fun h' oP hs=>h _ ?_;obtain⟨q,es,ep,hq,h2,h3,h4,_,h5⟩:=oP;refine AJ I (by rw[e];exact jq) hs {(q),hq} {hl,hd,_,(rel.put k eb rv).keeps fun c ys ec=>?_,q,es,ep,hq,h2,h3,h4,h5};rwa[aj (cr ec e (fun z=>nomatch z))]
end
section
variable{X:Cx}{pins:List (U×ba)}{σ:St}{H:Hp}{s:ax}{a:U}{kvs:List (Key×V)}{k:Key}{u:af}{A:cO}{E:af->ax->Prop}
theorem ac8{v:V}{more:List af}{Q:af->ax->Prop}(I:Inv X pins σ H s)(e:H a=some (.dK kvs))(ry:RelV (kV k) u)(l:fg kvs k=some v)(hm:more=[]∨∃x,more=[x])
  (h:∀w' s',Inv X pins σ (ae H a (.dK (jU kvs k))) s'->RelV v w'->Q w' s'):aY (bp X.prog X.w) A (call (.builtin "dict.pop") (.ref a::u::more)) Q E s:=by
 obtain⟨z,hd,vs,rel,dd⟩:=EN I.aO e;obtain⟨w',hw,mi⟩:=gY.zp (v:=v) (o:=sK vs k) (by rw[←l];exact rel.val k);have hp:(keyPart u).isSome=true:=by cases k with|inl i=>obtain⟨t,q⟩:=(show∃t,u=Value.int i t from ry);subst q;rfl|inr x=>obtain⟨t,q⟩:=(show∃t,u=Value.str x t from ry);subst q;rfl
 have ha:argsOk "dict.pop" {.ref a::u::more,[]}:=by
  rcases hm with q |⟨x,q⟩
  .subst q;exact PySem.F.args_dict_pop_2 _ _
  subst q;exact PySem.F.args_dict_pop_3 _ _ _
 refine MU api dd.typeIs PySem.F.entry_dict_pop ha (meets_dict_pop_there (gc X.prog X.w) a (ph ry) more hm hp) {vs,w',dd,by rw[←rel.length];exact z,hw,fun h' oP hs=>h w' _ ?_ mi};have he:∃q,h'.get? a=some q:=let ⟨q,_,_,hq,_⟩:=oP;{(q),hq};exact AJ I (by rw[e];exact jq) hs he (EM (jk (adx kvs k) z) hd (rel.drop k) oP)
theorem ac4{Q:af->ax->Prop}(I:Inv X pins σ H s)(e:Rd H a (.dK kvs))(h:∀t s',Inv X pins σ H s'->Q (.int kvs.length t) s'):aY (bp X.prog X.w) A (call (.builtin "len") [.ref a]) Q E s:=by obtain⟨z,hd,vs,rel,dd⟩:=qZ I.aO e;refine call_len_dict hd dd (by rw[←rel.length];rw[Zo]at z;lia) ?_;rw[←rel.length];exact h _ _ (I.dZ _)
end
def Eh(i:bz):Prop:=∀ov iv,subscripted i false ov iv=operate [ov,iv] (Ac ov iv)
theorem XI{prog:cA}{w:ck}{A:cO}{E:af->ax->Prop}{s:ax}{env:fC}{value qA:bz}{pos:cS}{T id:String}{Q:af->ax->Prop}
  (hl:typeLookup (.type T) "__getitem__"=pure (some (.builtin id)))(hs:Eh qA)
  (h:aY (bp prog w) A (cB value env) (fun o s₁=>aY (bp prog w) A (cB qA env) (fun i s₂=>s₂.TypeIs o T/\aY (bp prog w) A (Ac o i) Q E s₂) E s₁) E s):
  aY (bp prog w) A (cB (.Subscript value qA pos) env) Q E s:=by
 refine Y7 (nA h (fun o s₁ h₁=>nA h₁ (fun i s₂ h₂=>?_) fun _ _ x=>x) fun _ _ x=>x);obtain⟨hT,h₂⟩:=h₂;unfold Y8;refine bN ?_;rw[getitemInPython_of_ne hT.not_modules];refine bN (wpAny_specialOf hT hl ?_);have fin:aY (bp prog w) A (subscripted qA false o i) (fun r s₃=>aY (bp prog w) A (letTemporaryGo value o r>>=fun _=>pure r) Q E s₃) E s₂:=by rw[hs o i];exact wpAny_operating (nA h₂ (fun r s₃ h₃=>bN (wpAny_letTemporaryGo (cJ h₃))) fun _ _ x=>x)
 first
  |exact cJ (bN fin)
  |exact bN (cJ (bN fin))
  |exact bN fin
theorem adt{X:Cx}{pins:List (U×ba)}{σ:St}{H:Hp}{s:ax}{a:U}{y:V}{o:Option V}(I:Inv X pins σ H s)(g:kR H a y o):s.TypeIs (.ref a) "dict":=by
 rcases g with⟨kvs,k,e,_,_⟩ |⟨kvs,k,b,e,_,_,_⟩
 .obtain⟨_,_,vs,_,dd⟩:=qZ I.aO e;exact dd.typeIs
 obtain⟨_,_,xs,_,dd⟩:=tu I.aO e;exact dd.typeIs
def wR(td ty:TE):TE:=fun σ H Q=>td σ H fun x H1=>ty σ H1 fun y H2=>∃a v,x=.ref a/\kR H2 a y (some v)/\Q v H2
def lx(ty td:TE):TE:=fun σ H Q=>ty σ H fun y H1=>td σ H1 fun x H2=>∃a o,x=.ref a/\kR H2 a y o/\Q (.bl o.isSome) H2
def pE(ty td:TE):TE:=fun σ H Q=>ty σ H fun y H1=>td σ H1 fun x H2=>∃a o,x=.ref a/\kR H2 a y o/\Q (.bl (!o.isSome)) H2
def K2(td ty tv:TE):TS:=fun D σ H=>tv σ H fun v H1=>td σ H1 fun x H2=>ty σ H2 fun y H3=>∃a H4,x=.ref a/\Nh H3 a y v H4/\D.nx σ H4
section
variable{X:Cx}{o i e value:bz}{pos jC Yf:cS}{td ty tv:TE}
theorem wx(hu:X.A.units+1<lG)(ho:PE X o td)(hi:PE X i ty)(hs:Eh i):PE X (.Subscript o i pos) (wR td ty):=by intro pins s σ H Q I h;refine XI aph.lookup hs (bj (ho pins s σ H _ I h) fun u s1 ⟨x,H1,I1,rx,q1⟩=>bj (hi pins s1 σ H1 _ I1 q1) fun iv s2 ⟨y,H2,I2,ry,a,v,ex,g,q2⟩=>?_);subst ex;obtain rfl:u=Value.ref a:=rx;exact{adt I2 g,acL hu I2 g ry fun w' s3 I3 mi=>{(v),H2,I3,mi,q2}}
theorem SG(hu:X.A.units+1<lG)(hi:PE X i ty)(ho:PE X o td):PC X .In i o (lx ty td):=by intro pins s σ H Q I h;refine bj (hi pins s σ H _ I h) fun iv s1 ⟨y,H1,I1,ry,q1⟩=>bj (ho pins s1 σ H1 _ I1 q1) fun u s2 ⟨x,H2,I2,rx,a,ov,ex,g,q2⟩=>?_;subst ex;obtain rfl:u=Value.ref a:=rx;exact acP hu I2 g ry fun s3 I3=>{.bl ov.isSome,H2,I3,rfl,q2}
theorem KI(hu:X.A.units+1<lG)(hi:PE X i ty)(ho:PE X o td):PC X .NotIn i o (pE ty td):=by intro pins s σ H Q I h;refine bj (hi pins s σ H _ I h) fun iv s1 ⟨y,H1,I1,ry,q1⟩=>bj (ho pins s1 σ H1 _ I1 q1) fun u s2 ⟨x,H2,I2,rx,a,ov,ex,g,q2⟩=>?_;subst ex;obtain rfl:u=Value.ref a:=rx;exact ac7 hu I2 g ry fun s3 I3=>{.bl (!ov.isSome),H2,I3,rfl,q2}
theorem Th(hu:X.A.units+1<lG)(ho:PE X o td)(hi:PE X i ty)(hv:PE X value tv)(hs:xx value (some (.Subscript o i jC)) pos.line X.env=pure false):
  PS X (.Assign [.Subscript o i jC] value pos) (K2 td ty tv):=by
 intro pins s σ H D I h;refine wpAny_Assign_Subscript (bj (hv pins s σ H _ I h) fun r s1 ⟨v,H1,I1,rv,q1⟩=>bj (ho pins s1 σ H1 _ I1 q1) fun u s2 ⟨x,H2,I2,rx,q2⟩=>bj (hi pins s2 σ H2 _ I2 q2) fun iv s3 ⟨y,H3,I3,ry,a,H4,ex,g,q3⟩=>?_) hs;subst ex;obtain rfl:u=Value.ref a:=rx;exact adn hu I3 g ry rv fun s4 I4=>{(σ),H4,I4,q3}
end
theorem adv{P:cA}{w:ck}{H:Hp}(h:bP)(hb:lI<h.objs.size):eV P w H (h.push {cls:=.type "dict",data:=.dict #[]}) h.objs.size (.dK []):={dE _,kO.mpr (pJ (jl hb)),[],.nil,Heap.DictOf.new h}
def XR:TE:=fun _ H Q=>∀p,H p=none->Q (.ref p) (ae H p (.dK []))
section
variable{X:Cx}{pos:cS}
theorem wy:PE X (.Dict [] [] pos) XR:=fun pins s σ H Q I h=>wpAny_Dict_empty {.ref s.heap.objs.size,_,I.j8 (a:=s.heap.objs.size) (o:=.dK []) (t':=s.toks) (fun _ _ q=>Heap.get?_push_of_some _ q) (bR _) (adv s.heap I.big),rfl,h _ (I.aO.fresh (bR _))}
end
structure M1(X:Cx)(o:bz)(m:ac)(apos:cS)(e:bz)(cpos:cS):Prop where
 base:xr o m X.env (cB o X.env)=cB o X.env
 A1:((ig cpos (cX [e] X.env)).all (fun x=>!x.1)&&(xt cpos (xu [] X.env)).all (fun x=>x.1.isSome)
  &&decide (([e]:List bz).length+([]:List xq).length+(if ([]:List xq).isEmpty then 0 else 1)<30))=true
 line:(apos.endLine==cpos.line)=true
 Dr:ig cpos (cX [e] X.env)=[(false,cB e X.env)]
structure M2(X:Cx)(o:bz)(m:ac)(apos:cS)(e f:bz)(cpos:cS):Prop where
 base:xr o m X.env (cB o X.env)=cB o X.env
 A1:((ig cpos (cX [e,f] X.env)).all (fun x=>!x.1)&&(xt cpos (xu [] X.env)).all (fun x=>x.1.isSome)
  &&decide (([e,f]:List bz).length+([]:List xq).length+(if ([]:List xq).isEmpty then 0 else 1)<30))=true
 line:(apos.endLine==cpos.line)=true
 Dr:ig cpos (cX [e,f] X.env)=[(false,cB e X.env),(false,cB f X.env)]
def Ak(H:Hp)(a:U):Prop:=(∃kvs,Rd H a (.dK kvs))∨∃kvs,Rd H a (.dT kvs)
theorem Iy{X:Cx}{pins:List (U×ba)}{σ:St}{H:Hp}{s:ax}{a:U}(I:Inv X pins σ H s)(d:Ak H a):
  s.TypeIs (.ref a) "dict"/\(∀b,Value.ref a=.ref b->∃ob,s.heap.get? b=some ob/\ob.dict=none)/\(a==lI)=false:=by
 rcases d with⟨kvs,e⟩ |⟨kvs,e⟩
 .obtain⟨_,hd,vs,_,dd⟩:=qZ I.aO e;refine{dd.typeIs,fun b q=>?_,hd};cases q;obtain⟨ob,_,_,h1,h2,_⟩:=dd;exact{(ob),h1,h2.2.1}
 obtain⟨_,hd,xs,_,dd⟩:=tu I.aO e;refine{dd.typeIs,fun b q=>?_,hd};cases q;obtain⟨ob,_,_,h1,h2,_⟩:=dd;exact{(ob),h1,h2.2.1}
section
variable{X:Cx}{pins:List (U×ba)}{σ:St}{H:Hp}{s:ax}{a:U}{y d:V}{u r:af}{o:Option V}{A:cO}{E:af->ax->Prop}
theorem acK{Q:af->ax->Prop}(hu:A.units+1<lG)(I:Inv X pins σ H s)(g:kR H a y o)(ry:RelV y u)(rd:RelV d r)(h:∀w' s',Inv X pins σ H s'->RelV (o.getD d) w'->Q w' s'):
  aY (bp X.prog X.w) A (call (.builtin "dict.get") [.ref a,u,r]) Q E s:=by
 rcases g with⟨kvs,k,e,ey,l⟩ |⟨kvs,k,b,e,ey,eb,l⟩
 .subst ey;obtain⟨z,hd,vs,rel,dd⟩:=qZ I.aO e;refine MU Za dd.typeIs apg (apf _ _ _) (meets_dict_get_default (gc X.prog X.w) a (ph ry) hd r) {_,dd.mapOf,h _ _ (I.dZ _) ?_};rw[l];exact(rel.val k).getD rd
 subst ey;cases(show u=Value.ref b from ry);obtain⟨z,hd,xs,rel,dd⟩:=tu I.aO e;refine MU Za dd.typeIs apg (apf _ _ _) (meetsH_dict_get_default (Ah (gc X.prog X.w)) a b hd r) {D8 hu,k,xs,wc I.aO eb,dd,h _ _ (I.dZ _) ?_};rw[l];exact(rel.val k).getD rd
end
def XQ(td ty tx:TE):TE:=fun σ H Q=>td σ H fun x H1=>∃a,x=.ref a/\Ak H1 a/\ty σ H1 fun y H2=>tx σ H2 fun z H3=>∃o,kR H3 a y o/\Q (o.getD z) H3
def XS(td ty:TE):TE:=fun σ H Q=>td σ H fun x H1=>∃a,x=.ref a/\Ak H1 a/\ty σ H1 fun y H2=>∃kvs k v,H2 a=some (.dK kvs)/\y=kV k/\fg kvs k=some v/\Q v (ae H2 a (.dK (jU kvs k)))
section
variable{X:Cx}{o e f:bz}{apos cpos:cS}{td ty tx:TE}
theorem akW(hu:X.A.units+1<lG)(ho:PE X o td)(he:PE X e ty)(hf:PE X f tx)(m:M2 X o "get" apos e f cpos):PE X (.Call (.Attribute o "get" apos) [e,f] [] cpos) (XQ td ty tx):=by intro pins s σ H Q I h;refine MZ m.base m.A1 m.line Y9 Za PySem.F.type_dict_get (bj (ho pins s σ H _ I h) fun u s1 ⟨x,H1,I1,rx,a,ex,d,q1⟩=>?_);subst ex;obtain rfl:u=Value.ref a:=rx;obtain⟨t1,t2,_⟩:=Iy I1 d;refine{t1,t2,?_};rw[m.Dr];refine Calls.callWith_builtin rfl (Calls.evalArgs_plain (Calls.spliced_cons (bj (he pins s1 σ H1 _ I1 q1) fun iv s2 ⟨y,H2,I2,ry,q2⟩=>Calls.spliced_cons (bj (hf pins s2 σ H2 _ I2 q2) fun fv s3 ⟨z,H3,I3,rz,ov,g,q3⟩=>Calls.spliced_nil ?_))));exact acK hu I3 g ry rz fun w' s4 I4 mi=>{_,H3,I4,mi,q3}
theorem akX(ho:PE X o td)(he:PE X e ty)(m:M1 X o "pop" apos e cpos):PE X (.Call (.Attribute o "pop" apos) [e] [] cpos) (XS td ty):=by intro pins s σ H Q I h;refine MZ m.base m.A1 m.line Y9 api PySem.F.type_dict_pop (bj (ho pins s σ H _ I h) fun u s1 ⟨x,H1,I1,rx,a,ex,d,q1⟩=>?_);subst ex;obtain rfl:u=Value.ref a:=rx;obtain⟨t1,t2,_⟩:=Iy I1 d;refine{t1,t2,?_};rw[m.Dr];refine Calls.callWith_builtin rfl (Calls.evalArgs_plain (Calls.spliced_cons (bj (he pins s1 σ H1 _ I1 q1) fun iv s2 ⟨y,H2,I2,ry,kvs,k,v,ea,ey,l,q2⟩=>Calls.spliced_nil ?_)));subst ey;exact ac8 I2 ea ry l (.inl rfl) fun w' s3 I3 mi=>{v,_,I3,mi,q2}
end
section
variable{X:Cx}{pins:List (U×ba)}{σ:St}{H:Hp}{s:ax}{a:U}{kvs:List (Key×V)}{A:cO}{E:af->ax->Prop}
end
section
variable{X:Cx}{pins:List (U×ba)}{σ:St}{H:Hp}{s:ax}{a:U}{y:V}{u:af}{A:cO}{E:af->ax->Prop}
end
end _L
namespace _L
section
variable{prog:cA}{w:ck}{A:cO}{E:af->ax->Prop}
end
section
variable{X:Cx}
end
end _L
namespace _L
section
variable{X:Cx}{pins:List (U×ba)}{σ:St}{H:Hp}{s:ax}{h':bP}
theorem Inv.Rh{d:U}{u:HO}(I:Inv X pins σ H s)(h:H d=some u)(mu:pP (some u)):∃od,Inv X pins σ (ae H d (.br od u)) s:=by
 have x:=I.aO d u h;have ex:∃od,s.heap.get? d=some od:=by
  cases u with
  |ag xs=>obtain⟨_,_,_,_,e⟩:=x;exact{_,e}|dK kvs=>obtain⟨_,_,_,_,o,_,_,e,_⟩:=x;exact{(o),e}
  |dT kvs=>obtain⟨_,_,_,_,o,_,_,e,_⟩:=x;exact{(o),e}|set S n=>obtain⟨o,_,_,_,e,_⟩:=x;exact{(o),e}
  |am C dx fs=>obtain⟨_,_,_,e,_⟩:=x;exact{_,e}|ext φ=>obtain⟨_,⟨_,e⟩,_⟩:=x;exact{_,e}
  |_=>exact jK mu
 obtain⟨od,e⟩:=ex;have new:eV X.prog X.w (ae H d (.br od u)) s.heap d (.br od u):=by
  refine{e,x.si (fun b v _ q=>q) (fun b q=>?_) fun b xs q=>?_}
  .rw[aj (fun z=>by rw[z,h]at q;cases q;exact mu)];exact q
  rw[aj (fun z=>by rw[z,h]at q;cases q;exact mu)];exact q
 exact{od,I.write (x:=d) (e:=d) (t':=s.toks) (h':=s.heap) (by rwa[h]) (.inl rfl) (fun b v _ q=>q) {(od),e} new}
theorem Inv.yW{d:U}{u:HO}(I:Inv X pins σ H s)(h:H d=some u)(mu:pP (some u)):∀o' u',X.sQ d≠some (.br o' u'):=fun o' u' e=>by have q:=I.base.nW d o' u' e;rw[h]at q;cases q;exact mu
theorem Inv.zB{d:U}{od:ba}{u:HO}(I:Inv X pins σ H s)(h:H d=some (.br od u))(hn:∀o' u',X.sQ d≠some (.br o' u')):Inv X pins σ (ae H d u) s:=by
 have neH:∀b o,H b=some o->(∀o' u',o≠.br o' u')->b≠d:=fun b o e hne z=>by rw[z,h]at e;cases e;exact hne _ _ rfl
 have neN:∀b,H b=none->b≠d:=fun b e z=>by rw[z,h]at e;cases e
 refine{I.ok,I.os,I.gZ,{I.base.keep,I.base.slot,fun b o e n hx=>?_,I.base.there,fun b xs e=>?_,fun b o x e=>?_,fun b ps e=>?_},I.jb,I.cell,?_,fun x c e=>?_,fun p hp=>?_,fun b o e=>?_,I.bu}
 .rw[aj (neN b (I.base.free b o e n hx))];exact I.base.free b o e n hx
 .have q:=I.base.qD b xs e;rwa[aj (neH b _ q (fun _ _ z=>nomatch z))]
 .have q:=I.base.nW b o x e;rw[aj (fun z=>by rw[z]at e;exact hn _ _ e)];exact q
 .obtain⟨m,q⟩:=I.base.qC b ps e;exact{m,by rw[aj (neH b _ q (fun _ _ z=>nomatch z))];exact q}
 .rw[aj (neN _ I.free)];exact I.free
 .rw[aj (neN c (I.lU x c e))];exact I.lU x c e
 .obtain⟨e,n,r⟩:=I.lg p hp;exact{e,by rw[aj (neN _ n)];exact n,r}
 by_cases hb:b=d
 .rw[hb,ay]at e;cases e;rw[hb];obtain⟨_,x⟩:=I.aO d _ h;exact x.si (fun c v _ q=>q) (fun c q=>by rwa[aj (neH c _ q (fun _ _ z=>nomatch z))]) fun c xs q=>by rwa[aj (neH c _ q (fun _ _ z=>nomatch z))]
 rw[aj hb]at e;exact(I.aO b o e).si (fun c v _ q=>q) (fun c q=>by rwa[aj (neH c _ q (fun _ _ z=>nomatch z))]) fun c xs q=>by rwa[aj (neH c _ q (fun _ _ z=>nomatch z))]
end
def am3(t:TS):TS:=fun D σ H=>∃d u,H d=some u/\pP (some u)/\∀od,t {fun σ' H'=>H' d=some (.br od u)/\D.nx σ' (ae H' d u),fun v H'=>H' d=some (.br od u)/\D.rt v (ae H' d u),fun σ' H'=>H' d=some (.br od u)/\D.bk σ' (ae H' d u),fun σ' H'=>H' d=some (.br od u)/\D.ct σ' (ae H' d u)} σ (ae H d (.br od u))
def XV(t:TE):TE:=fun σ H Q=>∃d u,H d=some u/\pP (some u)/\∀od,t σ (ae H d (.br od u)) fun v H'=>H' d=some (.br od u)/\Q v (ae H' d u)
section
variable{X:Cx}
theorem KQ{st:gj}{t:TS}(h:PS X st t):PS X st (am3 t):=by
 intro pins s σ H D I hw;obtain⟨d,u,hd,mu,hw⟩:=hw;obtain⟨od,I1⟩:=I.Rh hd mu;refine bj (h pins s σ _ _ I1 (hw od)) fun f s1 q=>?_;cases f with
 |next=>obtain⟨σ',H',I2,e,q⟩:=q;exact{σ',_,I2.zB e (I.yW hd mu),q}|brk=>obtain⟨σ',H',I2,e,q⟩:=q;exact{σ',_,I2.zB e (I.yW hd mu),q}
 |cont=>obtain⟨σ',H',I2,e,q⟩:=q;exact{σ',_,I2.zB e (I.yW hd mu),q}|ret v=>obtain⟨x,σ',H',I2,r,e,q⟩:=q;exact{x,σ',_,I2.zB e (I.yW hd mu),r,q}
theorem SX{e:bz}{t:TE}(h:PE X e t):PE X e (XV t):=by intro pins s σ H Q I hw;obtain⟨d,u,hd,mu,hw⟩:=hw;obtain⟨od,I1⟩:=I.Rh hd mu;refine bj (h pins s σ _ _ I1 (hw od)) fun v s1 ⟨x,H1,I2,r,e2,q⟩=>?_;exact{x,_,I2.zB e2 (I.yW hd mu),r,q}
theorem wB{tg:bz}{pins:List (U×ba)}{σ:St}{H:Hp}{s:ax}{R:It->Hp->Prop}{J:It}{tn:Nat->bP->Prop}{tk:Nat}(I:Inv X pins σ H s)(o:ba)
  (T:pU X.prog X.w X.K tg J [s.heap.objs.size] s.heap.objs.size tn)(st:tn 0 (s.heap.push o))(q:R J H):Ei X pins σ tg R (.ref s.heap.objs.size) {s with heap:=s.heap.push o,toks:=tk}:=by
 refine{s.heap.objs.size,[s.heap.objs.size],tn,J,H,rfl,I.hU fun b ob e=>Heap.get?_push_of_some _ e,T,st,fun b hb=>?_,q};have e:b=s.heap.objs.size:=by simpa using hb
 subst e;exact I.A4 (bR _) (I.aO.fresh (bR _))
end
section
variable{X:Cx}{tg:bz}
end
def xC(x:ac):It:={fun i _=>i<x.cps.size,fun i H v H'=>H'=H/\∃c,x.cps[i]?=some c/\v=.str ⟨#[c]⟩,fun i _=>x.cps.size<=i}
theorem Yh{P:cA}{w:ck}{K:bn}{tg:bz}(it:U)(x:ac)(t:ny)(ty:String)(hty:ty="str_ascii_iterator"∨ty="str_iterator"):
  pU P w K tg (xC x) [it] it (fun i h=>h.IsStrIter it ty x t i) where
 mem:=by simp
 obj:=fun i h st b hb=>by
  have e:b=it:=by simpa using hb
  subst e;obtain⟨o,e,c,d⟩:=st;exact{o,e,fun v z=>by rw[d]at z;cases z}
 keep:=fun i h h' st k=>let ⟨o,ho,r⟩:=st;{o,k it (by simp) o ho,r}
 item:=by
  intro X hP hw hK hc i pins s σ H E I hf st hg;subst hP hw hK;obtain⟨f0,f1,f2,f3,f4,f5⟩:=hf it (by simp);have W:Walks X.prog X.w X.A it [it] [it] x.cps.size (SignAt x) (fun i h=>h.IsStrIter it ty x t i):=by
   rcases hty with e |e
   .rw[e];exact Walks.strAscii (I.ok.hd hc) it x t
   rw[e];exact Walks.strWide (I.ok.hd hc) it x t
  have hno:["enumerate","zip","dict_itemiterator","dict_reverseitemiterator","odict_iterator","itertools.zip_longest","itertools.pairwise"].contains ty=false:=by
   rcases hty with e |e
   .rw[e];decide
   rw[e];decide
  refine W.item i s _ _ hg st fun v h' tk hv gz kk=>?_;obtain⟨c,u,hcx,rfl⟩:=hv;have I1:Inv X pins σ H {s with heap:=h',toks:=tk}:=I.jg (fun b o hb e=>kk b o (by simpa using hb) e) f0 f1 f3 f4 f5;obtain⟨oi,e,cc,dd⟩:=id gz;exact{_,rfl,tN (s:={s with heap:=h',toks:=tk}) e cc dd hno {.str ⟨#[c]⟩,H,I1,{(u),rfl},{(rfl),c,hcx,rfl},gz,fun b hb=>(hf b hb).1}}
 done:=by
  intro X hP hw hK hc i pins s σ H E I hf st hg;subst hP hw hK;obtain⟨f0,f1,f2,f3,f4,f5⟩:=hf it (by simp);have hx:x.cps[i]?=none:=aom hg;rcases hty with e |e
  .rw[e]at st;exact wpAny_pyNext_ascii_end (I.ok.hd hc) st hx fun h' eb=>{rfl,I.jg (t':=s.toks) (fun b o hb e=>eb b o hb e) f0 f1 f3 f4 f5}
  rw[e]at st;exact wpAny_pyNext_wide_end (I.ok.hd hc) st hx fun h' eb=>{rfl,I.jg (t':=s.toks) (fun b o hb e=>eb b o hb e) f0 f1 f3 f4 f5}
 self:=fun A i s Q E st h=>by
  rcases hty with e |e
  .rw[e]at st;exact wpAny_pyIter_striter_ascii st h
  rw[e]at st;exact wpAny_pyIter_striter_wide st h
def ags(te:TE):TI:=fun σ H R=>te σ H fun v H1=>∃x,v=.str x/\R (xC x) H1
theorem ak7{X:Cx}{tg e:bz}{te:TE}(he:PE X e te):PI X tg e (ags te):=by
 intro pins s σ H R I h;refine bj (he pins s σ H _ I h) fun v s1 ⟨y,H1,I1,r1,x,ex,q⟩=>?_;subst ex;obtain⟨t,rfl⟩:=r1;cases ha:x.cps.all (· <128)
 .exact wpAny_pyIter_wide ha (wB (tk:=s1.toks) I1 _ (Yh _ x t "str_iterator" (.inr rfl)) {_,Heap.get?_push_size _ rfl,rfl,rfl} q)
 exact wpAny_pyIter_ascii ha (wB (tk:=s1.toks) I1 _ (Yh _ x t "str_ascii_iterator" (.inl rfl)) {_,Heap.get?_push_size _ rfl,rfl,rfl} q)
section
variable{prog:cA}{w:ck}{A:cO}{E:af->ax->Prop}{s:ax}
theorem IA{d:U}{o:ba}{es:Array mq}{ep:Nat}{Q:af->ax->Prop}(hd:(d==lI)=false)(ho:s.heap.get? d=some o)(hc:o.ExactDict)(hdat:o.data=.dict es ep)
  (hQ:Q (.ref s.heap.objs.size) {s with heap:=s.heap.push {cls:=.type "dict_keyiterator",data:=.fields #[.ref d,.int 0 0,.int es.size 0,.int ep 0]}}):
  aY (bp prog w) A (Af (.ref d)) Q E s:=by
 have hT:s.TypeIs (.ref d) "dict":={(o),ho,hc.1};refine apL hT F.slot_dict_iter (Na F.slot_dict_iter hT F.entry_dict_iter ?_ (F.args_dict_iter_1 _));unfold Builtin.«dict.__iter__»;refine bN ?_;unfold Builtin.Dict.dictSlotNone;refine bN (wpAny_notOrdered_dict hT ?_);show aY _ _ (pure (Value.ref d)) _ _ s;refine cJ ?_;show aY _ _ (Builtin.Dict.showsAll d>>=_) _ _ s;unfold Builtin.Dict.showsAll;rw[ao (by rw[hd];exact fX)];refine bN (cJ ?_);refine bN (Zs ho hdat ?_);refine bN (Zt ho hdat ?_);refine bN (Nc (cJ {_,rfl,"dict_keyiterator",_,{_,Heap.get?_push_size _ rfl,rfl},F.slot_dict_keyiterator_next.lookup,?_}));simpa[Ag]using hQ
theorem ajl{it d:U}{i n ep:Nat}{od:ba}{es:Array mq}{en:mq}{Q:Option af->ax->Prop}(hit:s.heap.IsKeyIter it d i n ep)(hod:s.heap.get? d=some od)(hdd:od.data=.dict es ep)
  (hsz:es.size=n)(hx:es[i]?=some en)(hQ:∀h',h'.IsKeyIter it d (i+1) n ep->Heap.SameBut it s.heap h'->Q (some en.key) {s with heap:=h'}):aY (bp prog w) A (sJ (.ref it)) Q E s:=by
 obtain⟨o,ho,hc,hd⟩:=id hit;unfold sJ;refine bN (wpAny_attempt (apC (name:=Str.ofString "__next__") hit.typeIs F.slot_dict_keyiterator_next (Na F.slot_dict_keyiterator_next hit.typeIs F.entry_dict_keyiterator_next ?_ (F.args_dict_keyiterator_next_1 _))));refine bN (cJ ?_);refine bN ?_;refine bN ?_;first |refine bN (Nd hit.typeIs (cJ ?_)) |refine bN (Nf hit.typeIs (cJ ?_))
 refine bN (apE ho hd ?_);have hown:Builtin.Dict_items.ownsTuple "dict_keyiterator"=false:=by decide
 rw[ao (show ¬(Builtin.Dict_items.ownsTuple "dict_keyiterator"=true)from fun z=>fX (hown.symm.trans z))];show aY _ _ (if (Value.ref d==Value.none)=true then _ else _) _ _ s;rw[ao (show ¬((Value.ref d==Value.none)=true)from fX)];refine bN (cJ ?_);refine bN (Zs hod hdd ?_);rw[ao (by rw[hsz];simp)];refine bN (cJ ?_);refine bN (Zt hod hdd ?_);rw[ao (by simp)];refine cJ ?_;obtain⟨af2,HC⟩:=Array.getElem?_eq_some_iff.mp hx;simp only[show ¬((i:Int)<0)from by lia,cT,Yw,Array.getElem?_eq_getElem af2];refine bN ?_;first |refine bN (Nd hit.typeIs (cJ ?_)) |refine bN (Nf hit.typeIs (cJ ?_))
 refine bN (apG hit.typeIs ?_);show aY _ _ (setField (.ref it) 1 (Ag ((i:Int)+1))>>=_) _ _ s;refine bN (apN ho hd (by simp) ?_);have P1:(s.heap.update it (Obj.mapFields (·.setIfInBounds 1 (Ag ((i:Int)+1))))).IsKeyIter it d (i+1) n ep:={_,Heap.get?_update_self _ ho (Obj.isFreed_of_fields (Obj.data_mapFields hd _)),(Obj.cls_mapFields ..).trans hc,by rw[Obj.data_mapFields hd];simp[Ag]};refine bN (Zu ?_);refine bN (apG (s:={s with heap:=s.heap.update it (Obj.mapFields (·.setIfInBounds 1 (Ag ((i:Int)+1))))}) P1.typeIs ?_);show aY _ _ (pure es[i].key) _ _ _;rw[HC];exact cJ (cJ {_,rfl,cJ (hQ _ P1 (Heap.SameBut.update ..))})
theorem Jq{it d:U}{i n ep:Nat}{od:ba}{es:Array mq}{Q:Option af->ax->Prop}(hh:A.handled=none)(hit:s.heap.IsKeyIter it d i n ep)(hod:s.heap.get? d=some od)(hdd:od.data=.dict es ep)
  (hsz:es.size=n)(hge:n<=i)(hQ:∀h',Heap.ExtBut it s.heap h'->Q none {s with heap:=h'}):aY (bp prog w) A (sJ (.ref it)) Q E s:=by
 obtain⟨o,ho,hc,hd⟩:=id hit;unfold sJ;refine bN (wpAny_attempt (apC (name:=Str.ofString "__next__") hit.typeIs F.slot_dict_keyiterator_next (Na F.slot_dict_keyiterator_next hit.typeIs F.entry_dict_keyiterator_next ?_ (F.args_dict_keyiterator_next_1 _))));refine bN (cJ ?_);refine bN ?_;refine bN ?_;first |refine bN (Nd hit.typeIs (cJ ?_)) |refine bN (Nf hit.typeIs (cJ ?_))
 refine bN (apE ho hd ?_);have hown:Builtin.Dict_items.ownsTuple "dict_keyiterator"=false:=by decide
 rw[ao (show ¬(Builtin.Dict_items.ownsTuple "dict_keyiterator"=true)from fun z=>fX (hown.symm.trans z))];show aY _ _ (if (Value.ref d==Value.none)=true then _ else _) _ _ s;rw[ao (show ¬((Value.ref d==Value.none)=true)from fX)];refine bN (cJ ?_);refine bN (Zs hod hdd ?_);rw[ao (by rw[hsz];simp)];refine bN (cJ ?_);refine bN (Zt hod hdd ?_);rw[ao (by simp)];refine cJ ?_;have afU:es.size<=i:=by rwa[hsz]
 simp only[show ¬((i:Int)<0)from by lia,cT,Yw,aom afU];refine bN ?_;first |refine bN (Nd hit.typeIs (cJ ?_)) |refine bN (Nf hit.typeIs (cJ ?_))
 show aY _ _ (setField (.ref it) 0 .none>>=_) _ _ s;refine bN (apN ho hd (by simp) ?_);show aY _ _ (newExc (.type "StopIteration") []>>=_) _ _ _;refine bN ?_;simp only[newExc,newTuple];refine bN (Nc ?_ (by size_fits));refine bN (m:=apx _ _) (wpAny_of_eq (a:=Value.none) (by first |rfl |(simp only[apx];rfl)) ?_);refine Nc ?_ (by size_fits);simp only[raiseNew];refine bN (wpAny_handled ?_);rw[show A.in1.handled=none from hh];refine bN (cJ (wpAny_throw ?_));refine bN (wpAny_isInstance (T:="StopIteration") (b:=true) {_,Heap.get?_push_size _ rfl,rfl} isSubtype_stop ?_);exact cJ (hQ _ (((Heap.SameBut.update ..).extBut.push _).push _))
end
theorem IF{κ:Type}{kvs:List (κ×V)}{vs:List (κ×af)}(h:KV kvs vs):∀{i:Nat} {k:κ} {v:V},kvs[i]?=some (k,v)->∃u,vs[i]?=some (k,u)/\RelV v u:=by unfold KV at h;induction h with|nil=>intro i k v e;simp at e|@cons a b l₁ l₂ r t ih=>intro i k v e;cases i with|zero=>simp?[YK,apb]at e;subst e;refine{b.2,?_,r.2};simp?[YK];exact eU some (Prod.ext r.1.symm rfl)|succ j=>simp?[aoS]at e⊢;exact ih e
theorem akP{α β:Type}{G:α->β->Prop}{l₁:List α}{l₂:List β}(h:Paired G l₁ l₂):∀{i:Nat} {a:α},l₁[i]?=some a->∃b,l₂[i]?=some b/\G a b:=by induction h with|nil=>intro i a e;simp at e|@cons a b l₁ l₂ r t ih=>intro i a' e;cases i with|zero=>simp?[YK,apb]at e;subst e;exact{(b),rfl,r}|succ j=>simp?[aoS]at e⊢;exact ih e
theorem Tt{k:Key}{u:af}(h:ql k u=true):RelV (kV k) u:=by
 rcases pi h with⟨i,t,rfl,rfl⟩ |⟨x,t,rfl,rfl⟩
 .exact{(t),rfl}
 exact{(t),rfl}
section
variable{X:Cx}{pins:List (U×ba)}{σ:St}{H:Hp}{s:ax}{d:U}{o:ba}
theorem Inv.vH{kvs:List (Key×V)}(I:Inv X pins σ H s)(h:H d=some (.br o (.dK kvs))):
  (d==lI)=false/\s.heap.get? d=some o/\o.ExactDict/\∃(es:Array mq) (ep:Nat) (vs:List (Key×af)),o.data=.dict es ep/\es.size=kvs.length/\KV kvs vs/\s.heap.DictAt (gc X.prog X.w) d vs ep:=by
 obtain⟨hd,z,hs,vs,kv,o',es,ep,ho,hx,fF,r⟩:=I.aO d _ h;rw[hd]at ho;cases ho;refine{hs,hd,hx,es,ep,vs,fF,?_,kv,o,es,hd,hx,fF,r};have l1:=r.2.1.length;have l2:kvs.length=vs.length:=Paired.length kv;rw[Yv]at l1;lia
theorem Inv.Hk{kvs:List (List Key×V)}(I:Inv X pins σ H s)(h:H d=some (.br o (.dT kvs))):
  (d==lI)=false/\s.heap.get? d=some o/\o.ExactDict/\∃(es:Array mq) (ep:Nat),o.data=.dict es ep/\es.size=kvs.length/\∀(i:Nat) (k:List Key) (v:V),kvs[i]?=some (k,v)->∃(en:mq) (q:U),es[i]?=some en/\en.key=.ref q/\H q=some (.cH (k.map kV)):=by
 obtain⟨hd,z,hs,xs,pr,o',es,ep,ho,hx,fF,he,_⟩:=I.aO d _ h;rw[hd]at ho;cases ho;refine{hs,hd,hx,es,ep,fF,?_,fun i k v e=>?_}
 .have l1:es.size=xs.length:=size_of_entries he;have l2:kvs.length=xs.length:=Paired.length pr;lia
 obtain⟨b,hb,e1,e2,_⟩:=akP pr e;have q:=entry_at he i;rw[hb]at q;exact{_,b.2.1,q,rfl,e2}
end
def Nl(d:U)(o:ba)(kvs:List (Key×V)):It:={fun i H=>H d=some (.br o (.dK kvs))/\i<kvs.length,fun i H x H'=>H'=H/\∃k v,kvs[i]?=some (k,v)/\x=kV k,fun i H=>H d=some (.br o (.dK kvs))/\kvs.length<=i}
def Nm(d:U)(o:ba)(kvs:List (List Key×V)):It:={fun i H=>H d=some (.br o (.dT kvs))/\i<kvs.length,fun i H x H'=>H'=H/\∃(k:List Key) (v:V) (q:U),kvs[i]?=some (k,v)/\x=.ref q/\H q=some (.cH (k.map kV)),fun i H=>H d=some (.br o (.dT kvs))/\kvs.length<=i}
def Nk(d:U)(o:ba)(kvs:List (Key×V)):It:={fun i H=>H d=some (.br o (.dK kvs))/\i<kvs.length,fun i H x H'=>H'=H/\∃k,kvs[i]?=some (k,x),fun i H=>H d=some (.br o (.dK kvs))/\kvs.length<=i}
theorem vp{o:ba}{es iZ:Array mq}{ep mH:Nat}(h:o.data=.dict es ep)(h':o.data=.dict iZ mH):iZ=es/\mH=ep:=by rw[h]at h';cases h';exact{(rfl),rfl}
section
variable{P:cA}{w:ck}{K:bn}{tg:bz}{d:U}{o:ba}{es:Array mq}{ep:Nat}
theorem anp{kvs:List (Key×V)}(it:U)(hod:o.data=.dict es ep):pU P w K tg (Nl d o kvs) [it] it (fun i h=>h.IsKeyIter it d i kvs.length ep) where
 mem:=by simp
 obj:=fun i h st b hb=>by
  have e:b=it:=by simpa using hb
  subst e;obtain⟨oi,e,c,dd⟩:=st;exact{oi,e,fun v z=>by rw[dd]at z;cases z}
 keep:=fun i h h' st k=>st.at fun oi e=>k it (by simp) oi e
 item:=by intro X hP hw hK hc i pins s σ H E I hf st hg;subst hP hw hK;obtain⟨hd,hi⟩:=hg;obtain⟨f0,f1,f2,f3,f4,f5⟩:=hf it (by simp);obtain⟨hs,lX,hx,iZ,mH,vs,fF,hsz,kv,hm⟩:=I.vH hd;obtain⟨rfl,rfl⟩:=vp hod fF;obtain⟨⟨k,v⟩,nZ⟩:∃p,kvs[i]?=some p:={kvs[i],gU hi};obtain⟨u,hu,ru⟩:=IF kv nZ;have hl:kvs.length=vs.length:=Paired.length kv;rw[hl]at st;refine apM st hm hu fun key h' tP gz sb=>?_;have I1:Inv X pins σ H {s with heap:=h'}:=I.jg (t':=s.toks) (fun b ob hb e=>(sb.2 b hb).trans e) f0 f1 f3 f4 f5;obtain⟨oi,e,c,dd⟩:=id gz;refine{key,rfl,tN (s:={s with heap:=h'}) e c dd (by decide) {kV k,H,I1,Tt (show ql k key=true from tP),{(rfl),k,v,nZ,rfl},?_,fun b hb=>(hf b hb).1}};show h'.IsKeyIter it d (i+1) kvs.length _;rwa[hl]
 done:=by intro X hP hw hK hc i pins s σ H E I hf st hg;subst hP hw hK;obtain⟨hd,hi⟩:=hg;obtain⟨f0,f1,f2,f3,f4,f5⟩:=hf it (by simp);obtain⟨hs,lX,hx,iZ,mH,vs,fF,hsz,kv,hm⟩:=I.vH hd;obtain⟨rfl,rfl⟩:=vp hod fF;exact Jq (I.ok.hd hc) st lX fF hsz hi fun h' eb=>{rfl,I.jg (t':=s.toks) (fun b ob hb e=>eb b ob hb e) f0 f1 f3 f4 f5}
 self:=fun A i s Q E st h=>apK st h
theorem anq{kvs:List (List Key×V)}(it:U)(hod:o.data=.dict es ep):pU P w K tg (Nm d o kvs) [it] it (fun i h=>h.IsKeyIter it d i kvs.length ep) where
 mem:=by simp
 obj:=fun i h st b hb=>by
  have e:b=it:=by simpa using hb
  subst e;obtain⟨oi,e,c,dd⟩:=st;exact{oi,e,fun v z=>by rw[dd]at z;cases z}
 keep:=fun i h h' st k=>st.at fun oi e=>k it (by simp) oi e
 item:=by intro X hP hw hK hc i pins s σ H E I hf st hg;subst hP hw hK;obtain⟨hd,hi⟩:=hg;obtain⟨f0,f1,f2,f3,f4,f5⟩:=hf it (by simp);obtain⟨hs,lX,hx,iZ,mH,fF,hsz,EY⟩:=I.Hk hd;obtain⟨rfl,rfl⟩:=vp hod fF;obtain⟨⟨k,v⟩,nZ⟩:∃p,kvs[i]?=some p:={kvs[i],gU hi};obtain⟨en,q,HC,tP,hq⟩:=EY i k v nZ;refine ajl st lX fF hsz HC fun h' gz sb=>?_;have I1:Inv X pins σ H {s with heap:=h'}:=I.jg (t':=s.toks) (fun b ob hb e=>(sb.2 b hb).trans e) f0 f1 f3 f4 f5;obtain⟨oi,e,c,dd⟩:=id gz;exact{en.key,rfl,tN (s:={s with heap:=h'}) e c dd (by decide) {.ref q,H,I1,tP,{(rfl),k,v,q,nZ,rfl,hq},gz,fun b hb=>(hf b hb).1}}
 done:=by intro X hP hw hK hc i pins s σ H E I hf st hg;subst hP hw hK;obtain⟨hd,hi⟩:=hg;obtain⟨f0,f1,f2,f3,f4,f5⟩:=hf it (by simp);obtain⟨hs,lX,hx,iZ,mH,fF,hsz,EY⟩:=I.Hk hd;obtain⟨rfl,rfl⟩:=vp hod fF;exact Jq (I.ok.hd hc) st lX fF hsz hi fun h' eb=>{rfl,I.jg (t':=s.toks) (fun b ob hb e=>eb b ob hb e) f0 f1 f3 f4 f5}
 self:=fun A i s Q E st h=>by refine apL st.typeIs F.slot_dict_keyiterator_iter (Na F.slot_dict_keyiterator_iter st.typeIs F.entry_dict_keyiterator_iter ?_ (F.args_dict_keyiterator_iter_1 _));show aY _ _ (ret (.ref it)) _ _ s;exact cJ {_,rfl,"dict_keyiterator",_,st.typeIs,F.slot_dict_keyiterator_next.lookup,h}
theorem anu{kvs:List (Key×V)}(it:U)(hod:o.data=.dict es ep):pU P w K tg (Nk d o kvs) [it] it (fun i h=>h.IsValIter it d i kvs.length ep) where
 mem:=by simp
 obj:=fun i h st b hb=>by
  have e:b=it:=by simpa using hb
  subst e;obtain⟨oi,e,c,dd⟩:=st;exact{oi,e,fun v z=>by rw[dd]at z;cases z}
 keep:=fun i h h' st k=>st.at fun oi e=>k it (by simp) oi e
 item:=by intro X hP hw hK hc i pins s σ H E I hf st hg;subst hP hw hK;obtain⟨hd,hi⟩:=hg;obtain⟨f0,f1,f2,f3,f4,f5⟩:=hf it (by simp);obtain⟨hs,lX,hx,iZ,mH,vs,fF,hsz,kv,hm⟩:=I.vH hd;obtain⟨rfl,rfl⟩:=vp hod fF;obtain⟨⟨k,v⟩,nZ⟩:∃p,kvs[i]?=some p:={kvs[i],gU hi};obtain⟨u,hu,ru⟩:=IF kv nZ;have hl:kvs.length=vs.length:=Paired.length kv;rw[hl]at st;refine wpAny_pyNext_values_item st hm hu fun h' gz sb=>?_;have I1:Inv X pins σ H {s with heap:=h'}:=I.jg (t':=s.toks) (fun b ob hb e=>(sb.2 b hb).trans e) f0 f1 f3 f4 f5;obtain⟨oi,e,c,dd⟩:=id gz;refine{u,rfl,tN (s:={s with heap:=h'}) e c dd (by decide) {v,H,I1,ru,{(rfl),k,nZ},?_,fun b hb=>(hf b hb).1}};show h'.IsValIter it d (i+1) kvs.length _;rwa[hl]
 done:=by intro X hP hw hK hc i pins s σ H E I hf st hg;subst hP hw hK;obtain⟨hd,hi⟩:=hg;obtain⟨f0,f1,f2,f3,f4,f5⟩:=hf it (by simp);obtain⟨hs,lX,hx,iZ,mH,vs,fF,hsz,kv,hm⟩:=I.vH hd;obtain⟨rfl,rfl⟩:=vp hod fF;have hl:kvs.length=vs.length:=Paired.length kv;rw[hl]at st;exact wpAny_pyNext_values_end (I.ok.hd hc) st hm (YL (by lia)) fun h' eb=>{rfl,I.jg (t':=s.toks) (fun b ob hb e=>eb b ob hb e) f0 f1 f3 f4 f5}
 self:=fun A i s Q E st h=>wpAny_pyIter_valiter st h
end
def QC(td:TE):TI:=fun σ H R=>td σ H fun x H1=>∃d o,x=.ref d/\((∃kvs,H1 d=some (.br o (.dK kvs))/\R (Nl d o kvs) H1)∨∃kvs,H1 d=some (.br o (.dT kvs))/\R (Nm d o kvs) H1)
def agu(td:TE):TI:=fun σ H R=>td σ H fun x H1=>∃d o kvs,x=.ref d/\H1 d=some (.br o (.dK kvs))/\R (Nk d o kvs) H1
section
variable{X:Cx}{tg e:bz}{td:TE}{apos cpos:cS}
theorem CL(he:PE X e td):PI X tg e (QC td):=by
 intro pins s σ H R I h;refine bj (he pins s σ H _ I h) fun u s1 ⟨x,H1,I1,rx,d,o,ex,q⟩=>?_;subst ex;obtain rfl:u=Value.ref d:=rx;rcases q with⟨kvs,hd,q⟩ |⟨kvs,hd,q⟩
 .obtain⟨hs,lX,hx,es,ep,vs,fF,hsz,kv,hm⟩:=I1.vH hd;refine IA hs lX hx fF (wB (tk:=s1.toks) I1 _ (anp _ fF) {_,Heap.get?_push_size _ rfl,rfl,?_} q);rw[hsz]<;>rfl
 obtain⟨hs,lX,hx,es,ep,fF,hsz,EY⟩:=I1.Hk hd;refine IA hs lX hx fF (wB (tk:=s1.toks) I1 _ (anq _ fF) {_,Heap.get?_push_size _ rfl,rfl,?_} q);rw[hsz]<;>rfl
theorem ak8(he:PE X e td)(hbase:autoParam (xr e "values" X.env (cB e X.env)=cB e X.env) _L.aR)(hline:autoParam ((apos.endLine==cpos.line)=true) _L.aR):PI X tg (.Call (.Attribute e "values" apos) [] [] cpos) (agu td):=by
 intro pins s σ H R I h;refine MZ (T:="dict") (id:="dict.values") hbase rfl hline F.plainAttrs_dict F.slot_dict_values F.type_dict_values (bj (he pins s σ H _ I h) fun u s1 ⟨x,H1,I1,rx,d,o,kvs,ex,hd,q⟩=>?_);subst ex;obtain rfl:u=Value.ref d:=rx;obtain⟨hs,lX,hx,es,ep,vs,fF,hsz,kv,hm⟩:=I1.vH hd;have hl:kvs.length=vs.length:=Paired.length kv;refine{hm.dictOf.typeIs,hm.dictOf.mapOf.noDict,?_};have I2:Inv X pins σ H1 {s1 with heap:=s1.heap.push {cls:=.type "dict_values",data:=.fields #[.ref d]}}:=I1.hU (t':=s1.toks) fun b ob q=>Heap.get?_push_of_some _ q;have fin:aY (bp X.prog X.w) X.A (Af (.ref s1.heap.objs.size)) (Ei X pins σ tg R) X.xe {s1 with heap:=s1.heap.push {cls:=.type "dict_values",data:=.fields #[.ref d]}}:=by refine wpAny_pyIter_values (d:=d) (knd:=gc X.prog X.w) {_,Heap.get?_push_size _ rfl,rfl,rfl} (hm.push _) (wB (tk:=s1.toks) I2 _ (anu _ fF) {_,Heap.get?_push_size _ rfl,rfl,?_} q);rw[hl]<;>rfl
 show aY _ _ (DW cpos (.builtin "dict.values") [.ref d] [] []) _ X.xe s1;exact method_meetsIn F.slot_dict_values F.entry_dict_values rfl (apw {rfl,hm.dictOf.typeIs,F.args_dict_values_1 _,_,meets_dict_values (gc X.prog X.w) d hs,{(vs),hm.dictOf},fin})
end
end _L
section
namespace Zx
open PySem PyProof.Rows
end Zx
end
section
namespace TL
open PySem PySem.Builtin PySem.Builtin.Str PySem.StrLaws
abbrev tl(x:ac):List Nat:=x.cps.toList
theorem adP{x y:ac}(h:tl x=tl y):x=y:=Str.ext' (Array.toList_inj.mp h)
theorem ane(x y:ac):tl (x++y)=tl x++tl y:=by show(x++y).cps.toList=_;rw[Str.cps_append,Array.toList_append]
end TL
end
namespace _L
section
variable{X:Cx}{pins:List (U×ba)}{σ:St}{H:Hp}{s:ax}{Q:VK}
end
section
variable{X:Cx}
theorem mt1{id:String}{g:ac->ac->V}(rule:∀(a b:ac) (t u:ny) (s:ax) (Q:af->ax->Prop),(∀(v:af) (k:Nat),RelV (g a b) v->Q v {s with toks:=k})->
  aY (bp X.prog X.w) X.A (call (.builtin id) [.str a t,.str b u]) Q X.xe s):Al X id (fun x xs H Q=>∃a b,x=.str a/\xs=[.str b]/\Q (g a b) H):=by
 intro pins s σ H x xs v us Q I rx rs h;obtain⟨a,b,rfl,rfl,h⟩:=h;obtain⟨t,rfl⟩:=rx;cases rs with|cons r1 rs=>cases rs;obtain⟨u,rfl⟩:=r1;exact rule a b t u s _ fun v k r=>{g a b,H,I.dZ k,r,h}
theorem aii:Al X "str.startswith" (fun x xs H Q=>∃a b,x=.str a/\xs=[.str b]/\Q (.bl (Txt.startswith a b)) H):=mt1 (g:=fun a b=>.bl (Txt.startswith a b)) fun _ _ _ _ s _ h=>PySem.SC.startswith (h _ s.toks rfl)
end
section
variable{X:Cx}{o e:bz}{to te:TE}
end
end _L
namespace _L
section
variable{X:Cx}
end
end _L
end
section
namespace _L
open PySem.W (WData Codec OpenSpec Well WellAll ReadsW ReadsAllW)
mutual
inductive Dw(K:bn)(H:Hp):V->WData->Prop|aN:Dw K H .aN .none|bl (b:Bool):Dw K H (.bl b) (.bool b)|int (i:Int):Dw K H (.int i) (.int i)|str (x:ac):Dw K H (.str x) (.str x)|iX (b:Array UInt8):Dw K H (.iX b) (.bytes b.toList)|ag {a:U} {xs:List V} {ds:List WData}:aB K H a xs->mB K H xs ds->Dw K H (.ref a) (.list ds)|cH {a:U} {xs:List V} {ds:List WData}:eW K H a xs->mB K H xs ds->Dw K H (.ref a) (.tuple ds)
inductive mB(K:bn)(H:Hp):List V->List WData->Prop|nil:mB K H [] []|cons {v:V} {vs:List V} {d:WData} {ds:List WData}:Dw K H v d->mB K H vs ds->mB K H (v::vs) (d::ds)
end
theorem adA{K:bn}{H:Hp}:∀ns:List Int,mB K H (ns.map V.int) (ns.map WData.int)|[]=>.nil|n::r=>.cons (.int n) (adA r)
theorem agQ{K:bn}{H:Hp}:∀(ns:List Int) (xs:List V),mB K H xs (ns.map WData.int)->xs=ns.map V.int|[],xs,h=>by cases h;rfl|n::r,xs,h=>by cases h with|cons h1 h2=>cases h1;rw[agQ r _ h2]<;>rfl
section
variable{P:cA}{w:ck}{K:bn}{H:Hp}{h:bP}{R:apk}{cl:ac->Option U}
theorem amT{a:U}{xs:List V}(aO:dG P w H h)(KX:K.In h)(q:aB K H a xs):∃(its:List af) (o:ba) (n:Nat),bF xs its/\h.get? a=some o/\o.cls=.type "list"/\o.data=.seq its.toArray n:=by
 rcases q with q |⟨o,its,n,e,hc,_,hd,_,hv⟩
 .obtain⟨_,its,n,hv,e⟩:=(show eV P w H h a (.ag xs)from q.ok aO);exact{its,_,n,hv,e,rfl,rfl}
 exact{its.toList,o,n,hv,KX _ _ e,hc,by simp[hd]}
theorem amU{a:U}{xs:List V}(aO:dG P w H h)(KX:K.In h)(q:eW K H a xs):∃(its:List af) (o:ba) (n:Nat),bF xs its/\h.get? a=some o/\o.cls=.type "tuple"/\o.data=.seq its.toArray n:=by
 rcases q with q |⟨o,its,n,e,hc,hd,_,hv⟩
 .obtain⟨_,its,hv,o,e,hc,n,hd⟩:=(show eV P w H h a (.cH xs)from q.ok aO);exact{(its),o,n,hv,e,hc,hd}
 exact{its.toList,o,n,hv,KX _ _ e,hc,by simp[hd]}
mutual
theorem Dw.wI(aO:dG P w H h)(KX:K.In h):∀(d:WData) (v:V) (u:af),Dw K H v d->RelV v u->∃as,ReadsW R cl h u d as
 |.none,_,_,x,r=>by cases x;cases r;exact{_,ReadsW.none}|.bool b,_,_,x,r=>by cases x;cases r;exact{_,ReadsW.bool b}
 |.int i,_,_,x,r=>by cases x;obtain⟨t,rfl⟩:=r;exact{_,ReadsW.int i t}|.str s,_,_,x,r=>by cases x;obtain⟨t,rfl⟩:=r;exact{_,ReadsW.str s t}
 |.bytes b,_,_,x,r=>by cases x;obtain⟨t,rfl⟩:=r;exact{_,ReadsW.bytes _ t}|.list ds,_,_,x,r=>by cases x with|ag hs ha=>cases r;obtain⟨its,o,n,rv,ho,hc,hd⟩:=amT aO KX hs;obtain⟨as,hr⟩:=Dw.ut aO KX ds _ its ha rv;exact{_,ReadsW.list ho hc hd hr}
 |.tuple ds,_,_,x,r=>by cases x with|cH hs ha=>cases r;obtain⟨its,o,n,rv,ho,hc,hd⟩:=amU aO KX hs;obtain⟨as,hr⟩:=Dw.ut aO KX ds _ its ha rv;exact{_,ReadsW.tuple ho hc hd hr}
 |.float _,_,_,x,_=>by cases x|.dict _,_,_,x,_=>by cases x
 |.bytearray _,_,_,x,_=>by cases x|.set _,_,_,x,_=>by cases x
 |.frozenset _,_,_,x,_=>by cases x|.obj _ _,_,_,x,_=>by cases x
theorem Dw.ut(aO:dG P w H h)(KX:K.In h):∀(ds:List WData) (vs:List V) (us:List af),mB K H vs ds->bF vs us->∃as,ReadsAllW R cl h us ds as|[],_,_,x,r=>by cases x;cases r;exact{_,ReadsAllW.nil}|d::ds,_,_,x,r=>by cases x with|cons h1 h2=>cases r with|cons r1 r2=>obtain⟨as,q1⟩:=Dw.wI aO KX d _ _ h1 r1;obtain⟨bs,q2⟩:=Dw.ut aO KX ds _ _ h2 r2;exact{_,ReadsAllW.cons q1 q2}
end
end
mutual
def lj:WData->Bool
 |.none=>true|.bool _=>true
 |.int _=>true|.str _=>true
 |.bytes _=>true|.list xs=>mW xs
 |.tuple xs=>mW xs|_=>false
def mW:List WData->Bool|[]=>true|x::r=>lj x&&mW r
end
theorem Td{α:Type}{f:α->WData}(h:∀a,lj (f a)=true):∀l:List α,mW (l.map f)=true|[]=>rfl|x::r=>by show(lj (f x)&&mW (r.map f))=true;rw[h x,Td h r]<;>rfl
theorem r8:∀(c:Codec) (a:c.denote),lj (c.enc a)=true
 |.unit,_=>rfl|.bool,_=>rfl
 |.int _ _,_=>rfl|.nat _ _,_=>rfl
 |.u8,_=>rfl|.bytes _ _,_=>rfl
 |.text _ _ _ _,_=>rfl|.list _ _ c,a=>Td (fun x=>r8 c x) a
 |.pair c d,a=>by show(lj (c.enc a.1)&&(lj (d.enc a.2)&&true))=true;rw[r8 c a.1,r8 d a.2]<;>rfl|.triple c d e,a=>by show(lj (c.enc a.1)&&(lj (d.enc a.2.1)&&(lj (e.enc a.2.2)&&true)))=true;rw[r8 c a.1,r8 d a.2.1,r8 e a.2.2]<;>rfl
 |.option c,none=>rfl|.option c,some x=>r8 c x
theorem Te:∀(cs:List Codec) (a:Codec.denoteAll cs),mW (Codec.encAll cs a)=true|[],_=>rfl|c::cs,a=>by show(lj (c.enc a.1)&&mW (Codec.encAll cs a.2))=true;rw[r8 c a.1,Te cs a.2]<;>rfl
theorem Mf:∀{xs:List WData} {d:WData},d∈xs->d.weight<=WData.weightAll xs
 |[],d,h=>aJ h (by simp)|x::r,d,h=>by
  show d.weight<=x.weight+1+WData.weightAll r;rcases bw.mp h with e |m
  .rw[e];lia
  have z:=Mf m;lia
noncomputable def jf:af->V
 |.none=>.aN|.bool b=>.bl b
 |.int i _=>.int i|.str x _=>.str x
 |.bytes b _=>.iX b|.ref a=>.ref a
 |_=>.aN
def lK(A:List U):af->Prop
 |.none=>True|.bool _=>True
 |.int _ _=>True|.str _ _=>True
 |.bytes _ _=>True|.ref a=>a∈A
 |_=>False
theorem lK.mono{A B:List U}(h:∀a∈A,a∈B):∀{u:af},lK A u->lK B u:=fun{u} x=>by
 cases u with
 |ref a=>exact h a x|none=>trivial
 |bool b=>trivial|int i t=>trivial
 |str s t=>trivial|bytes b t=>trivial
 |_=>exact jK x
theorem alG{A:List U}{u:af}(x:lK A u):RelV (jf u) u:=by
 cases u with
 |ref a=>rfl|none=>rfl
 |bool b=>rfl|int i t=>exact{(t),rfl}
 |str s t=>exact{(t),rfl}|bytes b t=>exact{(t),rfl}
 |_=>exact jK x
theorem wY{A:List U}:∀{vs:List af},(∀u∈vs,lK A u)->bF (vs.map jf) vs|[],_=>.nil|u::r,h=>.cons (alG (h u (eS ..))) (wY fun x hx=>h x (dq _ hx))
def mz(h:bP)(A:List U)(a:U):Prop:=∃vs:List af,vs.length<=cp/\(∀u∈vs,lK A u)/\(h.get? a=some {cls:=.type "list",data:=.seq vs.toArray}∨h.get? a=some {cls:=.type "tuple",data:=.seq vs.toArray})
theorem mz.mono{h:bP}{A B:List U}{a:U}(k:∀a∈A,a∈B)(x:mz h A a):mz h B a:=by obtain⟨vs,h1,h2,h3⟩:=x;exact{vs,h1,fun u hu=>(h2 u hu).mono k,h3}
theorem Dx{P:sC}{h:bP}:∀{vs:List af} {ds:List WData},WellAll P h vs ds->vs.length=ds.length|_,_,.nil=>rfl|_,_,.cons _ b=>by show _+1=_+1;rw[Dx b]
theorem Yr{P:sC}{h:bP}{v:af}{ds:List WData}(x:Well P h v (.list ds)):∃(a:U) (vs:List af),v=.ref a/\h.get? a=some {cls:=.type "list",data:=.seq vs.toArray}/\WellAll P h vs ds:=by cases x with|list ho jy=>exact{_,_,rfl,ho,jy}
theorem Ys{P:sC}{h:bP}{v:af}{ds:List WData}(x:Well P h v (.tuple ds)):∃(a:U) (vs:List af),v=.ref a/\h.get? a=some {cls:=.type "tuple",data:=.seq vs.toArray}/\WellAll P h vs ds:=by cases x with|tuple ho jy=>exact{_,_,rfl,ho,jy}
theorem Yq{P:sC}{h:bP}{us:List af}{d:WData}{ds:List WData}(x:WellAll P h us (d::ds)):∃(v:af) (vs:List af),us=v::vs/\Well P h v d/\WellAll P h vs ds:=by cases x with|cons a b=>exact{_,_,rfl,a,b}
theorem Rb{n:Nat}(h:n<=1048576):n<=cp:=jk h (by decide)
section
variable{P:sC}{h:bP}
mutual
theorem aaL:∀(d:WData) (v:af),Well P h v d->lj d=true->d.weight<=1048576->∃A:List U,lK A v/\∀a∈A,mz h A a
 |.none,_,x,_,_=>by cases x;exact{[],trivial,fun a m=>aJ m (by simp)}|.bool b,_,x,_,_=>by cases x;exact{[],trivial,fun a m=>aJ m (by simp)}
 |.int i,_,x,_,_=>by cases x;exact{[],trivial,fun a m=>aJ m (by simp)}|.str s,_,x,_,_=>by cases x;exact{[],trivial,fun a m=>aJ m (by simp)}
 |.bytes b,_,x,_,_=>by cases x;exact{[],trivial,fun a m=>aJ m (by simp)}|.list ds,_,x,p,z=>by
  obtain⟨a,vs,rfl,ho,jy⟩:=Yr x;have z2:WData.weightAll ds<=1048576:=z;obtain⟨A,h1,h2⟩:=Av ds _ jy p fun d hd=>jk (Mf hd) z2;have k:∀b∈A,b∈a::A:=fun b hb=>dq _ hb;refine{a::A,eS ..,fun b hb=>?_};rcases bw.mp hb with e |m
  .rw[e];exact{vs,Rb (by rw[Dx jy];exact jk (apt ds) z2),fun u hu=>(h1 u hu).mono k,.inl ho}
  exact(h2 b m).mono k
 |.tuple ds,_,x,p,z=>by
  obtain⟨a,vs,rfl,ho,jy⟩:=Ys x;have z2:WData.weightAll ds<=1048576:=z;obtain⟨A,h1,h2⟩:=Av ds _ jy p fun d hd=>jk (Mf hd) z2;have k:∀b∈A,b∈a::A:=fun b hb=>dq _ hb;refine{a::A,eS ..,fun b hb=>?_};rcases bw.mp hb with e |m
  .rw[e];exact{vs,Rb (by rw[Dx jy];exact jk (apt ds) z2),fun u hu=>(h1 u hu).mono k,.inr ho}
  exact(h2 b m).mono k
 |.float _,_,_,p,_=>m8 (show false=true from p)|.dict _,_,_,p,_=>m8 (show false=true from p)
 |.bytearray _,_,_,p,_=>m8 (show false=true from p)|.set _,_,_,p,_=>m8 (show false=true from p)
 |.frozenset _,_,_,p,_=>m8 (show false=true from p)|.obj _ _,_,_,p,_=>m8 (show false=true from p)
theorem Av:∀(ds:List WData) (vs:List af),WellAll P h vs ds->mW ds=true->(∀d∈ds,d.weight<=1048576)->∃A:List U,(∀u∈vs,lK A u)/\∀a∈A,mz h A a
 |[],_,x,_,_=>by cases x;exact{[],fun u m=>aJ m (by simp),fun a m=>aJ m (by simp)}|d::ds,_,x,p,z=>by
  obtain⟨v,vs,rfl,x1,x2⟩:=Yq x;have q:lj d=true/\mW ds=true:=aon.mp p;obtain⟨A,a1,a2⟩:=aaL d v x1 q.1 (z d (eS ..));obtain⟨B,b1,b2⟩:=Av ds vs x2 q.2 fun e he=>z e (dq _ he);have kA:∀b∈A,b∈A++B:=fun b hb=>cz.mpr (.inl hb);have kB:∀b∈B,b∈A++B:=fun b hb=>cz.mpr (.inr hb);refine{A++B,fun u hu=>?_,fun b hb=>?_}
  .rcases bw.mp hu with e |m
   .rw[e];exact a1.mono kA
   exact(b1 u m).mono kB
  rcases cz.mp hb with m |m
  .exact(a2 b m).mono kA
  exact(b2 b m).mono kB
end
end
def Bu(o:ba):Option HO:=match o.data with|.seq vs _=>if (o.cls==Value.type "list")=true then some (.br o (.ag (vs.toList.map jf)))else some (.br o (.cH (vs.toList.map jf)))|_=>none
def il(K:bn)(h:bP)(A:List U):Hp:=fun b=>if b∈A then (if (K.lookup b).isNone=true then (h.get? b).bind Bu else none)else none
def xD(H:Hp):Prop:=∀b,H b=none∨∃o u,H b=some (.br o u)
theorem Qc(vs:List af):Bu {cls:=.type "list",data:=.seq vs.toArray}=some (.br {cls:=.type "list",data:=.seq vs.toArray} (.ag (vs.map jf))):=by show(if (Value.type "list"==Value.type "list")=true then some (HO.br {cls:=.type "list",data:=.seq vs.toArray} (.ag (vs.toArray.toList.map jf)))else some (HO.br {cls:=.type "list",data:=.seq vs.toArray} (.cH (vs.toArray.toList.map jf))))=_;rw[az (beq_self_eq_true _)]
theorem Qe(vs:List af):Bu {cls:=.type "tuple",data:=.seq vs.toArray}=some (.br {cls:=.type "tuple",data:=.seq vs.toArray} (.cH (vs.map jf))):=by show(if (Value.type "tuple"==Value.type "list")=true then some (HO.br {cls:=.type "tuple",data:=.seq vs.toArray} (.ag (vs.toArray.toList.map jf)))else some (HO.br {cls:=.type "tuple",data:=.seq vs.toArray} (.cH (vs.toArray.toList.map jf))))=_;rw[ao (by decide)]
section
variable{P:cA}{w:ck}{K:bn}{h:bP}{A:List U}
theorem Aw{b:U}{o:ba}(hb:b∈A)(hk:K.lookup b=none)(e:h.get? b=some o):il K h A b=Bu o:=by unfold il;rw[az hb,hk,az (show(none:Option ba).isNone=true from rfl),e]<;>rfl
theorem ajy{b:U}{u:HO}(q:il K h A b=some u):b∈A/\K.lookup b=none:=by
 unfold il at q;by_cases hb:b∈A
 .rw[az hb]at q;cases hk:K.lookup b with|none=>exact{(hb),rfl}|some o=>rw[hk,ao (by simp)]at q;cases q
 rw[ao hb]at q;cases q
theorem Ax(ar:∀a∈A,mz h A a){b:U}{u:HO}(q:il K h A b=some u):K.lookup b=none/\∃vs:List af,vs.length<=cp/\(∀u∈vs,lK A u)/\
  ((h.get? b=some {cls:=.type "list",data:=.seq vs.toArray}/\u=.br {cls:=.type "list",data:=.seq vs.toArray} (.ag (vs.map jf)))∨(h.get? b=some {cls:=.type "tuple",data:=.seq vs.toArray}/\u=.br {cls:=.type "tuple",data:=.seq vs.toArray} (.cH (vs.map jf)))):=by
 obtain⟨hb,hk⟩:=ajy q;obtain⟨vs,h1,h2,h3⟩:=ar b hb;refine{hk,vs,h1,h2,?_};rcases h3 with e |e
 .rw[Aw hb hk e,Qc]at q;exact .inl {e,(nj q).symm}
 rw[Aw hb hk e,Qe]at q;exact .inr {e,(nj q).symm}
theorem aaN(ar:∀a∈A,mz h A a):xD (il K h A):=fun b=>by
 cases q:il K h A b with
 |none=>exact .inl rfl|some u=>
  obtain⟨_,vs,_,_,⟨_,e⟩ |⟨_,e⟩⟩:=Ax ar q
  .exact .inr {_,_,by rw[e]}
  exact .inr {_,_,by rw[e]}
theorem aaM(ar:∀a∈A,mz h A a):dG P w (il K h A) h:=fun b u q=>by
 obtain⟨_,vs,h1,h2,⟨e,rfl⟩ |⟨e,rfl⟩⟩:=Ax ar q
 .exact{e,by rw[bL];exact h1,vs,_,wY h2,e}
 exact{e,by rw[bL];exact h1,vs,wY h2,_,e,rfl,_,rfl}
theorem C3{c c':af}{vs us:List af}(e:(some {cls:=c,data:=.seq vs.toArray}:Option ba)=some {cls:=c',data:=.seq us.toArray}):c=c'/\vs=us:=by
 have e1:=nj e;have e2:c=c':=eU Obj.cls e1;have e3:Data.seq vs.toArray=Data.seq us.toArray:=eU Obj.data e1;injection e3 with e4
 refine{e2,?_};have e5:=eU Mj e4;simpa using e5
theorem aaO(KX:K.In h)(ar:∀a∈A,mz h A a){a:U}{vs:List af}(ha:a∈A)(e:h.get? a=some {cls:=.type "list",data:=.seq vs.toArray}):(∀u∈vs,lK A u)/\aB K (il K h A) a (vs.map jf):=by
 obtain⟨us,h1,h2,h3⟩:=ar a ha;have hu:us=vs:=by
  rcases h3 with q |q
  .rw[e]at q;exact(C3 q).2.symm
  rw[e]at q;exact aJ (Value.type.inj (C3 q).1) (by decide)
 subst hu;refine{h2,?_};cases hk:K.lookup a with|none=>exact .inl (.inr {_,by rw[Aw ha hk e,Qc]})|some o=>have e2:=KX a o hk;rw[e]at e2;obtain rfl:=nj e2;exact .inr {_,us.toArray,_,hk,rfl,rfl,rfl,by rw[gW];exact h1,by simpa using wY h2}
theorem aaP(KX:K.In h)(ar:∀a∈A,mz h A a){a:U}{vs:List af}(ha:a∈A)(e:h.get? a=some {cls:=.type "tuple",data:=.seq vs.toArray}):(∀u∈vs,lK A u)/\eW K (il K h A) a (vs.map jf):=by
 obtain⟨us,h1,h2,h3⟩:=ar a ha;have hu:us=vs:=by
  rcases h3 with q |q
  .rw[e]at q;exact aJ (Value.type.inj (C3 q).1) (by decide)
  rw[e]at q;exact(C3 q).2.symm
 subst hu;refine{h2,?_};cases hk:K.lookup a with|none=>exact .inl (.inr {_,by rw[Aw ha hk e,Qe]})|some o=>have e2:=KX a o hk;rw[e]at e2;obtain rfl:=nj e2;exact .inr {_,us.toArray,_,hk,rfl,rfl,by rw[gW];exact h1,by simpa using wY h2}
mutual
theorem adB{Pm:sC}(KX:K.In h)(ar:∀a∈A,mz h A a):∀(d:WData) (v:af),Well Pm h v d->lj d=true->lK A v->Dw K (il K h A) (jf v) d
 |.none,_,x,_,_=>by cases x;exact .aN|.bool b,_,x,_,_=>by cases x;exact .bl b
 |.int i,_,x,_,_=>by cases x;exact .int i|.str s,_,x,_,_=>by cases x;exact .str s
 |.bytes b,_,x,_,_=>by cases x;have z:=Dw.iX (K:=K) (H:=il K h A) b.toArray;exact z|.list ds,_,x,p,hu=>by obtain⟨a,vs,rfl,ho,jy⟩:=Yr x;obtain⟨h2,hs⟩:=aaO KX ar hu ho;exact .ag hs (AM KX ar ds _ jy p h2)
 |.tuple ds,_,x,p,hu=>by obtain⟨a,vs,rfl,ho,jy⟩:=Ys x;obtain⟨h2,hs⟩:=aaP KX ar hu ho;exact .cH hs (AM KX ar ds _ jy p h2)|.float _,_,_,p,_=>m8 (show false=true from p)
 |.dict _,_,_,p,_=>m8 (show false=true from p)|.bytearray _,_,_,p,_=>m8 (show false=true from p)
 |.set _,_,_,p,_=>m8 (show false=true from p)|.frozenset _,_,_,p,_=>m8 (show false=true from p)
 |.obj _ _,_,_,p,_=>m8 (show false=true from p)
theorem AM{Pm:sC}(KX:K.In h)(ar:∀a∈A,mz h A a):∀(ds:List WData) (vs:List af),WellAll Pm h vs ds->mW ds=true->(∀u∈vs,lK A u)->mB K (il K h A) (vs.map jf) ds|[],_,x,_,_=>by cases x;exact .nil|d::ds,_,x,p,hu=>by obtain⟨v,vs,rfl,x1,x2⟩:=Yq x;have q:lj d=true/\mW ds=true:=aon.mp p;exact .cons (adB KX ar d v x1 q.1 (hu _ (eS ..))) (AM KX ar ds vs x2 q.2 fun u m=>hu u (dq _ m))
end
end
theorem amS{P:cA}{w:ck}{K:bn}{mg mb:ac->Option af}{CX:lJ}{k:Nat}{fa:U}{fd:mw}{ps:List ac}{sp:Sp}{s₁:ax}{vals:List af}{ds:List WData}{R:apk}{cl:ac->Option U}{d0:WData}
  (KX:K.In s₁.heap)(hns:s₁.heap.Ns jp mg)(hb:s₁.heap.Ns Zj mb)(hbb:∀x:ac,x≠"__name__"->mb x=my x)(hlim:s₁.heap.NoLimit)(hg:s₁.gens=#[])
  (hwl:WellAll w.params s₁.heap vals ds)(hpl:mW ds=true)(hwt:∀d∈ds,d.weight<=1048576)(hr:dR k Aa)
  (F:∀base:bP,K.In base->base.Ns jp mg->jQ P w K mg base CX k fa fd ps sp)(hbind:∀(s:ax) (us:List af),us.length=ps.length->z6 s fd {us,[]} (ps.zip us))(hlen:ds.length=ps.length)
  (hsp:∀(H:Hp) (xs:List V),xD H->mB K H xs ds->sp xs H (fun v H'=>Dw K H' v d0) fun _ _ _=>False)
  (hCX:∀H e s',CX [] H s₁ (fun _ _ _=>False) e s'->False):
  sI (bp P w) Aa (.call (.ref fa) {vals,[]}) (fun r s'=>∃u as,r=.ok (.ret u)/\ReadsW R cl s'.heap u d0 as/\OldK s₁.heap s'.heap/\s'.os=s₁.os/\xp s'.gens) s₁:=by
 obtain⟨A,ho,ar⟩:=Av ds vals hwl hpl hwt;have hO:xD (il K s₁.heap A):=aaN ar;have aO:dG P w (il K s₁.heap A) s₁.heap:=aaM ar;have hS:=AM KX ar ds vals hwl hpl ho;have hV:=wY ho;have hK:∀b u,il K s₁.heap A b=some u->K.lookup b=none:=fun b u q=>(Ax ar q).1;have noA:∀{b:U} {o:ba} {es:Array mq} {ep:Nat},s₁.heap.get? b=some o->o.data=.dict es ep->il K s₁.heap A b=none:=fun{b o es ep} e d=>by
  cases q:il K s₁.heap A b with
  |none=>rfl|some u=>
   obtain⟨_,vs,_,_,⟨e2,_⟩ |⟨e2,_⟩⟩:=Ax ar q
   .rw[e2]at e;cases e;have d':Data.seq vs.toArray _=Data.dict es ep:=d;cases d'
   rw[e2]at e;cases e;have d':Data.seq vs.toArray _=Data.dict es ep:=d;cases d'
 generalize il K s₁.heap A=H at hO aO hS hK noA;have base_of:∀{b:U} {o:ba},s₁.heap.get? b=some o->H b=none->(qg s₁.heap H).get? b=some o:=fun e n=>afW e n;have nsK:∀{b:U} {m:ac->Option af},s₁.heap.Ns b m->(qg s₁.heap H).Ns b m:=fun{b m} ⟨o,es,ep,e,d,r⟩=>{o,es,ep,base_of e (noA e d),d,r};have nK:∀b o,K.lookup b=some o->H b=none:=fun b o e=>by cases q:H b with|none=>rfl|some u=>rw[hK b u q]at e;cases e
 have Px:K.In (qg s₁.heap H):=fun b o e=>base_of (KX b o e) (nK b o e);have hM:Mod K mg (qg s₁.heap H):=⟨Px,nsK hns,{mb,nsK hb,hbb},let ⟨mc,h1,h2⟩:=hlim;{mc,nsK h1,h2}⟩;have e0:sP P w K mg (qg s₁.heap H) Aa [] s₁ H:={rfl,hM,fun b o e=>ajz e,MB (afX _ _),trivial,fun b hb=>aJ (show b∈([]:List U)from hb) (by simp),aO,.of_eq hg};have hl:vals.length=ps.length:=by rw[Dx hwl];exact hlen
 refine Ab ((F _ Px (nsK hns)).run Aa [] s₁ H {vals,[]} vals (vals.map jf) _ _ hr e0 (hbind s₁ vals hl) hV (hsp H _ hO hS)) fun r s' x=>?_;cases r with
 |error e=>exact(hCX H e s' x).elim|ok fl=>
  cases fl with
  |next=>exact jK x|brk=>exact jK x
  |cont=>exact jK x|ret u=>
   obtain⟨v,H',os,gZ,un,Qg,r',q⟩:=x;have hU:∀b o,s₁.heap.get? b=some o->s'.heap.get? b=some o:=fun b o e=>by
    cases q2:H b with
    |none=>exact un.keep b o e q2 (by intro z;exact aJ (show b∈([]:List U)from z) (by simp)) (by simp)|some u2=>
     rcases hO b with z |⟨ob,u3,z⟩
     .rw[q2]at z;cases z
     have z2:=un.nW b ob _ z;obtain⟨e1,_⟩:=aO b _ z;obtain⟨e2,_⟩:=Qg b _ z2;rw[e]at e1;cases e1;exact e2
   have ZI:K.In s'.heap:=fun b o e=>hU b o (KX b o e);obtain⟨as,o8⟩:=Dw.wI (R:=R) (cl:=cl) Qg ZI d0 v u q r';exact{u,as,rfl,o8,OldK.of_keep hU,os,gZ}
theorem ahr{ds:List WData}(h:WData.layableAll ds=true):∀d∈ds,d.weight<=1048576:=fun d hd=>(PySem.W.layableW_iff.mp (zO.mp h d hd)).2.2
theorem OH:∀(cs:List Codec) (a:Codec.denoteAll cs),(Codec.encAll cs a).length=cs.length|[],_=>rfl|c::cs,a=>by show(Codec.encAll cs a.2).length+1=cs.length+1;rw[OH cs a.2]
theorem anD{r:OpenSpec}{k:Nat}{q:cA}{IN:List ac}{XP:(ac->Option af)->bP->Prop}{YP:ck->bP->Prop}{d:DefRec}{K:sC->bn}{CX:ck->lJ}{ps:List ac}{sp:ck->Sp}
  (hwell:r.wellSaid=true)(hdf:d.params.defaults=[])(hlen:r.args.length=ps.length)(hr:dR k Aa)
  (hY:∀(w:ck) (h:bP),YP w h->(K w.params).In h)
  (F:∀(w:ck) (mg:ac->Option af) (fa:U) (h:bP),YP w h->(K w.params).In h->h.Ns jp mg->mg d.name=some (.ref fa)->∃fd:mw,(∀(s:ax) (us:List af),us.length=ps.length->z6 s fd {us,[]} (ps.zip us))/\∀base:bP,(K w.params).In base->base.Ns jp mg->jQ r.prog w (K w.params) mg base (CX w) k fa fd ps (sp w))
  (hsp:∀(w:ck) (H:Hp) (xs:List V) (a:Codec.denoteAll r.args),xD H->Codec.withinAll r.args a=true->Codec.app r.args r.asked a=true->mB (K w.params) H xs (Codec.encAll r.args a)->sp w xs H (fun v H'=>Dw (K w.params) H' v (r.ret.enc (Codec.app r.args r.f a))) fun _ _ _=>False)
  (hCX:∀(w:ck) (H:Hp) (s:ax) (e:af) (s':ax),CX w [] H s (fun _ _ _=>False) e s'->False):
  apl q IN XP YP r d [] (fun f vs=>apv f vs):=by
 intro w gy s₁ mg mb G Y fa o pm cd doc dV kV ho hd hcd hD hmg hg args vals as agg af0 o8 hwl hlo;obtain⟨a,e1,e2⟩:=PySem.W.os_pre_some agg;obtain⟨e3,Ig⟩:=Codec.encAll_of_decAll r.args args a e1;subst e3;have KX:=hY w _ Y;obtain⟨fd,hb,hF⟩:=F w mg fa _ Y KX G.T.g hmg;refine PySem.W.enter_call (Ab (amS (R:=[]) (cl:=classAt gy.heap) (d0:=r.ret.enc (Codec.app r.args r.f a)) KX G.T.g G.T.b G.T.builtins G.T.nolimit hg hwl (Te _ _) (ahr af0) hr hF hb (by rw[OH];exact hlen)
  (fun H xs hO hS=>hsp w H xs a hO Ig e2 hS) fun H e s'=>hCX w H s₁ e s') fun r' s' hq=>?_)
 obtain⟨u,js,rfl,h1,h2,h3,h4⟩:=hq;exact{.inl {u,_,js,rfl,fun _=>rfl,h1,(OpenSpec.post_iff hwell Ig _ _).mpr rfl,fun z=>m8 (show false=true from z)},h2,h3,h4}
theorem ap4{r:OpenSpec}{k:Nat}{q:cA}{IN:List ac}{XP:(ac->Option af)->bP->Prop}{YP:ck->bP->Prop}{d:DefRec}{K:sC->bn}{CX:lJ}{ps:List ac}{sp:bn->Sp}
  (hwell:r.wellSaid=true)(hdf:d.params.defaults=[])(hlen:r.args.length=ps.length)(hr:dR k Aa)
  (hY:∀(w:ck) (h:bP),YP w h->(K w.params).In h)
  (F:∀(w:ck) (mg:ac->Option af) (fa:U) (h:bP),YP w h->(K w.params).In h->h.Ns jp mg->mg d.name=some (.ref fa)->∃fd:mw,(∀(s:ax) (us:List af),us.length=ps.length->z6 s fd {us,[]} (ps.zip us))/\∀base:bP,(K w.params).In base->base.Ns jp mg->jQ r.prog w (K w.params) mg base CX k fa fd ps (sp (K w.params)))
  (hsp:∀(K:bn) (H:Hp) (xs:List V) (a:Codec.denoteAll r.args),xD H->Codec.withinAll r.args a=true->Codec.app r.args r.asked a=true->mB K H xs (Codec.encAll r.args a)->sp K xs H (fun v H'=>Dw K H' v (r.ret.enc (Codec.app r.args r.f a))) fun _ _ _=>False)
  (hCX:∀(H:Hp) (s:ax) (e:af) (s':ax),CX [] H s (fun _ _ _=>False) e s'->False):
  apl q IN XP YP r d [] (fun f vs=>apv f vs):=
 anD (K:=K) (CX:=fun _=>CX) (sp:=fun w=>sp (K w.params)) hwell hdf hlen hr hY F (fun w H xs a h1 h2 h3 h4=>hsp (K w.params) H xs a h1 h2 h3 h4) fun _ H s e s'=>hCX H s e s'
end _L
end
section
namespace _L
noncomputable def bQ(s:gj)(j:Nat):gj:=match s with|.ClassDef _ _ _ body _ _ _ _ _ _ _=>body.getD j (.Pass {0,0,0,0})|_=>.Pass {0,0,0,0}
noncomputable def vn(s:gj):Arguments:=match s with|.FunctionDef _ a _ _ _ _ _ _ _ _=>a|_=>{posonlyargs:=[],args:=[],vararg:=none,kwonlyargs:=[],kw_defaults:=[],kwarg:=none,defaults:=[]}
noncomputable def qX(s:gj):List gj:=match s with|.FunctionDef _ _ b _ _ _ _ _ _ _=>b|_=>[]
noncomputable def aV(s:gj):fZ:=match s with|.FunctionDef _ _ _ _ _ _ sc _ _ _=>sc|_=>{kind:=.function,names:=[],isGenerator:=false,isCoroutine:=false}
abbrev sL:lJ:=fun _ _ _ _ _ _=>False
abbrev E0:XK:=fun _ _ _=>False
theorem y6{X:Cx}:qO sL X E0:=fun _ _ _ _ _ _ _ h=>h.elim
structure oG(K:bn)(x qual:ac)(st:gj)(f:U)(fd:mw):Prop where
 ex:∃(oc:af) (od:Option U) (kV doc pm:af) (an:Option U) (cdv ct:af) (osl:Array (Option af)),
  fd=uS x qual (vn st) (qX st) (aV st) .none kV doc pm an cdv ct/\K.lookup f=some {oc,od,.func fd,osl}/\MK K cdv qual=true
 kp:sF K (.ref f)=true
section
variable{P:cA}{w:ck}{K:bn}{mg:ac->Option af}{base:bP}
theorem oG.ok{x qual:ac}{st:gj}{f:U}{fd:mw}{N ps:List ac}{k:Nat}{sp:Sp}(F:oG K x qual st f fd)(S:aZ N ps (aV st))(bu:∀vs H Q E,sp vs H Q E->vs.length=ps.length)
  (hbody:∀(cdv:af) (A:cO) (outer:List fC) (s:ax) (H:Hp) (vs:List V) (Q:VK) (E:XK),dR k (A.deeper (qI qual (aV st) s.heap.objs.size f cdv))->sp vs H Q E->∃t,kS (qW sL P w K mg base N qual (aV st) f cdv A outer s H E).yX (qX st) t/\t {nx:=fun _ H'=>Q .aN H',rt:=Q} (start N vs) H):jQ P w K mg base sL (k+1) f fd ps sp:=by
 obtain⟨oc,od,kV,doc,pm,an,cdv,ct,osl,rfl,lk,hcd⟩:=F.ex;refine aex lk hcd S bu fun A outer s H vs Q E hr hsp=>?_;obtain⟨t,h,q⟩:=hbody cdv A outer s H vs Q E hr hsp;exact{(t),h.yX,q}
theorem oG.sY{x qual:ac}{st:gj}{f:U}{fd:mw}{ps:List ac}(F:oG K x qual st f fd)
  (h:∀(kV doc pm:af) (an:Option U) (cdv ct:af) (us:List af),us.length=ps.length->Zi (uS x qual (vn st) (qX st) (aV st) .none kV doc pm an cdv ct) {us,[]}=pure (ps.zip us)):Binds K fd ps []:=by
 obtain⟨oc,od,kV,doc,pm,an,cdv,ct,osl,rfl,lk,hcd⟩:=F.ex;exact .all (h kV doc pm an cdv ct)
theorem O7{x qual:ac}{st:gj}{f:U}{oc:af}{od an:Option U}{osl:Array (Option af)}{kV doc pm cdv ct:af}(l:K.lookup f=some {oc,od,.func (uS x qual (vn st) (qX st) (aV st) .none kV doc pm an cdv ct),osl})
  (c:MK K cdv qual=true)(k:sF K (.ref f)=true):oG K x qual st f (uS x qual (vn st) (qX st) (aV st) .none kV doc pm an cdv ct):={{(oc),od,kV,doc,pm,an,cdv,ct,osl,rfl,l,c},k}
end
theorem k5{A:cO}{k:Nat}(hr:dR k A):A.units+1<lG:=YY (Nat.add_le_add_left (by decide:1<=64) _) hr.units
section
variable{X:Cx}
theorem pv(i:Nat){x:ac}{pos:cS}(hN:autoParam (X.N[i]?=some x) _L.aR)(hv:autoParam (sW X.env.scope x) _L.aF)(hd:autoParam ((x==("__debug__":ac))=false) _L.aD)
  (hcd:autoParam ((x==("__classdict__":ac))=false) _L.aD):PE X (.Name x pos) (dz i):=ak3 hN hv hd hcd
theorem pf(i:Nat){x f:ac}{pos q:cS}(hN:autoParam (X.N[i]?=some x) _L.aR)(hv:autoParam (sW X.env.scope x) _L.aF)(hd:autoParam ((x==("__debug__":ac))=false) _L.aD)
  (hcd:autoParam ((x==("__classdict__":ac))=false) _L.aD):PE X (.Attribute (.Name x pos) f q) (kt X.K (dz i) f):=om (pv i hN hv hd hcd) rfl
theorem cN{e:bz}{te:TE}{r:List V->Hp->VK->Prop}{p pos:cS}(hc:kQ X (.builtin "len") r)(hm:X.mg "len"=none)(h:PE X e te)(hg:autoParam (Gl X "len") _L.aR)
  (he:autoParam (cX [e] X.env=(false,cB e X.env)::cX [] X.env) _L.aR):PE X (.Call (.Name "len" p) [e] [] pos) (wP r (lw te gQ)):=mU hc hg hm PySem.boot_len (aq h aA he) (he:=he)
theorem qU:kQ X (.builtin "len") (fun xs H Q=>∃a kvs,xs=[V.ref a]/\H a=some (.dK kvs)/\Q (.int kvs.length) H):=by intro pins s σ H xs us Q I r h;obtain⟨a,kvs,rfl,ha,q⟩:=h;obtain⟨u,rfl,ru⟩:=vals1 r;cases ru;exact ac4 I (.inl ha) fun t s' I'=>{.int kvs.length,H,I',{(t),rfl},q}
end
def aw(H H':Hp):Prop:=∀b o,H b=some o->H' b=some o
theorem aw.refl(H:Hp):aw H H:=fun _ _ h=>h
theorem aw.trans{H H1 H2:Hp}(a:aw H H1)(b:aw H1 H2):aw H H2:=fun c o h=>b c o (a c o h)
section
variable{κ:Type} [DecidableEq κ]
theorem anC{kvs:List (κ×V)}{k:κ}{v:V}(h:fg kvs k=some v):k∈kvs.map (·.1):=by
 have q:(kvs.any fun kv=>decide (kv.1=k))=true:=by rw[Dv,h];all_goals rfl
 obtain⟨p,hp,e⟩:=sy.mp q;exact bt.mpr {p,hp,of_decide_eq_true e}
theorem ady{p:κ×V}{r:List (κ×V)}{k:κ}(e:p.1=k):jU (p::r) k=jU r k:=by unfold jU;rw[jM,ao (by simp[e])]
theorem Ot{p:κ×V}{r:List (κ×V)}{k:κ}(e:¬ p.1=k):jU (p::r) k=p::jU r k:=by unfold jU;rw[jM,az (by simp[e])]
theorem Ou:∀{kvs:List (κ×V)} {k:κ},¬ k∈kvs.map (·.1)->jU kvs k=kvs
 |[],_,_=>rfl|p::r,k,h=>by
  have h':¬ k∈r.map (·.1):=fun m=>by obtain⟨q,hq,e⟩:=bt.mp m;exact h (bt.mpr {q,bw.mpr (Or.inr hq),e})
  rw[Ot fun e=>h (bt.mpr {p,bw.mpr (bx rfl),e}),Ou h']
theorem Oq:∀{kvs:List (κ×V)} {k:κ},(kvs.map (·.1)).Nodup->k∈kvs.map (·.1)->(jU kvs k).length+1=kvs.length
 |[],_,_,m=>by simp at m|p::r,k,h,m=>by
  have h:(p.1::r.map (·.1)).Nodup:=h;have m:k=p.1∨k∈r.map (·.1):=bw.mp m;obtain⟨h1,h2⟩:=gE.mp h;by_cases e:p.1=k
  .subst e;rw[ady rfl,Ou h1];all_goals rfl
  have m':k∈r.map (·.1):=m.resolve_left fun z=>e z.symm;have q:=Oq h2 m';rw[Ot e,bJ,bJ];lia
end
theorem aw.made{H H1:Hp}{x dx C:U}(nx:H x=ao9)(nd:H dx=ao9)(k:∀b o,(ae (ae H dx (.own x)) x (.am C dx [])) b=some o->b≠x->H1 b=some o):aw H H1:=fun b o e=>k b o (by rwa[aj (aC e nx),aj (aC e nd)]) (aC e nx)
end _L
end
end
namespace _S
section
open Kp172 (Bytes nameAt front entity okByte small digit inName blank isName ending bytesOf distinct Mark escaped write joined)
open Kp173 (Piece Part other isHole bareAttr bareElement wrongHole tooDeep tooMuch twice inside standing textIn tidy fits Shelf fill each named filled value body)
noncomputable def bU(b:aa):aa:=match b with|c::_=>if small c then (b.takeWhile dU).take 16 else []|[]=>[]
theorem C6{c:Nat}(h:small c=true):dU c=true:=by simp[dU,h]
theorem zy{p:Nat->Bool}:∀(b:aa),b.takeWhile p++b.drop (b.takeWhile p).length=b
 |[]=>rfl|c::r=>by
  by_cases h:p c=true
  .simp[kI,h,zy r]
  simp[kI,h]
theorem takeWhile_all{p:Nat->Bool}:∀(b:aa),(b.takeWhile p).all p=true
 |[]=>rfl|c::r=>by
  by_cases h:p c=true
  .simp?[kI,h,du,DE,uE];exact takeWhile_all r
  simp[kI,h]
theorem X7{p:Nat->Bool}:∀{b:aa},b.all p=true->b.takeWhile p=b|[],_=>rfl|c::r,h=>by simp?[DE,jJ]at h;simp[kI,h.1,X7 h.2]
theorem anj(b:aa):b.take (bU b).length=bU b:=by
 cases b with
 |nil=>rfl|cons c r=>
  by_cases h:small c=true
  .simp?[bU,h,du];have e:=zy (p:=dU) (c::r);generalize hw:(c::r).takeWhile dU=w at*;rw[←e];simp?[nc];rw[ao1 (by lia),List.take_eq_take_iff];lia
  simp[bU,h]
theorem Iz(b:aa):fL b=true↔∃c r,b=c::r/\small c=true/\r.all dU=true/\b.length<=16:=by cases b with|nil=>simp[fL]|cons c r=>simp[fL,and_assoc]
theorem ud(b:aa):nameAt b=if fL (b.takeWhile dU)then some (b.takeWhile dU,b.drop (b.takeWhile dU).length)else none:=rfl
theorem pq{b n r:aa}(h:nameAt b=some (n,r)):bU b=n/\b=n++r/\fL n=true/\n≠[]:=by
 rw[ud]at h;split at h
 .rename_i hi;injection h with h;injection h with h1 h2
  have e:=zy (p:=dU) b;obtain⟨c,q,e1,e2,e3,e4⟩:=(Iz _).mp hi;cases b with
  |nil=>simp at e1|cons d s=>
   by_cases hd:dU d=true
   .simp?[kI,hd,du]at e1;injection e1 with e1a e1b
    subst e1a;subst h1 h2;refine{?_,e.symm,hi,?_}
    .simp?[bU,e2,du];exact zW e4
    simp[kI,hd]
   simp[kI,hd]at e1
 cases h
theorem BL{b:aa}(h:nameAt b=none):bU b=[]∨∃c q,b.drop (bU b).length=c::q/\dU c=true:=by
 rw[ud]at h;split at h
 .cases h
 rename_i hi;cases b with
 |nil=>exact .inl rfl|cons d s=>
  by_cases hs:small d=true
  .right;have hd:=C6 hs;have e:=zy (p:=dU) (d::s);have ha:=takeWhile_all (p:=dU) (d::s);have hc:∃w,(d::s).takeWhile dU=d::w:={s.takeWhile dU,by simp[kI,hd]};simp?[bU,hs,du];generalize (d::s).takeWhile dU=w at*;obtain⟨w',rfl⟩:=hc;have hl:¬(d::w').length<=16:=fun hl=>hi ((Iz _).mpr {d,w',rfl,hs,by simp at ha;simpa using ha.2,hl});have Pp:((d::w').take 16).length=16:=by simp?[nc];lia
   rw[Pp,←e,aoJ (by lia)];have bX:16<(d::w').length:=by lia
   refine{(d::w')[16],(d::w').drop 17++List.drop (d::w').length (d::s),?_,?_}
   .rw[zP bX];rfl
   exact zO.mp ha _ (xh bX)
  left;simp[bU,hs]
theorem i9{x c:Nat}{w q:aa}(h:c≠x):front (x::w) (c::q)=none:=by simp[front,h]
theorem lV{w b r:aa}(h:front w b=some r):b=w++r:=by
 simp?[front]at h;split at h
 .rename_i e;injection h with h
  rw[←h];conv=>lhs;rw[←zV w.length b,e]
 cases h
theorem Hj(w r:aa):front w (w++r)=some r:=by simp[front]
theorem RN{b w:aa}{x:Nat}(hx:dU x=false):
  (nameAt b).bind (fun n=>(front (x::w) n.2).map fun z=>(n.1,z))=if bU b=[]then none else (front (x::w) (b.drop (bU b).length)).map fun z=>(bU b,z):=by
 cases h:nameAt b with
 |none=>
  rcases BL h with e |⟨c,q,e,hc⟩
  .simp[e]
  have:c≠x:=fun z=>by subst z;rw[hc]at hx;cases hx
  simp?[MF,e,i9 this,MH,ite_self]
 |some p=>
  obtain⟨n,r⟩:=p;obtain⟨e1,e2,e3,e4⟩:=pq h;have e5:b.drop (bU b).length=r:=by rw[e1,e2];simp
  simp[e1,e4,e1▸e5]
def jI(row:aa):aa:=if row.drop (bU row).length=[]then bU row else []
theorem Yu(row:aa):jI row=if fL row then row else []:=by
 unfold jI;by_cases h:fL row=true
 .have hw:row.takeWhile dU=row:=by
   obtain⟨c,r,rfl,h1,h2,h3⟩:=(Iz _).mp h;have:(c::r).all dU=true:=by simp[C6 h1,zO.mp h2];simpa using h2
   exact X7 this
  have hn:nameAt row=some (row,[]):=by rw[ud,hw,az h];simp
  obtain⟨e1,-,-,-⟩:=pq hn;simp[e1,h]
 rw[ao h];split
 .rename_i e;have hp:=anj row;have:bU row=row:=by have:=zV (bU row).length row;rwa[e,hp,ei]at this
  cases hn:nameAt row with
  |none=>
   rcases BL hn with z |⟨c,q,z,_⟩
   .exact z
   rw[e]at z;cases z
  |some p=>obtain⟨n,r⟩:=p;obtain⟨e1,e2,e3,e4⟩:=pq hn;rw[this]at e1;subst e1;exact aJ e3 h
 rfl
noncomputable def eB(wh:Bool):aa->Option (eF×aa)
 |[]=>none
 |c::r=>if wh=true/\c=123 then (match r with
   |123::q=>some (.lit 123,q)|_=>(nameAt r).bind fun n=>(front [125] n.2).map fun z=>(.hole n.1,z))
  else if c=38 then (entity r).map fun e=>(.lit e.1,e.2)
  else if c=60∨jh c=false then none else some (.lit c,r)
def fJ(wh:Bool)(cF:aa->Bool):Nat->aa->Option (List eF×aa)|0,_=>none|f+1,b=>if cF b=true then some ([],b)else (eB wh b).bind fun x=>(fJ wh cF f x.2).map fun y=>(x.1::y.1,y.2)
noncomputable def dD(wh:Bool):aa->Bool|[]=>true|c::r=>c==60 ||(wh&&c==123&&other r)
def ff:aa->Bool|[]=>true|c::_=>c==34
theorem akO{r:aa}(h:other r=true):nameAt r=none:=by
 cases r with
 |nil=>simp[other]at h|cons c q=>
  have:dU c=false:=by simp only[other,Mo,beq_iff_eq]at h;rcases h with(((h |h) |h) |h) |h<;>subst h<;>decide
  rw[ud];simp[kI,this,fL]
theorem S9(q:aa):eB true (123::123::q)=some (.lit 123,q):=by simp[eB]
theorem S8{r:aa}(h:∀q,r≠123::q):eB true (123::r)=(nameAt r).bind fun n=>(front [125] n.2).map fun z=>(.hole n.1,z):=by
 unfold eB;dsimp only;rw[az {(rfl),rfl}];split
 .rename_i q;exact aJ rfl (h q)
 rfl
theorem ala(f t:Nat)(q:aa)(ht:123≠t):gD (f+1) t (123::123::q)=(gD f t q).map fun x=>(.lit 123::x.1,x.2):=by simp[gD,ht]
theorem ak9(f t:Nat){r:aa}(ht:123≠t)(h:∀q,r≠123::q):gD (f+1) t (123::r)=
  if other r then (if t=60 then some ([],123::r)else none)else (nameAt r).bind fun n=>(front [125] n.2).bind fun z=>(gD f t z).map fun x=>(.hole n.1::x.1,x.2):=by
 conv=>lhs;unfold gD
 rw[ao ht,ao (by decide),ao (by decide),az rfl];split
 .rename_i q;exact aJ rfl (h q)
 split
 .rfl
 cases nameAt r with|none=>rfl|some p=>show(front [125] p.2).bind _=(front [125] p.2).bind _;cases front [125] p.2 with|none=>rfl|some z=>show(gD f t z).bind _=(gD f t z).map _;cases gD f t z<;>rfl
theorem SI{f t:Nat}{cF:aa->Bool}(ih:∀b,fJ true cF f b=gD f t b)(ht:123≠t)(r:aa)(hs:cF (123::r)=(decide (t=60)&&other r)):
  fJ true cF (f+1) (123::r)=gD (f+1) t (123::r):=by
 unfold fJ;by_cases hq:∃q,r=123::q
 .obtain⟨q,rfl⟩:=hq;rw[hs,ala f t q ht,S9];simp[other,ih]
 have hq:∀q,r≠123::q:=fun q e=>hq {(q),e};rw[hs,ak9 f t ht hq,S8 hq];by_cases ho:other r=true
 .simp?[ho,aoo,qL,du,akO ho,MF]
 simp only[Mm]at ho;simp only[ho,zG,eE,cT,ih];cases nameAt r with|none=>rfl|some p=>show((front [125] p.2).map _).bind _=(front [125] p.2).bind _;cases front [125] p.2<;>rfl
theorem SO:∀(f:Nat) (b:aa),fJ true (dD true) f b=gD f 60 b
 |0,b=>by simp[fJ,gD]|f+1,[]=>by simp[fJ,gD,dD]
 |f+1,c::r=>by
  have ih:=SO f;by_cases p9:c=123
  .subst p9;exact SI ih (by decide) r (by simp[dD])
  unfold fJ gD;by_cases eK:c=60
  .subst eK;simp[dD]
  by_cases jx:c=38
  .subst jx;simp only[dD,eB];cases e:entity r with|none=>simp|some p=>simp[ih];cases gD f 60 p.2<;>simp
  simp?[dD,eB,eK,jx,p9];cases ho:jh c with|true=>simp[eK,p9,ih]|false=>simp[eK,p9]
theorem SQ:∀(f:Nat) (b:aa),fJ true ff f b=gD f 34 b
 |0,b=>by simp[fJ,gD]|f+1,[]=>by simp[fJ,gD,ff]
 |f+1,c::r=>by
  have ih:=SQ f;by_cases p9:c=123
  .subst p9;exact SI ih (by decide) r (by simp[ff])
  unfold fJ gD;by_cases mN:c=34
  .subst mN;simp[ff]
  by_cases eK:c=60
  .subst eK;simp[ff,eB]
  by_cases jx:c=38
  .subst jx;simp only[ff,eB];cases e:entity r with|none=>simp|some p=>simp[ih];cases gD f 34 p.2<;>simp
  simp?[ff,eB,eK,jx,p9,mN];cases ho:jh c with|true=>simp[mN,eK,p9,ih]|false=>simp[mN,eK,p9]
noncomputable def lits(x:aa×aa):List eF×aa:=(x.1.map Piece.lit,x.2)
theorem SK:∀(f:Nat) (b:aa),fJ false (dD false) f b=(lE f 60 b).map lits
 |0,b=>by simp[fJ,lE]|f+1,[]=>by simp[fJ,lE,dD,lits]
 |f+1,c::r=>by
  have ih:=SK f;unfold fJ lE;by_cases eK:c=60
  .subst eK;simp[dD,lits]
  by_cases jx:c=38
  .subst jx;simp only[dD,eB];cases e:entity r with|none=>simp|some p=>simp[ih];cases lE f 60 p.2<;>simp[lits]
  simp only[dD,eB,eK,jx];cases ho:jh c with|true=>simp[eK,ih];cases lE f 60 r<;>simp[lits]|false=>simp[eK]
theorem SJ:∀(f:Nat) (b:aa),fJ false ff f b=(lE f 34 b).map lits
 |0,b=>by simp[fJ,lE]|f+1,[]=>by simp[fJ,lE,ff,lits]
 |f+1,c::r=>by
  have ih:=SJ f;unfold fJ lE;by_cases mN:c=34
  .subst mN;simp[ff,lits]
  by_cases eK:c=60
  .subst eK;simp[ff,eB]
  by_cases jx:c=38
  .subst jx;simp only[ff,eB];cases e:entity r with|none=>simp|some p=>simp[ih];cases lE f 34 p.2<;>simp[lits]
  simp only[ff,eB,eK,jx,mN];cases ho:jh c with|true=>simp[mN,eK,ih];cases lE f 34 r<;>simp[lits]|false=>simp[mN,eK]
def bB(q b:aa):Prop:=∃p,b=p++q
theorem bB.refl(b:aa):bB b b:={[],rfl}
theorem bB.trans{a b c:aa}:bB a b->bB b c->bB a c:=fun⟨p,e⟩ ⟨q,d⟩=>{q++p,by rw[d,e,fY]}
theorem bB.cons{c:Nat}{q b:aa}(h:bB q b):bB q (c::b):=by obtain⟨p,e⟩:=h;exact{c::p,by rw[e];rfl}
theorem bB.tail{c:Nat}{r b:aa}(h:bB (c::r) b):bB r b:=(bB.cons (bB.refl r)).trans h
theorem bB.bu{q b:aa}(h:bB q b):q.length<=b.length:=by obtain⟨p,e⟩:=h;simp[e]
theorem bB.drop(b:aa)(n:Nat):bB (b.drop n) b:={b.take n,(zV n b).symm}
theorem bB.Ov{q b:aa}(h:bB q b):b.drop (b.length-q.length)=q:=by obtain⟨p,e⟩:=h;rw[e];simp
theorem bB.front{w b r:aa}(h:front w b=some r):bB r b:={w,lV h}
theorem bB.dropWhile(p:Nat->Bool):∀b:aa,bB (b.dropWhile p) b
 |[]=>bB.refl _|c::r=>by
  by_cases h:p c=true
  .simp?[uI,h,du];exact(bB.dropWhile p r).cons
  simp?[uI,h];exact bB.refl _
theorem bB.nameAt{b n r:aa}(h:nameAt b=some (n,r)):bB r b/\r.length<b.length:=by obtain⟨_,e,_,hn⟩:=pq h;refine{{(n),e},?_};have:n.length≠0:=fun z=>hn (jN.mp z);rw[e];simp;lia
theorem rB{x:Nat}{w b r:aa}(h:front (x::w) b=some r):r.length<b.length:=by rw[lV h];simp;lia
def val(d:aa):Nat:=d.foldl (fun v c=>10*v+(c-48)) 0
theorem EZ(b:aa):entity b=
  (front [108,116,59] b).elim ((front [103,116,59] b).elim ((front [97,109,112,59] b).elim ((front [113,117,111,116,59] b).elim
   ((front [35] b).bind fun r=>if (r.takeWhile digit).take 3=[]then none else (front [59] (r.drop ((r.takeWhile digit).take 3).length)).bind fun q=>if jh (val ((r.takeWhile digit).take 3))=true then some (val ((r.takeWhile digit).take 3),q)else none)
   fun q=>some (34,q)) fun q=>some (38,q)) fun q=>some (62,q)) fun q=>some (60,q):=by
 unfold entity;have e1:lD "lt;"=[108,116,59]:=by decide
 have e2:lD "gt;"=[103,116,59]:=by decide
 have e3:lD "amp;"=[97,109,112,59]:=by decide
 have e4:lD "quot;"=[113,117,111,116,59]:=by decide
 simp?[Mz,List.findSome?_nil,e1,e2,e3,e4];cases h1:front [108,116,59] b with
 |some q=>rfl|none=>
  cases h2:front [103,116,59] b with
  |some q=>rfl|none=>
   cases h3:front [97,109,112,59] b with
   |some q=>rfl|none=>
    cases h4:front [113,117,111,116,59] b with
    |some q=>rfl|none=>
     simp?[MH,jm];cases b with
     |nil=>rfl|cons c r=>
      by_cases hc:c=35
      .subst hc;have hf:front [35] (35::r)=some r:=Hj [35] r;rw[hf];simp?[bM];generalize hd:r.takeWhile digit=d;have hp:=zy (p:=digit) r;rw[hd]at hp;have ha:=takeWhile_all (p:=digit) r;rw[hd]at ha;by_cases hl:d.length<=3
       .have ht:d.take 3=d:=zW hl;rw[ht];by_cases h0:d=[]
        .subst h0;simp?[du];split
         .rename_i q e;simp
         rfl
        rw[ao h0];have Pl:1<=d.length:=by
         rcases Nat.eq_zero_or_pos d.length with z |z
         .exact aJ (jN.mp z) h0
         exact z
        cases hr:r.drop d.length with
        |nil=>rfl|cons y q=>
         by_cases hy:y=59
         .subst hy;have:front [59] (59::q)=some q:=Hj [59] q;rw[this];simp?[Pl,hl,bC,bM];rfl
         rw[i9 hy];split
         .rename_i e;injection e with e _;exact aJ e hy
         rfl
       have ht:(d.take 3).length=3:=by simp?[nc];lia
       have hne:d.take 3≠[]:=fun z=>by rw[z]at ht;simp at ht
       rw[ao hne,ht];have h3:3<d.length:=by lia
       have hr:r.drop 3=d[3]::(d.drop 4++r.drop d.length):=by
        conv=>lhs;rw[←hp]
        rw[aoJ (by lia),zP h3];rfl
       have PR:digit d[3]=true:=zO.mp ha _ (xh h3);have hn:d[3]≠59:=fun z=>by rw[z]at PR;revert PR;decide
       rw[hr,i9 hn,MF];split
       .rw[ao (by lia)]
       rfl
      rw[i9 hc];simp?[MF];split
      .rename_i e;injection e with e _;exact aJ e hc
      rfl
theorem OJ{b q:aa}{v:Nat}(h:entity b=some (v,q)):bB q b/\q.length<b.length/\jh v=true:=by
 rw[EZ]at h;cases h1:front [108,116,59] b with
 |some q1=>
  rw[h1]at h;injection h with h;injection h with ha hb;subst ha hb
  exact{bB.front h1,rB h1,by decide}
 |none=>
  rw[h1]at h;cases h2:front [103,116,59] b with
  |some q1=>
   rw[h2]at h;injection h with h;injection h with ha hb;subst ha hb
   exact{bB.front h2,rB h2,by decide}
  |none=>
   rw[h2]at h;cases h3:front [97,109,112,59] b with
   |some q1=>
    rw[h3]at h;injection h with h;injection h with ha hb;subst ha hb
    exact{bB.front h3,rB h3,by decide}
   |none=>
    rw[h3]at h;cases h4:front [113,117,111,116,59] b with
    |some q1=>
     rw[h4]at h;injection h with h;injection h with ha hb;subst ha hb
     exact{bB.front h4,rB h4,by decide}
    |none=>
     rw[h4]at h;cases h5:front [35] b with
     |none=>rw[h5]at h;cases h|some r=>
      rw[h5]at h;simp?[jm,bM]at h;split at h
      .cases h
      cases h6:front [59] (r.drop ((r.takeWhile digit).take 3).length)with
      |none=>rw[h6]at h;cases h|some q1=>
       rw[h6]at h;simp?[bM]at h;split at h
       .rename_i aO;injection h with h;injection h with ha hb;subst ha hb
        have s1:=bB.front h6;have s2:=bB.drop r ((r.takeWhile digit).take 3).length;have s3:=bB.front h5;refine{(s1.trans s2).trans s3,?_,aO};have:=rB h5;have:=(s1.trans s2).bu;lia
       cases h
theorem uq{wh:Bool}{b q:aa}{p:eF}(h:eB wh b=some (p,q)):bB q b/\q.length<b.length:=by
 cases b with
 |nil=>simp[eB]at h|cons c r=>
  unfold eB at h;dsimp only at h;split at h
  .rename_i hc;split at h
   .rename_i q1;injection h with h;injection h with ha hb;subst hb
    exact{((bB.refl _).cons).cons,by simp;lia}
   cases h1:nameAt r with
   |none=>rw[h1]at h;cases h|some n=>
    rw[h1]at h;obtain⟨n1,n2⟩:=n;dsimp only[bM]at h;cases h2:front [125] n2 with
    |none=>rw[h2]at h;cases h|some z=>
     rw[h2]at h;injection h with h;injection h with ha hb;subst hb
     obtain⟨s1,l1⟩:=bB.nameAt h1;refine{((bB.front h2).trans s1).cons,?_};have:=(bB.front h2).bu;simp;lia
  split at h
  .cases h1:entity r with
   |none=>rw[h1]at h;cases h|some e=>
    rw[h1]at h;obtain⟨v,z⟩:=e;injection h with h;injection h with ha hb;subst hb
    obtain⟨s,l,_⟩:=OJ h1;exact{s.cons,by simp;lia}
  split at h
  .cases h
  injection h with h;injection h with ha hb;subst hb;exact{(bB.refl _).cons,by simp}
theorem SM{wh:Bool}{cF:aa->Bool}:∀(f g:Nat) (b:aa),b.length<f->b.length<g->fJ wh cF f b=fJ wh cF g b
 |0,_,b,h,_=>by lia|_,0,b,_,h=>by lia
 |f+1,g+1,b,hf,hg=>by
  unfold fJ;split
  .rfl
  cases h:eB wh b with|none=>rfl|some x=>obtain⟨p,q⟩:=x;have l:=(uq h).2;dsimp only[bM];rw[SM f g q (by lia) (by lia)]
def de(wh:Bool)(cF:aa->Bool)(b:aa):Option (List eF×aa):=fJ wh cF (b.length+1) b
theorem zb{wh:Bool}{cF:aa->Bool}{b:aa}(h:cF b=true):de wh cF b=some ([],b):=by unfold de fJ;rw[az h]
theorem y8{wh:Bool}{cF:aa->Bool}{b:aa}(h:cF b=false)(e:eB wh b=none):de wh cF b=none:=by unfold de fJ;rw[ao (by rw[h];decide),e];rfl
theorem za{wh:Bool}{cF:aa->Bool}{b q:aa}{p:eF}(h:cF b=false)(e:eB wh b=some (p,q)):de wh cF b=(de wh cF q).map fun y=>(p::y.1,y.2):=by
 unfold de;conv=>lhs;unfold fJ
 rw[ao (by rw[h];decide),e];dsimp only[bM];rw[SM b.length (q.length+1) q (uq e).2 (gF _)]
theorem y9{wh:Bool}{cF:aa->Bool}:∀(n:Nat) (b q:aa) (ps:List eF),b.length<=n->de wh cF b=some (ps,q)->bB q b
 |n,b,q,ps,hn,h=>by
  cases hs:cF b with
  |true=>rw[zb hs]at h;injection h with h;injection h with _ hb;subst hb;exact bB.refl _
  |false=>cases e:eB wh b with|none=>rw[y8 hs e]at h;cases h|some x=>obtain⟨p,z⟩:=x;rw[za hs e]at h;obtain⟨s1,l1⟩:=uq e;cases hz:de wh cF z with|none=>rw[hz]at h;cases h|some y=>obtain⟨ys,w⟩:=y;rw[hz]at h;injection h with h;injection h with _ hb;subst hb;cases n with|zero=>lia|succ n=>exact(y9 n z w ys (by lia) hz).trans s1
abbrev dF:=aa×List eF
def gk(wh:Bool)(r:aa):Option (dF×aa):=(nameAt r).bind fun n=>(front [61,34] n.2).bind fun q=>(de wh ff q).bind fun v=>(front [34] v.2).map fun z=>((n.1,v.1),z)
def gB(wh:Bool):Nat->aa->Option (List dF×Bool×aa)
 |0,_=>none
 |f+1,b=>(front [47,62] (b.dropWhile blank)).elim ((front [62] (b.dropWhile blank)).elim
   (if (b.dropWhile blank).length=b.length then none else (gk wh (b.dropWhile blank)).bind fun x=>(gB wh f x.2).map fun y=>(x.1::y.1,y.2.1,y.2.2))
   fun z=>some ([],false,z)) fun z=>some ([],true,z)
theorem xH{wh:Bool}{r z:aa}{a:dF}(h:gk wh r=some (a,z)):bB z r/\z.length<r.length/\fL a.1=true:=by
 unfold gk at h;cases h1:nameAt r with
 |none=>rw[h1]at h;cases h|some n=>
  obtain⟨n1,n2⟩:=n;rw[h1]at h;dsimp only[bM]at h;cases h2:front [61,34] n2 with
  |none=>rw[h2]at h;cases h|some q=>
   rw[h2]at h;dsimp only[bM]at h;cases h3:de wh ff q with
   |none=>rw[h3]at h;cases h|some v=>
    obtain⟨v1,v2⟩:=v;rw[h3]at h;dsimp only[bM]at h;cases h4:front [34] v2 with
    |none=>rw[h4]at h;cases h|some w=>
     rw[h4]at h;injection h with h;injection h with ha hb;subst ha hb
     obtain⟨s1,l1⟩:=bB.nameAt h1;have s2:=bB.front h2;have s3:=y9 _ _ _ _ (bR _) h3;have s4:=bB.front h4;have s:=((s4.trans s3).trans s2);exact⟨s.trans s1,by have:=s.bu;lia,(pq h1).2.2.1⟩
theorem Dq{wh:Bool}:∀(f g:Nat) (b:aa),b.length<f->b.length<g->gB wh f b=gB wh g b
 |0,_,b,h,_=>by lia|_,0,b,_,h=>by lia
 |f+1,g+1,b,hf,hg=>by
  unfold gB;have e:((gk wh (b.dropWhile blank)).bind fun x=>(gB wh f x.2).map fun y=>(x.1::y.1,y.2.1,y.2.2))=((gk wh (b.dropWhile blank)).bind fun x=>(gB wh g x.2).map fun y=>(x.1::y.1,y.2.1,y.2.2)):=by cases h:gk wh (b.dropWhile blank)with|none=>rfl|some x=>obtain⟨a,z⟩:=x;have l:=(xH h).2.1;have l2:=(bB.dropWhile blank b).bu;dsimp only[bM];rw[Dq f g z (by lia) (by lia)]
  rw[e]
def gh(wh:Bool)(b:aa):Option (List dF×Bool×aa):=gB wh (b.length+1) b
theorem L6{wh:Bool}{b z:aa}(h:front [47,62] (b.dropWhile blank)=some z):gh wh b=some ([],true,z):=by unfold gh gB;rw[h];rfl
theorem L9{wh:Bool}{b z:aa}(h1:front [47,62] (b.dropWhile blank)=none)(h:front [62] (b.dropWhile blank)=some z):gh wh b=some ([],false,z):=by unfold gh gB;rw[h1,h];rfl
theorem wU{wh:Bool}{b:aa}(h1:front [47,62] (b.dropWhile blank)=none)(h2:front [62] (b.dropWhile blank)=none)(h:(b.dropWhile blank).length=b.length):gh wh b=none:=by unfold gh gB;rw[h1,h2];simp[h]
theorem L7{wh:Bool}{b:aa}(h1:front [47,62] (b.dropWhile blank)=none)(h2:front [62] (b.dropWhile blank)=none)(h:gk wh (b.dropWhile blank)=none):gh wh b=none:=by unfold gh gB;rw[h1,h2,h];simp
theorem L8{wh:Bool}{b z:aa}{a:dF}(h1:front [47,62] (b.dropWhile blank)=none)(h2:front [62] (b.dropWhile blank)=none)(h3:(b.dropWhile blank).length≠b.length)(h:gk wh (b.dropWhile blank)=some (a,z)):
  gh wh b=(gh wh z).map fun y=>(a::y.1,y.2.1,y.2.2):=by
 unfold gh;conv=>lhs;unfold gB
 rw[h1,h2,h];simp?[jm,h3,cT,bM];have l:=(xH h).2.1;have l2:=(bB.dropWhile blank b).bu;rw[Dq b.length (z.length+1) z (by lia) (gF _)]
def gS(wh:Bool)(b:aa):Option (aa×List dF×Bool×aa):=(nameAt b).bind fun n=>(gh wh n.2).map fun y=>(n.1,y)
theorem Iw{c:Nat}(h:dU c=true):blank c=false/\c≠47/\c≠62:=by
 have h':(97<=c/\c<=122)∨(48<=c/\c<=57)∨c=45:=by
  simp?[dU,small,digit,Mo,jJ,qL,beq_iff_eq]at h;rcases h with(h |h) |h
  .exact .inl h
  .exact .inr (.inl h)
  exact .inr (.inr h)
 refine{?_,by lia,by lia};simp?[blank,aoq,kO];lia
theorem L4(wh:Bool)(b:aa):gS wh b=if bU b=[]then none else (gh wh (b.drop (bU b).length)).map fun y=>(bU b,y):=by
 unfold gS;cases h:nameAt b with
 |none=>
  rcases BL h with e |⟨c,q,e,hc⟩
  .simp[e]
  obtain⟨h1,h2,h3⟩:=Iw hc;have hd:(c::q).dropWhile blank=c::q:=by simp[uI,h1]
  rw[e,wU (by rw[hd];exact i9 h2) (by rw[hd];exact i9 h3) (by rw[hd])];simp
 |some p=>
  obtain⟨n,r⟩:=p;obtain⟨e1,e2,e3,e4⟩:=pq h;have e5:b.drop (bU b).length=r:=by rw[e1,e2];simp
  simp[e1,e4,e1▸e5]
theorem OI(b:aa):ending b=if bU b=[]then none else (front [62] ((b.drop (bU b).length).dropWhile blank)).map fun r=>(bU b,r):=by
 have e0:ending b=(nameAt b).bind fun n=>(front [62] (n.2.dropWhile blank)).map fun r=>(n.1,r):=by unfold ending;cases nameAt b with|none=>rfl|some n=>show(front [62] (n.2.dropWhile blank)).bind _=(front [62] (n.2.dropWhile blank)).map _;cases front [62] (n.2.dropWhile blank)<;>rfl
 rw[e0];cases h:nameAt b with
 |none=>
  rcases BL h with e |⟨c,q,e,hc⟩
  .simp[e]
  obtain⟨h1,h2,h3⟩:=Iw hc;have hd:(c::q).dropWhile blank=c::q:=by simp[uI,h1]
  rw[e,hd,i9 h3];simp
 |some p=>
  obtain⟨n,r⟩:=p;obtain⟨e1,e2,e3,e4⟩:=pq h;have e5:b.drop (bU b).length=r:=by rw[e1,e2];simp
  simp[e1,e4,e1▸e5]
noncomputable def fin{α:Type}(a:List α×aa):Option (List α×Bool×aa):=(front [47,62] a.2).elim ((front [62] a.2).map fun r=>(a.1,false,r)) fun r=>some (a.1,true,r)
theorem V7{c:Nat}(h:small c=true):c≠47/\c≠62:=(Iw (C6 h)).2
theorem RM{c:Nat}{q:aa}(h:small c=false):nameAt (c::q)=none:=by
 rw[ud];by_cases hi:dU c=true
 .simp[kI,hi,fL,h]
 simp[kI,hi,fL]
theorem NM:∀(f:Nat) (b:aa),(zL f b).bind fin=gB true f b
 |0,b=>by simp[zL,gB]|f+1,b=>by
  have ih:=NM f;unfold zL gB;dsimp only;generalize b.dropWhile blank=r;cases r with
  |nil=>simp[fin,front,gk,ud,fL]|cons c q=>
   dsimp only;cases hs:small c with
   |false=>simp?[du,bM,fin];cases front [47,62] (c::q)with|some z=>rfl|none=>simp?[jm];cases front [62] (c::q)with|some z=>rfl|none=>simp[gk,RM hs]
   |true=>
    obtain⟨h1,h2⟩:=V7 hs;rw[i9 h1,i9 h2];simp?[jm,aor,cT];split
    .rfl
    unfold gk de;cases nameAt (c::q)with|none=>rfl|some n=>simp only[ni,bM];cases front [61,34] n.2 with|none=>rfl|some q1=>simp only[bM,SQ];cases gD (q1.length+1) 34 q1 with|none=>rfl|some v=>simp only[bM];cases front [34] v.2 with|none=>rfl|some z=>simp only[bM,iD];rw[←ih z];cases zL f z with|none=>rfl|some l=>simp only[bM,fin,pure];cases front [47,62] l.2 with|some z=>rfl|none=>simp only[jm];cases front [62] l.2<;>rfl
theorem am4(b:aa):aoA b=gS true b:=by
 unfold aoA gS;cases h:nameAt b with
 |none=>rfl|some n=>
  obtain⟨n1,n2⟩:=n;simp?[ni,bM];have l:=(bB.nameAt h).2;have e:gh true n2=(zL (b.length+1) n2).bind fin:=by rw[NM];exact Dq _ _ _ (gF _) (by lia)
  rw[e];cases zL (b.length+1) n2 with|none=>rfl|some a=>simp only[bM,fin];cases front [47,62] a.2 with|some z=>rfl|none=>simp only[jm];cases front [62] a.2<;>rfl
def wf(x:aa×aa):dF:=(x.1,x.2.map Piece.lit)
theorem NN:∀(f:Nat) (b:aa),((zK f b).bind fin).map (fun y=>(y.1.map wf,y.2.1,y.2.2))=gB false f b
 |0,b=>by simp[zK,gB]|f+1,b=>by
  have ih:=NN f;unfold zK gB;dsimp only;generalize b.dropWhile blank=r;cases r with
  |nil=>simp[fin,front,gk,ud,fL]|cons c q=>
   dsimp only;cases hs:small c with
   |false=>simp?[du,bM,fin];cases front [47,62] (c::q)with|some z=>rfl|none=>simp?[jm];cases front [62] (c::q)with|some z=>rfl|none=>simp[gk,RM hs]
   |true=>
    obtain⟨h1,h2⟩:=V7 hs;rw[i9 h1,i9 h2];simp?[jm,aor,cT];split
    .rfl
    unfold gk de;cases nameAt (c::q)with|none=>rfl|some n=>simp only[ni,bM];cases front [61,34] n.2 with|none=>rfl|some q1=>simp only[bM,SJ];cases lE (q1.length+1) 34 q1 with|none=>rfl|some v=>simp only[bM,iD,lits];cases front [34] v.2 with|none=>rfl|some z=>simp only[bM,iD];rw[←ih z];cases zK f z with|none=>rfl|some l=>simp only[bM,fin,pure];cases front [47,62] l.2 with|some z=>rfl|none=>simp only[jm];cases front [62] l.2<;>rfl
theorem L3(b:aa):(uG b).map (fun y=>(y.1,y.2.1.map wf,y.2.2.1,y.2.2.2))=gS false b:=by
 unfold uG gS;cases h:nameAt b with
 |none=>rfl|some n=>
  obtain⟨n1,n2⟩:=n;simp?[ni,bM];have l:=(bB.nameAt h).2;have e:gh false n2=((zK (b.length+1) n2).bind fin).map (fun y=>(y.1.map wf,y.2.1,y.2.2)):=by rw[NN];exact Dq _ _ _ (gF _) (by lia)
  rw[e];cases zK (b.length+1) n2 with|none=>rfl|some a=>simp only[bM,fin];cases front [47,62] a.2 with|some z=>rfl|none=>simp only[jm];cases front [62] a.2<;>rfl
theorem X6{wh:Bool}:∀(f:Nat) (b:aa) (y:List dF×Bool×aa),gB wh f b=some y->bB y.2.2 b/\y.2.2.length<b.length
 |0,_,_,h=>by simp[gB]at h|f+1,b,y,h=>by
  have s:=bB.dropWhile blank b;unfold gB at h;cases h1:front [47,62] (b.dropWhile blank)with
  |some z=>
   rw[h1]at h;injection h with h;subst h
   exact{(bB.front h1).trans s,iQ (rB h1) s.bu}
  |none=>
   rw[h1]at h;cases h2:front [62] (b.dropWhile blank)with
   |some z=>
    rw[h2]at h;injection h with h;subst h
    exact{(bB.front h2).trans s,iQ (rB h2) s.bu}
   |none=>
    rw[h2]at h;simp?[jm]at h;split at h
    .cases h
    cases h3:gk wh (b.dropWhile blank)with
    |none=>rw[h3]at h;cases h|some x=>
     obtain⟨a,z⟩:=x;rw[h3]at h;simp?[bM]at h;cases h4:gB wh f z with
     |none=>rw[h4]at h;cases h|some w=>
      rw[h4]at h;injection h with h;subst h
      obtain⟨s4,l4⟩:=X6 f z w h4;obtain⟨s3,l3,_⟩:=xH h3;exact⟨(s4.trans s3).trans s,by have:=s.bu;have:=s3.bu;simp only;lia⟩
theorem L5{wh:Bool}{b n z:aa}{a:List dF}{e:Bool}(h:gS wh b=some (n,a,e,z)):bB z b/\z.length<b.length/\fL n=true:=by
 unfold gS at h;cases h1:nameAt b with
 |none=>rw[h1]at h;cases h|some p=>
  obtain⟨n1,n2⟩:=p;rw[h1]at h;simp?[bM]at h;cases h2:gh wh n2 with
  |none=>rw[h2]at h;cases h|some y=>
   rw[h2]at h;injection h with h;injection h with ha hb;subst ha;subst hb
   obtain⟨s1,l1⟩:=bB.nameAt h1;obtain⟨s2,l2⟩:=X6 _ _ _ h2;exact{s2.trans s1,by simp only at l2;lia,(pq h1).2.2.1}
theorem AS{b n z:aa}(h:ending b=some (n,z)):bB z b/\z.length<b.length/\fL n=true:=by
 unfold ending at h;cases h1:nameAt b with
 |none=>rw[h1]at h;cases h|some p=>
  obtain⟨n1,n2⟩:=p;rw[h1]at h;simp?[ni,bM]at h;cases h2:front [62] (n2.dropWhile blank)with
  |none=>rw[h2]at h;cases h|some y=>
   rw[h2]at h;injection h with h;injection h with ha hb;subst ha hb
   obtain⟨s1,l1⟩:=bB.nameAt h1;have s2:=bB.dropWhile blank n2;have s3:=bB.front h2;exact⟨(s3.trans s2).trans s1,by have:=(s3.trans s2).bu;lia,(pq h1).2.2.1⟩
inductive Ev where
 |aS(n:aa)(a:List dF)(Es:Bool)|cls(n:aa)|bE(l:List eF)
 |aU(how:Nat)(n:aa)|fin|use(n:aa)
noncomputable def gx(b:aa):Option (aa×aa):=(nameAt b).bind fun n=>(front [125] n.2).map fun z=>(n.1,z)
theorem ajn(b:aa):gx b=if bU b=[]then none else (front [125] (b.drop (bU b).length)).map fun z=>(bU b,z):=RN (by decide)
def jS:aa->Option (Ev×aa)
 |47::r=>(front [125] r).map fun q=>(.fin,q)|c::r=>(gx r).map fun x=>(if c=62 then .use x.1 else .aU c x.1,x.2)
 |[]=>none
def ev:aa->Option (Ev×aa)
 |[]=>none|c::r=>if c=123/\other r=true then jS r
  else if c≠60 then (de true (dD true) (c::r)).map fun x=>(.bE x.1,x.2)
  else (front [47] r).elim ((gS true r).map fun x=>(.aS x.1 x.2.1 x.2.2.1,x.2.2.2)) fun q=>(ending q).map fun x=>(.cls x.1,x.2)
theorem yT{b n z:aa}(h:gx b=some (n,z)):bB z b/\z.length<b.length/\fL n=true:=by
 unfold gx at h;cases h1:nameAt b with
 |none=>rw[h1]at h;cases h|some p=>
  obtain⟨n1,n2⟩:=p;rw[h1]at h;simp?[bM]at h;cases h2:front [125] n2 with
  |none=>rw[h2]at h;cases h|some y=>
   rw[h2]at h;injection h with h;injection h with ha hb;subst ha hb
   obtain⟨s1,l1⟩:=bB.nameAt h1;have s3:=bB.front h2;exact⟨s3.trans s1,by have:=s3.bu;lia,(pq h1).2.2.1⟩
theorem abj{b z:aa}{e:Ev}(h:jS b=some (e,z)):bB z b/\z.length<=b.length:=by
 unfold jS at h;split at h
 .rename_i r;cases h1:front [125] r with
  |none=>rw[h1]at h;cases h|some q=>
   rw[h1]at h;injection h with h;injection h with _ hb;subst hb
   have s:=(bB.front h1).cons (c:=47);exact{(s),s.bu}
 .rename_i c r _;cases h1:gx r with|none=>rw[h1]at h;cases h|some q=>obtain⟨q1,q2⟩:=q;rw[h1]at h;injection h with h;injection h with _ hb;subst hb;have s:=((yT h1).1).cons (c:=c);exact{(s),s.bu}
 cases h
theorem KJ{wh:Bool}{cF:aa->Bool}{b q:aa}{ps:List eF}(hs:cF b=false)(h:de wh cF b=some (ps,q)):q.length<b.length:=by cases e:eB wh b with|none=>rw[y8 hs e]at h;cases h|some x=>obtain⟨p,z⟩:=x;rw[za hs e]at h;cases hz:de wh cF z with|none=>rw[hz]at h;cases h|some y=>obtain⟨ys,w⟩:=y;rw[hz]at h;injection h with h;injection h with _ hb;subst hb;have:=(y9 _ _ _ _ (bR _) hz).bu;have:=(uq e).2;simp only;lia
theorem xZ{b z:aa}{e:Ev}(h:ev b=some (e,z)):bB z b/\z.length<b.length:=by
 cases b with
 |nil=>simp[ev]at h|cons c r=>
  unfold ev at h;dsimp only at h;split at h
  .obtain⟨s,l⟩:=abj h;exact{s.cons,by simp;lia}
  rename_i hc;split at h
  .rename_i eK;cases h1:de true (dD true) (c::r)with
   |none=>rw[h1]at h;cases h|some x=>
    obtain⟨ps,q⟩:=x;rw[h1]at h;injection h with h;injection h with _ hb;subst hb;have hst:dD true (c::r)=false:=by
     simp?[dD,aoq,kO,uE,DA];refine{eK,?_};by_cases hx:c=123
     .right;cases ho:other r with|true=>exact aJ {(hx),ho} hc|false=>rfl
     exact .inl hx
    exact{y9 _ _ _ _ (bR _) h1,KJ hst h1}
  cases h1:front [47] r with
  |some q=>rw[h1]at h;simp?[iR]at h;cases h2:ending q with|none=>rw[h2]at h;cases h|some x=>obtain⟨n,w⟩:=x;rw[h2]at h;injection h with h;injection h with _ hb;subst hb;obtain⟨s,l,_⟩:=AS h2;have s1:=bB.front h1;exact⟨(s.trans s1).cons,by have:=s1.bu;simp;lia⟩
  |none=>rw[h1]at h;simp?[jm]at h;cases h2:gS true r with|none=>rw[h2]at h;cases h|some x=>obtain⟨n,a,e1,w⟩:=x;rw[h2]at h;injection h with h;injection h with _ hb;subst hb;obtain⟨s,l,_⟩:=L5 h2;exact{s.cons,by simp;lia}
abbrev fT:=List (Option aa)
noncomputable def iw(k:fT->aa->Option (List iO))(stack:fT):Ev×aa->Option (List iO)
 |(.aS n a false,z)=>(k (some n::stack) z).map fun l=>.open_ n a::l|(.aS n a true,z)=>(k stack z).map fun l=>.open_ n a::.close::l
 |(.cls n,z)=>if stack.head?=some (some n)then (k (stack.drop 1) z).map fun l=>.close::l else none|(.bE ps,z)=>(k stack z).map fun l=>.text ps::l
 |(.aU h n,z)=>(k (none::stack) z).map fun l=>.block h n::l|(.fin,z)=>if stack.head?=some none then (k (stack.drop 1) z).map fun l=>.end_::l else none
 |(.use n,z)=>(k stack z).map fun l=>.use n::l
theorem bm{α β:Type}{o:Option α}{g:α->β}:(o.bind fun x=>some (g x))=o.map g:=by cases o<;>rfl
theorem KH(f:Nat)(stack:fT)(c:Nat)(r:aa)(hf:r.length+1<=f):ow (f+1) stack (c::r)=(ev (c::r)).bind (iw (ow f) stack):=by
 unfold ow ev;dsimp only;split
 .rename_i hc;obtain⟨hc1,tO⟩:=hc;cases r with
  |nil=>rfl|cons d q=>
   by_cases hd:d=47
   .subst hd;have e1:Yz (47::q)=(front [125] q).map fun z=>(Part.end_,z):=rfl;have e2:jS (47::q)=(front [125] q).map fun z=>(Ev.fin,z):=rfl;rw[e1,e2];simp only[ni];cases front [125] q with|none=>rfl|some z=>simp only[iD,bM,iw];split<;>simp[bm]
   have e1:Yz (d::q)=(gx q).map fun x=>(if d=62 then Part.use x.1 else .block d x.1,x.2):=by
    unfold Yz;split
    .rename_i e;injection e with e _;exact aJ e hd
    .rename_i e;injection e with ea eb;subst ea eb
     unfold gx;cases nameAt q with|none=>rfl|some n=>show(front [125] n.2).bind _=((front [125] n.2).map _).map _;cases front [125] n.2<;>rfl
    rename_i e;cases e
   have e2:jS (d::q)=(gx q).map fun x=>(if d=62 then Ev.use x.1 else .aU d x.1,x.2):=by
    unfold jS;split
    .rename_i e;injection e with e _;exact aJ e hd
    .rename_i e;injection e with ea eb;subst ea eb;rfl
    rename_i e;cases e
   rw[e1,e2];cases gx q with
   |none=>rfl|some x=>
    simp?[iD,ni,bM];by_cases qc:d=62
    .simp?[qc,du,iw];simp[bm]
    simp?[qc,cT,iw];simp[bm]
 split
 .have e:gD (r.length+2) 60 (c::r)=de true (dD true) (c::r):=(SO _ _).symm;rw[e];simp?[ni];cases de true (dD true) (c::r)with|none=>rfl|some x=>simp?[iD,bM,iw];simp[bm]
 cases front [47] r with
 |some q=>simp only[iR,ni];cases ending q with|none=>rfl|some x=>simp only[iD,bM,iw];split<;>simp[bm]
 |none=>
  simp?[jm,ni];rw[am4];cases gS true r with
  |none=>rfl|some x=>
   obtain⟨n,a,e,z⟩:=x;cases e
   .simp?[iD,bM,iw];simp[bm]
   simp?[iD,bM,iw];simp[bm]
theorem SF:∀(f g:Nat) (stack:fT) (b:aa),b.length<f->b.length<g->ow f stack b=ow g stack b
 |0,_,_,b,h,_=>by lia|_,0,_,b,_,h=>by lia
 |f+1,g+1,stack,[],_,_=>by simp[ow]|f+1,g+1,stack,c::r,hf,hg=>by simp only[bJ]at hf hg;rw[KH f stack c r (by lia),KH g stack c r (by lia)];cases h:ev (c::r)with|none=>rfl|some x=>obtain⟨e,z⟩:=x;have l:=(xZ h).2;simp only[bJ]at l;have ih:∀st,ow f st z=ow g st z:=fun st=>SF f g st z (by lia) (by lia);simp only[bM];cases e<;>simp only[iw,ih];rename_i al;cases al<;>simp only[iw,ih]
def qw(stack:fT)(b:aa):Option (List iO):=ow (b.length+1) stack b
theorem akR(stack:fT):qw stack []=if stack=[]then some []else none:=by simp[qw,ow]
theorem akS(stack:fT)(c:Nat)(r:aa):qw stack (c::r)=(ev (c::r)).bind (iw qw stack):=by unfold qw;rw[bJ,KH _ _ _ _ (bR _)];cases h:ev (c::r)with|none=>rfl|some x=>obtain⟨e,z⟩:=x;have l:=(xZ h).2;simp only[bJ]at l;have ih:∀st,ow (r.length+1) st z=ow (z.length+1) st z:=fun st=>SF _ _ st z (by lia) (by lia);simp only[bM];cases e<;>simp only[iw,ih];rename_i al;cases al<;>simp only[iw,ih]
theorem am9(b:aa):aoB b=qw [] b:=rfl
inductive MP where
 |aS(n:aa)(a:List dF)|cls(n:aa)|bE(l:List eF)
 |aU(how:Nat)(n:aa)|fin|use(n:aa)
noncomputable def toS:MP->iO
 |.aS n a=>.open_ n a|.cls _=>.close
 |.bE l=>.text l|.aU h n=>.block h n
 |.fin=>.end_|.use n=>.use n
abbrev PL:=List (MP×Nat)
def cn(P:PL):List iO:=P.map fun x=>toS x.1
structure TS where
 parts:PL
 un:List Nat
 depth:Nat
noncomputable def TS.aX(ts:TS):Option MP:=ts.un.head?.bind fun u=>(ts.parts[u]?).map (·.1)
noncomputable def gJ(ts:TS)(mp:MP):TS:={ts.parts++[(mp,0)],ts.parts.length::ts.un,max ts.depth (ts.un.length+1)}
noncomputable def iI(ts:TS)(n:aa):TS:={ts.parts++[(.cls n,0)],ts.un.drop 1,ts.depth}
noncomputable def gg(P:PL)(u k:Nat):PL:=match P[u]? with|some x=>P.set u (x.1,k)|none=>P
def jX(ts:TS):TS:={gg ts.parts (ts.un.headD 0) ts.parts.length++[(.fin,ts.un.headD 0)],ts.un.drop 1,ts.depth}
noncomputable def oN(ts:TS)(mp:MP):TS:={ts with parts:=ts.parts++[(mp,0)]}
def j6(ts:TS)(n:aa):Bool:=match ts.aX with|some (.aS m _)=>m==n|_=>false
def j5(ts:TS):Bool:=match ts.aX with|some (.aU _ _)=>true|_=>false
def app(ts:TS):Ev->Option TS
 |.aS n a false=>some (gJ ts (.aS n a))|.aS n a true=>some (iI (gJ ts (.aS n a)) n)
 |.cls n=>if j6 ts n=true then some (iI ts n)else none|.bE ps=>some (oN ts (.bE ps))
 |.aU h n=>some (gJ ts (.aU h n))|.fin=>if j5 ts=true then some (jX ts)else none
 |.use n=>some (oN ts (.use n))
def iC:Nat->TS->aa->Option TS
 |0,_,_=>none|_+1,ts,[]=>some ts
 |f+1,ts,c::r=>(ev (c::r)).bind fun x=>(app ts x.1).bind fun t=>iC f t x.2
def jG:TS:={[],[],0}
def ib(b:aa):Option TS:=(iC (b.length+1) jG b).bind fun t=>if t.un=[]then some t else none
inductive Code(P:PL):Nat->Nat->List aa->List aa->List MP->Prop|nil (i:Nat) (s:List aa):Code P i i s s []|aS {i j:Nat} {s t:List aa} {ms:List MP} {n:aa} {a:List dF} {k:Nat}:P[i]?=some (.aS n a,k)->Code P (i+1) j (n::s) t ms->Code P i j s t (.aS n a::ms)|cls {i j:Nat} {s t:List aa} {ms:List MP} {n:aa} {k:Nat}:P[i]?=some (.cls n,k)->Code P (i+1) j s t ms->Code P i j (n::s) t (.cls n::ms)|bE {i j:Nat} {s t:List aa} {ms:List MP} {l:List eF} {k:Nat}:P[i]?=some (.bE l,k)->Code P (i+1) j s t ms->Code P i j s t (.bE l::ms)|use {i j:Nat} {s t:List aa} {ms:List MP} {n:aa} {k:Nat}:P[i]?=some (.use n,k)->Code P (i+1) j s t ms->Code P i j s t (.use n::ms)|aU {i j k:Nat} {s t:List aa} {ms bs:List MP} {h:Nat} {n:aa}:P[i]?=some (.aU h n,k)->P[k]?=some (.fin,i)->Code P (i+1) k [] [] bs->Code P (k+1) j s t ms->Code P i j s t (.aU h n::(bs++.fin::ms))
theorem Code.le{P:PL}{i j:Nat}{s t:List aa}{ms:List MP}(c:Code P i j s t ms):i<=j:=by induction c<;>lia
theorem Code.app{P:PL}{i j k:Nat}{s t u:List aa}{ms ns:List MP}(c:Code P i j s t ms):Code P j k t u ns->Code P i k s u (ms++ns):=by
 intro d;induction c with
 |nil=>exact d|aS e _ ih=>exact .aS e (ih d)
 |cls e _ ih=>exact .cls e (ih d)|bE e _ ih=>exact .bE e (ih d)
 |use e _ ih=>exact .use e (ih d)|aU e1 e2 cb _ _ ih=>have:=ih d;simp?[fQ,fY];exact .aU e1 e2 cb this
theorem Code.mono{P P':PL}{i j:Nat}{s t:List aa}{ms:List MP}(c:Code P i j s t ms):(∀x,i<=x->x<j->P'[x]?=P[x]?)->Code P' i j s t ms:=by
 induction c with
 |nil i s=>intro _;exact .nil _ _|aS e c ih=>intro h;exact .aS ((h _ (bR _) (by have:=c.le;lia)).trans e) (ih fun x a b=>h x (by lia) b)
 |cls e c ih=>intro h;exact .cls ((h _ (bR _) (by have:=c.le;lia)).trans e) (ih fun x a b=>h x (by lia) b)|bE e c ih=>intro h;exact .bE ((h _ (bR _) (by have:=c.le;lia)).trans e) (ih fun x a b=>h x (by lia) b)
 |use e c ih=>intro h;exact .use ((h _ (bR _) (by have:=c.le;lia)).trans e) (ih fun x a b=>h x (by lia) b)|aU e1 e2 cb c ihb ih=>intro h;have l1:=cb.le;have l2:=c.le;exact .aU ((h _ (bR _) (by lia)).trans e1) ((h _ (by lia) (by lia)).trans e2) (ihb fun x a b=>h x (by lia) (by lia)) (ih fun x a b=>h x (by lia) b)
theorem amB{P:PL}{i j:Nat}{x:MP×Nat}(e:P[i]?=some x)(l:i+1<=j):((P.drop i).take (j-i)).map (·.1)=x.1::((P.drop (i+1)).take (j-(i+1))).map (·.1):=by
 obtain⟨hl,he⟩:=fB.mp e;rw[zP hl,he];have:j-i=(j-(i+1))+1:=by lia
 rw[this];simp
theorem Code.V4{P:PL}{i j:Nat}{s t:List aa}{ms:List MP}(c:Code P i j s t ms):ms=((P.drop i).take (j-i)).map (·.1):=by
 induction c with
 |nil i s=>simp|aS e c ih |cls e c ih |bE e c ih |use e c ih=>rw[amB e c.le,←ih]
 |@aU i j k s t ms bs h n e1 e2 cb c ihb ih=>
  have l1:=cb.le;have l2:=c.le;obtain⟨hl,he⟩:=fB.mp e1;obtain⟨iK,he2⟩:=fB.mp e2;rw[zP hl,he,ih,ihb];have e3:j-i=(j-(i+1))+1:=by lia
  rw[e3,YX,cI];congr 1;have e4:(P.drop (i+1)).take (j-(i+1))=(P.drop (i+1)).take (k-(i+1))++((P.drop k).take (j-k)):=by
   have e5:j-(i+1)=(k-(i+1))+(j-k):=by lia
   rw[e5,List.take_add,aoK];congr 3;lia
  rw[e4,dJ];congr 1;rw[zP iK,he2];have e6:j-k=(j-(k+1))+1:=by lia
  rw[e6];simp
def pO(P:PL)(e:Nat):List Nat->List aa->Prop
 |[],[]=>True|u::us,n::s=>(∃a k,P[u]?=some (.aS n a,k)/\u<e)/\pO P e us s
 |_,_=>False
theorem pO.mono{P P':PL}{e e':Nat}:∀{us:List Nat} {s:List aa},pO P e us s->(∀x n a k,x<e->P[x]?=some (.aS n a,k)->P'[x]?=some (.aS n a,k)/\x<e')->pO P' e' us s
 |[],[],_,_=>trivial|u::us,n::s,h,m=>by obtain⟨⟨a,k,h1,h2⟩,h3⟩:=h;obtain⟨q1,q2⟩:=m u n a k h2 h1;exact{{(a),k,q1,q2},h3.mono m}
 |[],_::_,h,_=>h.elim|_::_,[],h,_=>h.elim
theorem pO.bu{P:PL}{e:Nat}:∀{us:List Nat} {s:List aa},pO P e us s->us.length=s.length
 |[],[],_=>rfl|u::us,n::s,h=>by simp[h.2.bu]
 |[],_::_,h=>h.elim|_::_,[],h=>h.elim
inductive Fr(P:PL):Nat->fT->List Nat->Prop|base:Fr P 0 [] []|rP {u h k b:Nat} {n:aa} {s:List aa} {ms:List MP} {us un:List Nat} {bv:fT}:P[u]?=some (.aU h n,k)->Code P b u [] s ms->pO P u us s->Fr P b bv un->Fr P (u+1) (none::(s.map some++bv)) (u::(us++un))
theorem Fr.mono{P P':PL}{b:Nat}{bv:fT}{un:List Nat}(f:Fr P b bv un):(∀x,x<b->P'[x]?=P[x]?)->Fr P' b bv un:=by induction f with|base=>intro _;exact .base|rP e c el f ih=>intro h;have l:=c.le;exact .rP ((h _ (by lia)).trans e) (c.mono fun x _ b=>h x (by lia)) (el.mono fun x n a k hx q=>{(h x (by lia)).trans q,hx}) (ih fun x hx=>h x (by lia))
theorem Fr.bu{P:PL}{b:Nat}{bv:fT}{un:List Nat}(f:Fr P b bv un):bv.length=un.length:=by induction f with|base=>rfl|rP e c el f ih=>simp[ih,el.bu]
structure eI(ts:TS)(bv:fT):Prop where
 ex:∃(b:Nat) (s:List aa) (us:List Nat) (stk0:fT) (un0:List Nat) (ms:List MP),Code ts.parts b ts.parts.length [] s ms/\pO ts.parts ts.parts.length us s/\Fr ts.parts b stk0 un0/\bv=s.map some++stk0/\ts.un=us++un0
theorem eI.bu{ts:TS}{bv:fT}(h:eI ts bv):ts.un.length=bv.length:=by obtain⟨b,s,us,stk0,un0,ms,c,el,f,e1,e2⟩:=h.ex;rw[e1,e2];simp[el.bu,f.bu]
theorem mC{P:PL}{x:MP×Nat}{i:Nat}(h:i<P.length):(P++[x])[i]?=P[i]?:=xg h
theorem pV{P:PL}{x:MP×Nat}:(P++[x])[P.length]?=some x:=by simp
theorem Yc:eI jG []:={0,[],[],[],[],[],.nil _ _,trivial,.base,rfl,rfl}
theorem eI.snoc{ts:TS}{b:Nat}{s:List aa}{ms:List MP}{x:MP×Nat}{t:List aa}(c:Code ts.parts b ts.parts.length [] s ms)
  (d:Code (ts.parts++[x]) ts.parts.length (ts.parts.length+1) s t [x.1]):Code (ts.parts++[x]) b (ts.parts++[x]).length [] t (ms++[x.1]):=by
 have c':=c.mono (P':=ts.parts++[x]) fun i _ h=>mC h;rw[cw,xj];exact c'.app d
theorem eI.plain{ts:TS}{bv:fT}(h:eI ts bv){mp:MP}(hp:∀(P:PL) (i:Nat) (s:List aa),P[i]?=some (mp,0)->Code P i (i+1) s s [mp]):eI (oN ts mp) bv:=by obtain⟨b,s,us,stk0,un0,ms,c,el,f,e1,e2⟩:=h.ex;refine{b,s,us,stk0,un0,ms++[mp],eI.snoc (x:=(mp,0)) c (hp _ _ _ pV),el.mono fun x n a k hx q=>?_,f.mono fun x hx=>mC (by have:=c.le;lia),e1,e2};simp?[oN,cw,xj];exact{(mC hx).trans q,by lia}
theorem eI.open{ts:TS}{bv:fT}(h:eI ts bv)(n:aa)(a:List dF):eI (gJ ts (.aS n a)) (some n::bv):=by obtain⟨b,s,us,stk0,un0,ms,c,el,f,e1,e2⟩:=h.ex;refine{b,n::s,ts.parts.length::us,stk0,un0,ms++[MP.aS n a],eI.snoc (x:=(.aS n a,0)) c (.aS pV (.nil _ _)),{{a,0,pV,by simp[gJ]},el.mono fun x n' a' k hx q=>?_},f.mono fun x hx=>mC (by have:=c.le;lia),by rw[e1];rfl,by simp[gJ,e2]};simp?[gJ,cw,xj];exact{(mC hx).trans q,by lia}
theorem eI.block{ts:TS}{bv:fT}(h:eI ts bv)(w:Nat)(n:aa):eI (gJ ts (.aU w n)) (none::bv):=by
 obtain⟨b,s,us,stk0,un0,ms,c,el,f,e1,e2⟩:=h.ex;have l:(ts.parts++[(MP.aU w n,0)]).length=ts.parts.length+1:=by simp
 refine{ts.parts.length+1,[],[],none::bv,ts.parts.length::ts.un,[],?_,trivial,?_,rfl,rfl}
 .show Code (ts.parts++[(MP.aU w n,0)]) _ (ts.parts++[(MP.aU w n,0)]).length _ _ _;rw[l];exact .nil _ _
 rw[e1,e2];exact .rP (P:=ts.parts++[(MP.aU w n,0)]) (k:=0) (b:=b) (s:=s) (ms:=ms) (us:=us) pV (c.mono fun x _ hx=>mC hx) (el.mono fun x n a k hx q=>{(mC hx).trans q,hx}) (f.mono fun x hx=>mC (by have:=c.le;lia))
theorem eI.j6{ts:TS}{bv:fT}(h:eI ts bv)(n:aa):j6 ts n=decide (bv.head?=some (some n)):=by
 obtain⟨b,s,us,stk0,un0,ms,c,el,f,e1,e2⟩:=h.ex;unfold _S.j6 TS.aX;cases us with
 |cons u us=>cases s with|nil=>exact el.elim|cons m s=>obtain⟨⟨a,k,h1,h2⟩,_⟩:=el;rw[e2,e1];simp only[fQ,YQ,bM,h1,iD,cI];by_cases hm:m=n<;>simp[hm]
 |nil=>cases s with|cons m s=>exact el.elim|nil=>rw[e1,e2];cases f with|base=>simp|rP q _ _ _=>simp[q]
theorem eI.j5{ts:TS}{bv:fT}(h:eI ts bv):j5 ts=decide (bv.head?=some none):=by
 obtain⟨b,s,us,stk0,un0,ms,c,el,f,e1,e2⟩:=h.ex;unfold _S.j5 TS.aX;cases us with
 |cons u us=>cases s with|nil=>exact el.elim|cons m s=>obtain⟨⟨a,k,h1,h2⟩,_⟩:=el;rw[e2,e1];simp[h1]
 |nil=>cases s with|cons m s=>exact el.elim|nil=>rw[e1,e2];cases f with|base=>simp|rP q _ _ _=>simp[q]
theorem eI.close{ts:TS}{bv:fT}(h:eI ts bv){n:aa}(hh:bv.head?=some (some n)):eI (iI ts n) (bv.drop 1):=by
 obtain⟨b,s,us,stk0,un0,ms,c,el,f,e1,e2⟩:=h.ex;cases us with
 |cons u us=>cases s with|nil=>exact el.elim|cons m s=>rw[e1]at hh;simp at hh;subst hh;refine{b,s,us,stk0,un0,ms++[MP.cls m],eI.snoc (x:=(.cls m,0)) c (.cls pV (.nil _ _)),pO.mono el.2 fun x n' a' k hx q=>?_,f.mono fun x hx=>mC (by have:=c.le;lia),by rw[e1];rfl,by simp[iI,e2]};simp?[iI,cw,xj];exact{(mC hx).trans q,by lia}
 |nil=>cases s with|cons m s=>exact el.elim|nil=>rw[e1]at hh;cases f with|base=>simp at hh|rP q _ _ _=>simp at hh
theorem Ls{P:PL}{u k:Nat}{x:MP×Nat}(h:P[u]?=some x):(gg P u k)[u]?=some (x.1,k)/\(∀i,i≠u->(gg P u k)[i]?=P[i]?)/\(gg P u k).length=P.length:=by unfold gg;rw[h];obtain⟨hl,_⟩:=fB.mp h;exact{by simp[hl],fun i hi=>by simp[pJ hi],by simp}
theorem Lu(P:PL)(u k:Nat):(gg P u k).map (·.1)=P.map (·.1):=by
 unfold gg;split
 .rename_i x h;obtain⟨hl,he⟩:=fB.mp h;rw[List.map_set];apply aoM;intro i;by_cases hi:i=u
  .subst hi;simp[hl,he]
  simp[pJ hi,List.getElem?_set]
 rfl
theorem eI.xU{ts:TS}{bv:fT}(h:eI ts bv)(hh:bv.head?=some none):eI (jX ts) (bv.drop 1):=by
 obtain⟨b,s,us,stk0,un0,ms,c,el,f,e1,e2⟩:=h.ex;cases us with
 |cons u us=>cases s with|nil=>exact el.elim|cons m s=>rw[e1]at hh;simp at hh
 |nil=>
  cases s with
  |cons m s=>exact el.elim|nil=>
   cases f with
   |base=>rw[e1]at hh;simp at hh|@rP u w k b' n s' ms' us' zA sj q c' AQ f'=>
    have eu:ts.un.headD 0=u:=by rw[e2];rfl
    obtain⟨g1,g2,g3⟩:=Ls (k:=ts.parts.length) q;have lu:u<ts.parts.length:=(fB.mp q).1;have le:=c.le;have le':=c'.le;have hE:(jX ts).parts=gg ts.parts u ts.parts.length++[(.fin,u)]:=by simp?[jX];rw[eu]
    have hget:∀i,i<ts.parts.length->i≠u->(jX ts).parts[i]?=ts.parts[i]?:=fun i h1 h2=>by rw[hE,mC (by rwa[g3])];exact g2 i h2
    have hgu:(jX ts).parts[u]?=some (.aU w n,ts.parts.length):=by rw[hE,mC (by rwa[g3])];exact g1
    have kY:(jX ts).parts[ts.parts.length]?=some (.fin,u):=by rw[hE];have:=pV (P:=gg ts.parts u ts.parts.length) (x:=(MP.fin,u));rwa[g3]at this
    have hlen:(jX ts).parts.length=ts.parts.length+1:=by rw[hE];simp[g3]
    refine{b',s',us',sj,zA,ms'++(.aU w n::(ms++.fin::[])),?_,?_,?_,?_,?_}
    .rw[hlen];refine(c'.mono fun x h1 h2=>hget x (by lia) (by lia)).app (.aU hgu kY (c.mono fun x h1 h2=>hget x h2 (by lia)) (.nil _ _))
    .rw[hlen];exact AQ.mono fun x n' a' k' hx q'=>{(hget x (by lia) (by lia)).trans q',by lia}
    .exact f'.mono fun x hx=>hget x (by lia) (by lia)
    .rw[e1];rfl
    simp[jX,e2]
theorem jF(P:PL)(x:MP×Nat):cn (P++[x])=cn P++[toS x.1]:=by simp[cn]
theorem LD(P:PL)(u k:Nat):cn (gg P u k)=cn P:=by have:=eU (DH toS) (Lu P u k);rwa[ic,ic]at this
theorem aaK{ts:TS}{bv:fT}(h:eI ts bv)(e:Ev):(app ts e=none/\∀(k:fT->aa->Option (List iO)) z,iw k bv (e,z)=none)∨
  ∃ts' sj new,app ts e=some ts'/\eI ts' sj/\cn ts'.parts=cn ts.parts++new/\∀(k:fT->aa->Option (List iO)) z,iw k bv (e,z)=(k sj z).map fun l=>new++l:=by
 cases e with
 |aS n a al=>right;cases al with|false=>exact{_,_,[.open_ n a],rfl,h.open n a,jF _ _,fun k z=>rfl}|true=>refine{_,bv,[.open_ n a,.close],rfl,(h.open n a).close rfl,?_,fun k z=>rfl};show cn ((ts.parts++[(MP.aS n a,0)])++[(.cls n,0)])=_;rw[jF,jF,fY];rfl
 |cls n=>
  simp?[app,h.j6 n,qL];by_cases hh:bv.head?=some (some n)
  .right;rw[az hh];exact{_,_,[.close],rfl,h.close hh,jF _ _,fun k z=>by simp[iw,hh]}
  left;rw[ao hh];exact{rfl,fun k z=>by simp[iw,hh]}
 |bE ps=>exact .inr {_,bv,[.text ps],rfl,h.plain fun P i s e=>.bE e (.nil _ _),jF _ _,fun k z=>rfl}|aU w n=>exact .inr {_,_,[.block w n],rfl,h.block w n,jF _ _,fun k z=>rfl}
 |fin=>
  simp?[app,h.j5,qL];by_cases hh:bv.head?=some none
  .right;rw[az hh];refine{_,_,[.end_],rfl,h.xU hh,?_,fun k z=>by simp[iw,hh]};show cn (gg _ _ _++[_])=_;rw[jF,LD];rfl
  left;rw[ao hh];exact{rfl,fun k z=>by simp[iw,hh]}
 |use n=>exact .inr {_,bv,[.use n],rfl,h.plain fun P i s e=>.use e (.nil _ _),jF _ _,fun k z=>rfl}
theorem LY:∀(f:Nat) (b:aa) (ts:TS) (bv:fT),eI ts bv->b.length<f->
  ((qw bv b).map fun l=>cn ts.parts++l)=((iC f ts b).bind fun t=>if t.un=[]then some (cn t.parts)else none)/\∀t,iC f ts b=some t->∃sj,eI t sj
 |0,b,_,_,_,h=>by lia|f+1,[],ts,bv,h,_=>by
  rw[akR];refine{?_,fun t e=>⟨bv,by injection e with e;subst e;exact h⟩};have l:=h.bu;by_cases hs:bv=[]
  .subst hs;have:ts.un=[]:=jN.mp l;simp[iC,this]
  have:ts.un≠[]:=fun z=>hs (by rw[z]at l;exact jN.mp l.symm);simp[iC,this,hs]
 |f+1,c::r,ts,bv,h,hf=>by
  rw[akS];unfold iC;cases he:ev (c::r)with
  |none=>exact{rfl,fun t e=>by cases e}|some x=>
   obtain⟨e,z⟩:=x;have l:=(xZ he).2;simp?[bM];rcases aaK h e with⟨h1,h2⟩ |⟨ts',sj,new,h1,h2,h3,h4⟩
   .rw[h1,h2];exact{rfl,fun t e=>by cases e}
   rw[h1,h4];simp?[bM];obtain⟨i1,i2⟩:=LY f z ts' sj h2 (by simp?[bJ]at l hf;lia);refine{?_,i2};rw[←i1,MG];congr 1;funext l';simp[h3]
theorem ani(b:aa):aoB b=(ib b).map fun t=>cn t.parts:=by
 obtain⟨h1,_⟩:=LY (b.length+1) b jG [] Yc (gF _);have e:((qw [] b).map fun l=>cn jG.parts++l)=qw [] b:=by have:cn jG.parts=[]:=rfl;simp[this]
 rw[am9,←e,h1];unfold ib;cases iC (b.length+1) jG b with|none=>rfl|some t=>simp only[bM];split<;>rfl
theorem Ya{b:aa}{t:TS}(h:ib b=some t):Code t.parts 0 t.parts.length [] [] (t.parts.map (·.1)):=by
 unfold ib at h;cases e:iC (b.length+1) jG b with
 |none=>rw[e]at h;cases h|some t'=>
  rw[e]at h;simp?[bM]at h;split at h
  .rename_i hu;injection h with h;subst h
   obtain⟨_,h2⟩:=LY (b.length+1) b jG [] Yc (gF _);obtain⟨bv,k⟩:=h2 _ e;obtain⟨b',s,us,stk0,un0,ms,c,el,f,e1,e2⟩:=k.ex;rw[hu]at e2;have e3:=e2.symm;rw[List.append_eq_nil_iff]at e3;obtain⟨rfl,rfl⟩:=e3;cases s with|cons _ _=>exact el.elim|nil=>cases f;have:=c.V4;simp?[YC,ao6,kJ]at this;rwa[←this]
  cases h
noncomputable def md:Nat->List iO->Nat
 |_,[]=>0|d,.open_ _ _::l=>max (d+1) (md (d+1) l)
 |d,.block _ _::l=>max (d+1) (md (d+1) l)|d,.close::l=>md (d-1) l
 |d,.end_::l=>md (d-1) l|d,.text _::l=>md d l
 |d,.use _::l=>md d l
noncomputable def dB:Nat->List iO->Nat
 |d,[]=>d|d,.open_ _ _::l=>dB (d+1) l
 |d,.block _ _::l=>dB (d+1) l|d,.close::l=>dB (d-1) l
 |d,.end_::l=>dB (d-1) l|d,.text _::l=>dB d l
 |d,.use _::l=>dB d l
theorem JH(a b:Bool):(a ||b)=if a=true then true else b:=by cases a<;>rfl
theorem Oh(d m:Nat):(decide (32<=d) ||decide (32<m))=decide (32<max (d+1) m):=by rw[←Bool.decide_or];apply oC.mpr;lia
theorem uz:∀(l:List iO) (d:Nat),zN d l=decide (32<md d l)
 |[],d=>by simp[zN,md]|.open_ n a::l,d=>by show(decide (32<=d) ||zN (d+1) l)=decide (32<max (d+1) (md (d+1) l));rw[uz l,Oh]
 |.block w n::l,d=>by show(decide (32<=d) ||zN (d+1) l)=decide (32<max (d+1) (md (d+1) l));rw[uz l,Oh]|.close::l,d=>uz l (d-1)
 |.end_::l,d=>uz l (d-1)|.text _::l,d=>uz l d
 |.use _::l,d=>uz l d
def up1:iO->Bool
 |.open_ _ _=>true|.block _ _=>true
 |_=>false
theorem yI(p:iO):∀(l:List iO) (d:Nat),md d (l++[p])=max (md d l) (if up1 p=true then dB d l+1 else 0)|[],d=>by cases p<;>simp[md,dB,up1]|q::l,d=>by cases q<;>simp only[fQ,md,dB,yI p l]<;>lia
theorem xL:∀(l m:List iO) (d:Nat),dB d (l++m)=dB (dB d l) m|[],m,d=>rfl|q::l,m,d=>by cases q<;>simp only[fQ,dB,xL l m]
structure jr(ts:TS):Prop where
 dp:ts.depth=md 0 (cn ts.parts)
 un:ts.un.length=dB 0 (cn ts.parts)
theorem jr.Ey{ts:TS}(h:jr ts){mp:MP}(hu:up1 (toS mp)=true):jr (gJ ts mp):=by
 refine{?_,?_}
 .show max ts.depth (ts.un.length+1)=md 0 (cn (ts.parts++[(mp,0)]));rw[jF,yI,hu,az rfl,h.dp,h.un]
 show(ts.parts.length::ts.un).length=dB 0 (cn (ts.parts++[(mp,0)]));rw[jF,xL,bJ,h.un];cases mp<;>first |rfl |cases hu
theorem jr.plain{ts:TS}(h:jr ts){mp:MP}(hu:∀d,dB d [toS mp]=d)(hv:up1 (toS mp)=false):jr (oN ts mp):=by
 refine{?_,?_}
 .show ts.depth=md 0 (cn (ts.parts++[(mp,0)]));rw[jF,yI,hv,h.dp];simp
 show ts.un.length=dB 0 (cn (ts.parts++[(mp,0)]));rw[jF,xL,hu,h.un]
theorem jr.close{ts:TS}(h:jr ts)(n:aa):jr (iI ts n):=by
 refine{?_,?_}
 .show ts.depth=md 0 (cn (ts.parts++[(.cls n,0)]));rw[jF,yI,h.dp];simp[toS,up1]
 show(ts.un.drop 1).length=dB 0 (cn (ts.parts++[(.cls n,0)]));rw[jF,xL,zS,h.un];rfl
theorem jr.xU{ts:TS}(h:jr ts):jr (jX ts):=by
 refine{?_,?_}
 .show ts.depth=md 0 (cn (gg _ _ _++[_]));rw[jF,LD,yI,h.dp];simp[toS,up1]
 show(ts.un.drop 1).length=dB 0 (cn (gg _ _ _++[_]));rw[jF,LD,xL,zS,h.un];rfl
theorem aaI{ts ts':TS}{e:Ev}(h:jr ts)(ha:app ts e=some ts'):jr ts':=by
 cases e with
 |aS n a al=>
  cases al<;>(injection ha with ha;subst ha)
  .exact h.Ey rfl
  exact(h.Ey (mp:=.aS n a) rfl).close n
 |cls n=>
  simp?[app]at ha;split at ha
  .injection ha with ha;subst ha;exact h.close n
  cases ha
 |bE ps=>injection ha with ha;subst ha;exact h.plain (fun _=>rfl) rfl
 |aU w n=>injection ha with ha;subst ha;exact h.Ey rfl
 |fin=>
  simp?[app]at ha;split at ha
  .injection ha with ha;subst ha;exact h.xU
  cases ha
 |use n=>injection ha with ha;subst ha;exact h.plain (fun _=>rfl) rfl
theorem XW:∀(f:Nat) (b:aa) (ts t:TS),jr ts->iC f ts b=some t->jr t
 |0,_,_,_,_,h=>by cases h|f+1,[],ts,t,h,e=>by injection e with e;subst e;exact h
 |f+1,c::r,ts,t,h,e=>by unfold iC at e;cases h1:ev (c::r)with|none=>rw[h1]at e;cases e|some x=>rw[h1]at e;simp?[bM]at e;cases h2:app ts x.1 with|none=>rw[h2]at e;cases e|some ts'=>rw[h2]at e;exact XW f x.2 ts' t (aaI h h2) e
theorem Yb{b:aa}{t:TS}(h:ib b=some t):iC (b.length+1) jG b=some t/\t.un=[]:=by
 unfold ib at h;cases e:iC (b.length+1) jG b with
 |none=>rw[e]at h;cases h|some t'=>
  rw[e]at h;simp?[bM]at h;split at h
  .rename_i hu;injection h with h;subst h;exact{(rfl),hu}
  cases h
theorem ang{b:aa}{t:TS}(h:ib b=some t):zN 0 (cn t.parts)=decide (32<t.depth):=by rw[uz,(XW _ _ _ _ {(rfl),rfl} (Yb h).1).dp]
def qE:MP->Bool|.aS _ a=>!distinct (a.map oz)|_=>false
def ke:MP->Bool|.aS _ a=>decide (8<a.length)|_=>false
theorem NG(P:PL)(f:iO->Bool):(cn P).any f=P.any fun x=>f (toS x.1):=by simp[cn,qF];rfl
theorem anv(P:PL):twice (cn P)=P.any fun x=>qE x.1:=by unfold twice;rw[NG];congr 1;funext x;cases x.1<;>rfl
theorem anl{b:aa}{t:TS}(h:ib b=some t):tooMuch (cn t.parts)=(decide (32<t.depth) ||decide (1024<t.parts.length) ||t.parts.any fun x=>ke x.1):=by
 have e1:(cn t.parts).length=t.parts.length:=by simp[cn]
 have e2:((cn t.parts).any fun p=>match p with |.open_ _ a=>decide (aou<a.length) |_=>false)=t.parts.any fun x=>ke x.1:=by rw[NG];congr 1;funext x;cases x.1<;>rfl
 have e3:tooMuch (cn t.parts)=(((cn t.parts).any fun p=>match p with |.open_ _ a=>decide (aou<a.length) |_=>false) ||zN 0 (cn t.parts) ||decide (1024<(cn t.parts).length)):=rfl;rw[e3,e2,ang h,e1];generalize decide (32<t.depth)=x;generalize decide (1024<t.parts.length)=y;generalize (t.parts.any fun x=>ke x.1)=z;cases x<;>cases y<;>cases z<;>rfl
noncomputable def kU(mp:MP)(g:Bool):Bool:=match mp with
 |.use _=>g|.bE ps=>g&&ps.any gC
 |.aS n a=>a.any fun x=>x.2.any gC&&(g ||kC n ||ji x.1)|_=>false
noncomputable def j0(g:Int):MP->Int
 |.aS n _=>if kC n=true then g+1 else g|.cls n=>if kC n=true then g-1 else g
 |_=>g
def gL:Int->List MP->Bool|_,[]=>false|g,mp::l=>if kU mp (decide (0<g))=true then true else gL (j0 g mp) l
noncomputable def bo:List aa->List Bool|[]=>[]|n::s=>((bo s).headD false ||kC n)::bo s
noncomputable def cnt:List aa->Int|[]=>0|n::s=>if kC n=true then cnt s+1 else cnt s
theorem N6:∀s,0<=cnt s|[]=>by simp[cnt]|n::s=>by have:=N6 s;simp only[cnt];split<;>lia
theorem AA:∀s,(bo s).headD false=decide (0<cnt s)
 |[]=>by simp[bo,cnt]|n::s=>by
  have h:=N6 s;show((bo s).headD false ||kC n)=_;rw[AA s];by_cases hb:kC n=true
  .have hc:cnt (n::s)=cnt s+1:=by simp?[cnt];rw[az hb]
   rw[hc,hb,Mp];exact(gG (by lia)).symm
  have hc:cnt (n::s)=cnt s:=by simp?[cnt];rw[ao hb]
  rw[hc];simp?[Mm]at hb;rw[hb,zJ]
theorem aeA{P:PL}{i j:Nat}{s t:List aa}{ms:List MP}(c:Code P i j s t ms):∀(s0:List aa) (rest:List iO) (mrest:List MP),
  sw (bo (t++s0)) rest=gL (cnt (t++s0)) mrest->sw (bo (s++s0)) (ms.map toS++rest)=gL (cnt (s++s0)) (ms++mrest):=by
 induction c with
 |nil=>intro s0 rest mrest h;exact h|@aS i j s t ms n a k e c ih=>
  intro s0 rest mrest h;have q:=ih s0 rest mrest h;simp?[cI,fQ,toS,sw,gL,kU,j0]at q⊢;simp?[bo,cnt]at q;rw[AA]at q⊢;rw[q];have e1:(a.any fun x=>(decide (0<cnt (s++s0)) ||kC n ||ji x.1)&&x.2.any gC)=(a.any fun x=>x.2.any gC&&(decide (0<cnt (s++s0)) ||kC n ||ji x.1)):=by congr 1;funext x;rw[Bool.and_comm]
  rw[e1];exact JH _ _
 |@cls i j s t ms n k e c ih=>intro s0 rest mrest h;have q:=ih s0 rest mrest h;simp only[cI,fQ,toS,sw,gL,kU,j0,bo,List.drop_succ_cons,YC,cnt,eE,cT];rw[q];congr 1;split<;>lia|@bE i j s t ms l k e c ih=>intro s0 rest mrest h;have q:=ih s0 rest mrest h;simp only[cI,fQ,toS,sw,gL,kU,j0];rw[AA,q];exact JH _ _
 |@use i j s t ms n k e c ih=>intro s0 rest mrest h;have q:=ih s0 rest mrest h;simp?[cI,fQ,toS,sw,gL,kU,j0];rw[AA,q];exact JH _ _|@aU i j k s t ms bs w n e1 e2 cb c ihb ih=>intro s0 rest mrest h;have q:=ih s0 rest mrest h;have q2:=ihb (s++s0) (.end_::(ms.map toS++rest)) (.fin::(ms++mrest)) (by simp?[List.nil_append,sw,gL,kU,j0,eE,cT];exact q);simp?[cI,fQ,dJ,fY,toS,sw,gL,kU,j0,eE,cT];exact q2
theorem anG{b:aa}{t:TS}(h:ib b=some t):sw [] (cn t.parts)=gL 0 (t.parts.map (·.1)):=by have:=aeA (Ya h) [] [] [] rfl;simp?[ei,bo,cnt]at this;rw[←this,ic];rfl
def ou:MP->Option aa|.use n=>some n|_=>none
theorem Ym(P:PL):DC (cn P)=P.filterMap fun x=>ou x.1:=by unfold DC cn;rw[YD];congr 1;funext x;simp only[aot];cases x.1<;>rfl
inductive Aj where|aS(n:aa)(a:List (aa×aa))(Es:Bool)|cls(n:aa)|bE(t:aa)
def qV(b:aa):Option (aa×aa):=lE (b.length+1) 60 b
theorem ED(b:aa):de false (dD false) b=(qV b).map lits:=SK _ _
noncomputable def iY:aa->Option (Aj×aa)
 |[]=>none|c::r=>if c≠60 then (qV (c::r)).map fun x=>(.bE x.1,x.2)
  else (front [47] r).elim ((uG r).map fun x=>(.aS x.1 x.2.1 x.2.2.1,x.2.2.2)) fun q=>(ending q).map fun x=>(.cls x.1,x.2)
theorem XZ{b n z:aa}{a:List (aa×aa)}{e:Bool}(h:uG b=some (n,a,e,z)):bB z b/\z.length<b.length/\fL n=true:=by have:=L3 b;rw[h]at this;exact L5 this.symm
theorem N3{b q t:aa}(hs:dD false b=false)(h:qV b=some (t,q)):bB q b/\q.length<b.length:=by
 have e:de false (dD false) b=some (t.map Piece.lit,q):=by rw[ED,h];rfl
 exact{y9 _ _ _ _ (bR _) e,KJ hs e}
theorem Ol{b z:aa}{e:Aj}(h:iY b=some (e,z)):bB z b/\z.length<b.length:=by
 cases b with
 |nil=>simp[iY]at h|cons c r=>
  unfold iY at h;dsimp only at h;split at h
  .rename_i eK;cases h1:qV (c::r)with|none=>rw[h1]at h;cases h|some x=>obtain⟨ps,q⟩:=x;rw[h1]at h;injection h with h;injection h with _ hb;subst hb;exact N3 (by simp[dD,eK]) h1
  cases h1:front [47] r with
  |some q=>rw[h1]at h;simp?[iR]at h;cases h2:ending q with|none=>rw[h2]at h;cases h|some x=>obtain⟨n,w⟩:=x;rw[h2]at h;injection h with h;injection h with _ hb;subst hb;obtain⟨s,l,_⟩:=AS h2;have s1:=bB.front h1;exact⟨(s.trans s1).cons,by have:=s1.bu;simp;lia⟩
  |none=>rw[h1]at h;simp?[jm]at h;cases h2:uG r with|none=>rw[h2]at h;cases h|some x=>obtain⟨n,a,e1,w⟩:=x;rw[h2]at h;injection h with h;injection h with _ hb;subst hb;obtain⟨s,l,_⟩:=XZ h2;exact{s.cons,by simp;lia}
abbrev MR:=Int ⊕ List aG
noncomputable def numOf:(Int×Nat) ⊕ List aG->MR|.inl x=>.inl x.1|.inr m=>.inr m
noncomputable def pre(l:List aG):MR->MR|.inl x=>.inl x|.inr m=>.inr (l++m)
def jT(k:Nat->List aa->aa->MR)(n:Nat)(l:List aG)(s:List aa)(q:aa):MR:=if 2048<n+l.length then .inl (-28)else pre l (k (n+l.length) s q)
def jV(k:Nat->List aa->aa->MR)(n:Nat)(stack:List aa):Aj×aa->MR
 |(.bE t,q)=>jT k n [.text t] stack q|(.cls m,z)=>if stack.head?=some m then jT k n [.close] (stack.drop 1) z else .inl (-71)
 |(.aS m a e,z)=>if distinct (a.map oz)=false then .inl (-22)else if 8<a.length∨32<=stack.length then .inl (-28)
  else if e=true then jT k n [.open_ m a,.close] stack z else jT k n [.open_ m a] (m::stack) z
theorem BQ{all f n at_:Nat}{l:List aG}{s:List aa}{q:aa}:numOf (if Kp172.MARKS<n+l.length then .inl (-28,at_)else (match pH all f (n+l.length) s q with
   |.inl x=>.inl x|.inr m=>.inr (l++m)))=jT (fun n s b=>numOf (pH all f n s b)) n l s q:=by
 unfold jT;show numOf (if 2048<n+l.length then _ else _)=_;split
 .rfl
 dsimp only;generalize pH all f (n+l.length) s q=x;cases x<;>rfl
theorem Jd(all f n:Nat)(stack:List aa)(c:Nat)(r:aa):numOf (pH all (f+1) n stack (c::r))=(iY (c::r)).elim (.inl (-71)) (jV (fun n s b=>numOf (pH all f n s b)) n stack):=by
 conv=>lhs;unfold pH
 unfold iY;dsimp only;split
 .have e:lE (r.length+2) 60 (c::r)=qV (c::r):=rfl;rw[e];cases qV (c::r)with|none=>rfl|some x=>exact BQ
 cases front [47] r with
 |some q=>
  simp?[iR];cases ending q with
  |none=>rfl|some x=>
   obtain⟨m,z⟩:=x;simp?[iD,iR,jV];split
   .exact BQ
   rfl
 |none=>
  simp?[jm];cases uG r with
  |none=>rfl|some x=>
   obtain⟨m,a,e,z⟩:=x;simp?[iD,iR,jV];split
   .rfl
   show numOf (if 8<a.length∨32<=stack.length then _ else _)=_;split
   .rfl
   split
   .exact BQ
   exact BQ
theorem adw{k k':Nat->List aa->aa->MR}{q:aa}(h:∀n s,k n s q=k' n s q)(n:Nat)(l:List aG)(s:List aa):jT k n l s q=jT k' n l s q:=by unfold jT;rw[h]
theorem Ow{k k':Nat->List aa->aa->MR}{z:aa}(h:∀n s,k n s z=k' n s z)(n:Nat)(stack:List aa)(e:Aj):jV k n stack (e,z)=jV k' n stack (e,z):=by cases e<;>simp only[jV,adw h]
theorem Jc:∀(f g all As n:Nat) (stack:List aa) (b:aa),b.length<f->b.length<g->numOf (pH all f n stack b)=numOf (pH As g n stack b)
 |0,_,_,_,_,_,b,h,_=>by lia|_,0,_,_,_,_,b,_,h=>by lia
 |f+1,g+1,all,As,n,stack,[],_,_=>by unfold pH;split<;>rfl|f+1,g+1,all,As,n,stack,c::r,hf,hg=>by simp only[bJ]at hf hg;rw[Jd,Jd];cases h:iY (c::r)with|none=>rfl|some x=>obtain⟨e,z⟩:=x;have l:=(Ol h).2;simp only[bJ]at l;exact Ow (fun n s=>Jc f g all As n s z (by lia) (by lia)) n stack e
def eZ(n:Nat)(stack:List aa)(b:aa):MR:=numOf (pH 0 (b.length+1) n stack b)
theorem aif(n:Nat)(stack:List aa):eZ n stack []=if stack=[]then .inr []else .inl (-71):=by unfold eZ pH;split<;>rfl
theorem Jb(n:Nat)(stack:List aa)(c:Nat)(r:aa):eZ n stack (c::r)=(iY (c::r)).elim (.inl (-71)) (jV eZ n stack):=by unfold eZ;rw[Jd];cases h:iY (c::r)with|none=>rfl|some x=>obtain⟨e,z⟩:=x;have l:=(Ol h).2;exact Ow (fun n s=>Jc _ _ _ _ n s z l (gF _)) n stack e
theorem Ts(t:aa):numOf (uF t)=if 16384<t.length then .inl (-28)else eZ 0 [] t:=by
 unfold uF;show numOf (if 16384<t.length then _ else _)=_;split
 .rfl
 exact Jc _ _ _ _ _ _ _ (gF _) (gF _)
inductive dW:List aG->Prop|nil:dW []|bE {b:aa} {m:List aG}:dW m->dW (.text b::m)|oS {n:aa} {a:List (aa×aa)} {i m:List aG}:dW i->dW m->dW (.open_ n a::(i++.close::m))
theorem dW.app{m k:List aG}(h:dW m):dW k->dW (m++k):=by
 intro hk;induction h with
 |nil=>exact hk|bE _ ih=>exact .bE ih
 |oS hi _ _ ih=>simp?[fQ,fY];exact .oS hi ih
theorem dW.inside{m:List aG}(h:dW m):∀(d:Nat) (k:List aG),inside d (m++k)=(m++(inside d k).1,(inside d k).2):=by
 induction h with
 |nil=>intro d k;rfl|bE _ ih=>intro d k;simp?[fQ,Mr,ih]
 |oS hi hm ihi ih=>intro d k;simp?[fQ,fY,Mr,ihi,Nat.add_sub_cancel,ih];simp
theorem dW.QO{m:List aG}(h:dW m)(k:List aG):Mr 0 (m++.close::k)=(m,k):=by rw[h.inside];simp[Mr]
def fK(m:List aG):List (aa×List aG):=standing (m.length+1) m
theorem amX:∀(f g:Nat) (m:List aG),dW m->m.length<f->m.length<g->standing f m=standing g m:=by
 intro f;induction f with
 |zero=>intro g m _ h;lia|succ f ih=>
  intro g m hb hf hg;cases g with
  |zero=>lia|succ g=>
   cases hb with
   |nil=>rfl|bE h=>simp?[standing];simp?[bJ]at hf hg;exact ih g _ h (by lia) (by lia)
   |oS hi hm=>simp?[standing,hi.QO];simp?[bJ,cw]at hf hg;rw[ih g _ hm (by lia) (by lia)]
theorem LG:fK []=[]:=rfl
theorem wN{b:aa}{m:List aG}(h:dW m):fK (.text b::m)=fK m:=rfl
theorem wM{n:aa}{a:List (aa×aa)}{i m:List aG}(hi:dW i)(hm:dW m):fK (.open_ n a::(i++.close::m))=(n,i)::fK m:=by
 unfold fK;conv=>lhs;unfold standing
 simp?[hi.QO];rw[amX _ (m.length+1) m hm (by simp?[bJ,cw];lia) (gF _)]
theorem XC{m k:List aG}(hm:dW m)(hk:dW k):fK (m++k)=fK m++fK k:=by
 induction hm with
 |nil=>rfl|bE h ih=>rw[fQ,wN (h.app hk),wN h,ih]
 |oS hi hm _ ih=>simp?[fQ,fY];rw[wM hi (hm.app hk),wM hi hm,ih];rfl
theorem X9(m k:List aG):iP (m++k)=iP m++iP k:=by simp[iP]
theorem amW{m:List aG}(h:dW m):∀x∈fK m,dW x.2/\x.2.length<m.length:=by
 induction h with
 |nil=>intro x hx;cases hx|bE h ih=>intro x hx;rw[wN h]at hx;obtain⟨h1,h2⟩:=ih x hx;exact{h1,by simp?[bJ];lia}
 |oS hi hm _ ih=>
  intro x hx;rw[wM hi hm]at hx;rcases bw.mp hx with rfl |hx
  .exact{hi,by simp?[bJ,cw];lia}
  obtain⟨h1,h2⟩:=ih x hx;exact{h1,by simp?[bJ,cw];lia}
noncomputable def cY:List aa->List aG->List aa
 |s,[]=>s|s,.text _::l=>cY s l
 |s,.open_ n _::l=>cY (n::s) l|s,.close::l=>cY (s.drop 1) l
theorem lM:∀(m k:List aG) (s:List aa),cY s (m++k)=cY (cY s m) k
 |[],k,s=>rfl|.text _::l,k,s=>lM l k s
 |.open_ n _::l,k,s=>lM l k (n::s)|.close::l,k,s=>lM l k (s.drop 1)
theorem uD:∀(m k:List aG) (s:List aa),write s (m++k)=write s m++write (cY s m) k
 |[],k,s=>rfl|.text b::l,k,s=>by simp?[fQ,write,cY,uD l k s,fY]
 |.open_ n a::l,k,s=>by simp?[fQ,write,cY,uD l k (n::s),fY]|.close::l,k,s=>by simp?[fQ,write,cY,uD l k (s.drop 1),fY]
theorem AU(a b:aa):cP (a++b)=cP a++cP b:=by simp[cP]
theorem xX:∀b:aa,b.length<=(cP b).length
 |[]=>by simp|c::r=>by
  have e:cP (c::r)=cP [c]++cP r:=AU [c] r;have h:1<=(cP [c]).length:=by
   simp?[cP,kD,uJ,ei];split
   .decide
   split
   .decide
   split
   .decide
   split
   .decide
   simp
  have:=xX r;rw[e,cw,bJ];lia
theorem AV:∀b:aa,(cP b).length<=6*b.length
 |[]=>by simp[cP]|c::r=>by
  have e:cP (c::r)=cP [c]++cP r:=AU [c] r;have h:(cP [c]).length<=6:=by
   simp?[cP,kD,uJ,ei];split
   .decide
   split
   .decide
   split
   .decide
   split
   .decide
   simp
  have:=AV r;rw[e,cw,bJ];lia
theorem Dz:∀(m:List aG) (s:List aa),write s (joined m)=write s m
 |[],s=>rfl|.text a::l,s=>by
  have ih:=Dz l;unfold joined;split
  .rename_i b r e;have:=ih s;rw[e]at this;simp?[write]at this⊢;rw[AU,fY,this]
  rename_i e;simp?[write,ih]
 |.open_ n a::l,s=>by unfold joined;simp?[write,Dz l]|.close::l,s=>by unfold joined;simp?[write,Dz l]
def iB:aG->Bool|.text []=>false|_=>true
theorem Ma(m:List aG):tidy m=joined (m.filter iB):=by unfold tidy;congr 2
theorem zF:∀(m:List aG) (s:List aa),write s (m.filter iB)=write s m
 |[],s=>rfl|.text []::l,s=>by simp?[jM,iB,write];exact zF l s
 |.text (c::r)::l,s=>by simp?[jM,iB,write,du];rw[zF l s]|.open_ n a::l,s=>by simp?[jM,iB,write,du];rw[zF l]
 |.close::l,s=>by simp?[jM,iB,write,du];rw[zF l]
theorem Tf(m:List aG):sv (tidy m)=write [] m:=by unfold sv;rw[Ma,Dz,zF]
theorem AK:∀(m:List aG) (d:Nat),fz d (joined m)=fz d m
 |[],d=>rfl|.text a::l,d=>by
  have ih:=AK l d;unfold joined;split
  .rename_i b r e;rw[e]at ih;simp?[fz]at ih⊢;exact ih
  simp?[fz];exact ih
 |.open_ n a::l,d=>by unfold joined;simp only[fz,AK l]|.close::l,d=>by unfold joined;cases d<;>simp only[fz,AK l]
theorem xO:∀(m:List aG) (d:Nat),fz d (m.filter iB)=fz d m
 |[],d=>rfl|.text []::l,d=>by simp?[jM,iB,fz];exact xO l d
 |.text (c::r)::l,d=>by simp?[jM,iB,fz,du];exact xO l d|.open_ n a::l,d=>by simp?[jM,iB,du,fz,xO l]
 |.close::l,d=>by cases d<;>simp only[jM,iB,du,fz,xO l]
theorem adq(m:List aG)(d:Nat):fz d (tidy m)=fz d m:=by rw[Ma,AK,xO]
theorem qY:∀(m k:List aG) (d:Nat),fz d (m++k)=(fz d m).bind fun e=>fz e k
 |[],k,d=>rfl|.text _::l,k,d=>by simp?[fQ,fz,qY l]
 |.open_ n a::l,k,d=>by
  simp?[fQ,fz];split
  .rfl
  exact qY l k _
 |.close::l,k,0=>rfl|.close::l,k,d+1=>by simp?[fQ,fz,qY l]
noncomputable def nm:Bool->List aG->Nat
 |_,[]=>0|b,.text []::l=>nm b l
 |b,.text (_::_)::l=>(if b=true then 0 else 1)+nm true l|_,.open_ _ _::l=>1+nm false l
 |_,.close::l=>1+nm false l
noncomputable def bh:Bool->List aG->Bool
 |b,[]=>b|b,.text []::l=>bh b l
 |_,.text (_::_)::l=>bh true l|_,.open_ _ _::l=>bh false l
 |_,.close::l=>bh false l
theorem px:∀(m k:List aG) (b:Bool),nm b (m++k)=nm b m+nm (bh b m) k
 |[],k,b=>by simp[nm,bh]|.text []::l,k,b=>px l k b
 |.text (c::r)::l,k,b=>by simp?[fQ,nm,bh,px l k true];lia|.open_ _ _::l,k,b=>by simp?[fQ,nm,bh,px l k false];lia
 |.close::l,k,b=>by simp?[fQ,nm,bh,px l k false];lia
theorem pW:∀(m k:List aG) (b:Bool),bh b (m++k)=bh (bh b m) k
 |[],k,b=>rfl|.text []::l,k,b=>pW l k b
 |.text (c::r)::l,k,b=>pW l k true|.open_ _ _::l,k,b=>pW l k false
 |.close::l,k,b=>pW l k false
def vN:List aG->Bool|.text _::_=>true|_=>false
theorem yU:∀m:List aG,(joined (m.filter iB)).length=nm false m/\(if vN (joined (m.filter iB))=true then nm false m=nm true m+1 else nm false m=nm true m)
 |[]=>{(rfl),rfl}|.text []::l=>by have ih:=yU l;simp?[jM,iB,nm];exact ih
 |.text (c::r)::l=>by
  obtain⟨i1,i2⟩:=yU l;simp?[jM,iB,nm,du];unfold joined;split
  .rename_i b rr e;rw[e]at i1 i2;simp?[vN,du,bJ]at i1 i2⊢;simp?[eE,cT];exact{by lia,by lia}
  rename_i h;simp?[vN,du,bJ,eE,cT];have hh:vN (joined (l.filter iB))=false:=by
   generalize joined (l.filter iB)=x at*;cases x with
   |nil=>rfl|cons y x=>cases y with
    |text b=>exact aJ rfl (h b x)|_=>rfl
  rw[hh]at i2;simp?[eE,cT]at i2;exact{by lia,by lia}
 |.open_ n a::l=>by obtain⟨i1,_⟩:=yU l;simp?[jM,iB,du,nm];unfold joined;simp?[bJ,vN,i1,eE,cT];exact{by lia,trivial}|.close::l=>by obtain⟨i1,_⟩:=yU l;simp?[jM,iB,du,nm];unfold joined;simp?[bJ,vN,i1,eE,cT];exact{by lia,trivial}
theorem x4(m:List aG):fits (tidy m)=(decide (nm false m<=2048)&&(fz 0 m).isSome&&decide ((write [] m).length<=16384)):=by unfold fits;rw[Tf,adq,Ma,(yU m).1];rfl
def xz(m:List aG):Prop:=∀k,fits (tidy (m++k))=false
theorem xz.app{m:List aG}(h:xz m)(k:List aG):xz (m++k):=fun k'=>by rw[fY];exact h _
theorem Ex{m:List aG}(h:fits (tidy m)=false):xz m:=fun k=>by
 rw[x4]at h⊢;rw[px,qY,uD,cw];simp?[DA,decide_eq_false_iff_not]at h⊢;rcases h with(h |h) |h
 .exact .inl (.inl (by lia))
 .left;right;cases e:fz 0 m with|none=>rfl|some d=>rw[e]at h;cases h
 exact .inr (by lia)
structure FS where
 row:aa
 marks:Nat
 depth:Int
 behind:Bool
 gP:Bool
structure ZA(f:FS)(m:List aG):Prop where
 row:f.row=write [] m
 marks:f.marks=nm false m
 depth:f.depth=((cY [] m).length:Int)
 tq:fz 0 m=some (cY [] m).length
 behind:f.behind=bh false m
 RC:f.marks<=2048
 EL:f.depth<=32
 KZ:f.row.length<=16384
structure gI(f:FS)(m:List aG):Prop where
 ex:(f.gP=false/\ZA f m)∨(f.gP=true/\xz m)
noncomputable def lR(f:FS):FS:=if 2048<f.marks∨32<f.depth∨16384<f.row.length then {f with gP:=true}else f
def E6(f:FS)(n:aa)(a:List (aa×aa)):FS:=lR {f with row:=f.row++[60]++n++(a.flatMap fun x=>[32]++x.1++[61,34]++cP x.2++[34])++[62],depth:=f.depth+1,behind:=false,marks:=f.marks+1}
def E5(f:FS)(n:aa):FS:=lR {f with row:=f.row++[60,47]++n++[62],depth:=f.depth-1,behind:=false,marks:=f.marks+1}
def vz(f:FS)(t:aa):FS:=if t=[]then f else if f.behind=true then lR {f with row:=f.row++cP t}else lR {f with row:=f.row++cP t,behind:=true,marks:=f.marks+1}
def sM(v v':aa):Prop:=v'=v∨(16384<v.length/\16384<v'.length)
theorem AD{f:FS}{m:List aG}(hm:f.gP=false)(h1:f.row=write [] m)(h2:f.marks=nm false m)(h3:f.depth=((cY [] m).length:Int))(h4:(cY [] m).length<=32->fz 0 m=some (cY [] m).length)
  (h4':32<(cY [] m).length->fz 0 m=none)(h5:f.behind=bh false m):gI (lR f) m:=by
 unfold lR;split
 .rename_i h;refine⟨.inr {rfl,Ex ?_}⟩;rw[x4];simp?[DA,decide_eq_false_iff_not];rcases h with h |h |h
  .exact .inl (.inl (by lia))
  .rw[h3]at h;exact .inl (.inr (by rw[h4' (by lia)];rfl))
  exact .inr (by rw[←h1];lia)
 rename_i h;have:(cY [] m).length<=32:=by
  rcases ao3 32 (cY [] m).length with z |z
  .exact aJ (.inr (.inl (by rw[h3];lia))) h
  exact z
 exact⟨.inl {hm,h1,h2,h3,h4 this,h5,by lia,by lia,by lia}⟩
theorem gI.nI{f f':FS}{m:List aG}(k:List aG)(h:gI f m)(hm:f.gP=true)(e:f'.gP=true):gI f' (m++k):=by
 rcases h.ex with⟨h1,_⟩ |⟨_,h2⟩
 .rw[h1]at hm;cases hm
 exact⟨.inr {e,h2.app k}⟩
theorem EE(f:FS)(h:16384<f.row.length):(lR f).gP=true:=by unfold lR;rw[az (.inr (.inr h))]
def nB:List (aa×aa)->List (aa×aa)->Prop
 |[],[]=>True|x::a,y::b=>x.1=y.1/\sM x.2 y.2/\nB a b
 |_,_=>False
noncomputable def wA(a:List (aa×aa)):aa:=a.flatMap fun x=>[32]++x.1++[61,34]++cP x.2++[34]
theorem nB.cases:∀{a b:List (aa×aa)},nB a b->b=a∨(16384<(wA a).length/\16384<(wA b).length)
 |[],[],_=>.inl rfl|x::a,y::b,h=>by
  obtain⟨h1,h2,h3⟩:=h;obtain⟨x1,x2⟩:=x;obtain⟨y1,y2⟩:=y;simp only at h1 h2;subst h1;have e1:(wA ((x1,x2)::a)).length=4+x1.length+(cP x2).length+(wA a).length:=by simp[wA];lia
  have e2:(wA ((x1,y2)::b)).length=4+x1.length+(cP y2).length+(wA b).length:=by simp[wA];lia
  have l1:=xX x2;have l2:=xX y2;rcases h2 with rfl |⟨c1,c2⟩
  .rcases h3.cases with rfl |⟨d1,d2⟩
   .exact .inl rfl
   exact .inr {by lia,by lia}
  exact .inr {by lia,by lia}
 |[],_::_,h=>h.elim|_::_,[],h=>h.elim
theorem adU{f:FS}{m:List aG}(h:gI f m)(hm:f.gP=false)(n:aa){a b:List (aa×aa)}(hc:nB a b):gI (E6 f n b) (m++[.open_ n a]):=by
 rcases h.ex with⟨_,E⟩ |⟨z,_⟩
 .have ew:write [] (m++[.open_ n a])=write [] m++([60]++n++wA a++[62]):=by rw[uD];simp[write,wA]
  rcases hc.cases with rfl |⟨c1,c2⟩
  .refine AD hm ?_ ?_ ?_ ?_ ?_ ?_
   .rw[ew,E.row];simp[wA]
   .rw[px,E.marks];simp[nm]
   .rw[lM,E.depth];simp[cY]
   .intro hl;rw[lM]at hl⊢;simp?[cY,bJ]at hl⊢;rw[qY,E.tq];simp?[bM,fz];rw[ao (show ¬ aov<=(cY [] m).length by show ¬ 32<=_;lia)]
   .intro hl;rw[lM]at hl;simp?[cY,bJ]at hl;rw[qY,E.tq];simp?[bM,fz];rw[az (show aov<=(cY [] m).length by show 32<=_;lia)]
   rw[pW];rfl
  refine⟨.inr {EE _ ?_,Ex ?_}⟩
  .show 16384<(f.row++[60]++n++wA b++[62]).length;simp?[cw];lia
  rw[x4,ew];simp?[DA,decide_eq_false_iff_not,cw];exact .inr (by lia)
 rw[hm]at z;cases z
theorem adQ{f:FS}{m:List aG}(h:gI f m)(hm:f.gP=false){n:aa}{s:List aa}(hs:cY [] m=n::s):gI (E5 f n) (m++[.close]):=by
 rcases h.ex with⟨_,E⟩ |⟨z,_⟩
 .refine AD hm ?_ ?_ ?_ ?_ ?_ ?_
  .rw[uD,E.row,hs];simp[write]
  .rw[px,E.marks];simp[nm]
  .rw[lM,E.depth,hs];simp[cY]
  .intro hl;rw[lM,qY,E.tq,hs];simp[cY,fz]
  .intro hl;have:=E.EL;rw[E.depth,hs]at this;rw[lM,hs]at hl;simp[cY]at hl this;lia
  rw[pW];rfl
 rw[hm]at z;cases z
theorem adZ{f:FS}{m:List aG}(h:gI f m)(hm:f.gP=false){t t':aa}(hc:sM t t'):gI (vz f t') (m++[.text t]):=by
 rcases h.ex with⟨_,E⟩ |⟨z,_⟩
 .have ea:cY [] (m++[.text t])=cY [] m:=by rw[lM];rfl
  have ed:fz 0 (m++[.text t])=some (cY [] m).length:=by rw[qY,E.tq];rfl
  have ew:write [] (m++[.text t])=write [] m++cP t:=by rw[uD];simp[write]
  have hl:=E.EL;rw[E.depth]at hl;rcases hc with rfl |⟨c1,c2⟩
  .cases t' with
   |nil=>
    have ef:vz f []=f:=rfl;rw[ef];refine⟨.inl {hm,?_,?_,?_,?_,?_,E.RC,E.EL,E.KZ}⟩
    .rw[ew,E.row];simp[cP]
    .rw[px,E.marks];simp[nm]
    .rw[ea,E.depth]
    .rw[ed,ea]
    rw[pW,E.behind];rfl
   |cons c r=>
    unfold vz;rw[ao (by simp)];split
    .rename_i hb;refine AD hm ?_ ?_ ?_ ?_ ?_ ?_
     .show f.row++cP (c::r)=_;rw[ew,E.row]
     .show f.marks=_;rw[px,←E.behind,hb,E.marks];simp[nm]
     .rw[ea];exact E.depth
     .intro _;rw[ed,ea]
     .intro hl';rw[ea]at hl';lia
     show f.behind=_;rw[pW,hb];rfl
    rename_i hb;simp?[Mm]at hb;refine AD hm ?_ ?_ ?_ ?_ ?_ ?_
    .show f.row++cP (c::r)=_;rw[ew,E.row]
    .show f.marks+1=_;rw[px,←E.behind,hb,E.marks];simp[nm]
    .rw[ea];exact E.depth
    .intro _;rw[ed,ea]
    .intro hl';rw[ea]at hl';lia
    rw[pW];rfl
  have hne:t'≠[]:=fun z=>by rw[z]at c2;simp at c2
  have l1:=xX t;have l2:=xX t';refine⟨.inr {?_,Ex ?_}⟩
  .unfold vz;rw[ao hne];split
   .refine EE _ ?_;show 16384<(f.row++cP t').length;simp?[cw];lia
   refine EE _ ?_;show 16384<(f.row++cP t').length;simp?[cw];lia
  rw[x4,ew];simp?[DA,decide_eq_false_iff_not,cw];exact .inr (by lia)
 rw[hm]at z;cases z
def yc:FS:={[],0,0,false,false}
theorem aeC:gI yc []:=⟨.inl {rfl,rfl,rfl,rfl,rfl,rfl,by decide,by decide,by decide}⟩
theorem gI.fin{f:FS}{m:List aG}(h:gI f m):(f.gP=true->fits (tidy m)=false)/\(f.gP=false->fits (tidy m)=true/\f.row=sv (tidy m)):=by
 rcases h.ex with⟨h1,E⟩ |⟨h1,B⟩
 .refine{fun z=>(by rw[h1]at z;cases z),fun _=>{?_,(by rw[Tf];exact E.row)}};rw[x4,E.tq];have a1:=E.RC;have a2:=E.KZ;rw[E.marks]at a1;rw[E.row]at a2;simp[a1,a2]
 refine{fun _=>(by have:=B [];rwa[ei]at this),fun z=>(by rw[h1]at z;cases z)}
structure MS where
 P:PL
 at_:Nat
 loops:List (List (List aG)×Nat)
 jc:List (PL×Nat)
 rounds:List (List aG)
 steps:Nat
 out:List aG
abbrev Sh:=List (aa×PL)
def dv(sh:Sh):Shelf:=sh.map fun q=>(q.1,cn q.2)
noncomputable def iA(sh:Sh)(n:aa):Option PL:=(sh.find? fun q=>q.1==n).map pK
def iT(σ:MS):Prop:=20000<σ.steps∨(σ.at_=σ.P.length/\σ.jc=[])
inductive di(sh:Sh):MS->MS->Prop|oV {σ:MS} {P':PL} {a:Nat} {rs:List (PL×Nat)}:σ.at_=σ.P.length->σ.jc=(P',a)::rs->di sh σ {σ with P:=P',at_:=a,jc:=rs}|use {σ:MS} {n:aa} {k:Nat} {Q:PL}:σ.P[σ.at_]?=some (.use n,k)->iA sh n=some Q->di sh σ {σ with jc:=(σ.P,σ.at_+1)::σ.jc,P:=Q,at_:=0,steps:=σ.steps+1}|bE {σ:MS} {ps:List eF} {k:Nat}:σ.P[σ.at_]?=some (.bE ps,k)->di sh σ {σ with at_:=σ.at_+1,steps:=σ.steps+1,out:=σ.out++[.text (filled σ.rounds ps)]}|aS {σ:MS} {n:aa} {a:List dF} {k:Nat}:σ.P[σ.at_]?=some (.aS n a,k)->di sh σ {σ with at_:=σ.at_+1,steps:=σ.steps+1,out:=σ.out++[.open_ n (a.map (value σ.rounds))]}|cls {σ:MS} {n:aa} {k:Nat} {s:List aa}:σ.P[σ.at_]?=some (.cls n,k)->cY [] σ.out=n::s->di sh σ {σ with at_:=σ.at_+1,steps:=σ.steps+1,out:=σ.out++[.close]}|kz {σ:MS} {h k:Nat} {n:aa}:σ.P[σ.at_]?=some (.aU h n,k)->h≠42->((h==63)==!(named σ.rounds n).isEmpty)=true->di sh σ {σ with at_:=σ.at_+1,steps:=σ.steps+1}|no {σ:MS} {h k:Nat} {n:aa}:σ.P[σ.at_]?=some (.aU h n,k)->h≠42->((h==63)==!(named σ.rounds n).isEmpty)=false->di sh σ {σ with at_:=k+1,steps:=σ.steps+1}|skip {σ:MS} {k:Nat} {n:aa}:σ.P[σ.at_]?=some (.aU 42 n,k)->(named σ.rounds n=[]∨σ.at_+1=k)->di sh σ {σ with at_:=k+1,steps:=σ.steps+1}|k8 {σ:MS} {k:Nat} {n:aa} {m:List aG} {ms:List (List aG)}:σ.P[σ.at_]?=some (.aU 42 n,k)->named σ.rounds n=m::ms->σ.at_+1≠k->di sh σ {σ with loops:=(m::ms,0)::σ.loops,rounds:=m::σ.rounds,at_:=σ.at_+1,steps:=σ.steps+1}|oT {σ:MS} {i h k:Nat} {n:aa}:σ.P[σ.at_]?=some (.fin,i)->σ.P[i]?=some (.aU h n,k)->h≠42->di sh σ {σ with at_:=σ.at_+1}|oU {σ:MS} {i k q:Nat} {n:aa} {row:List (List aG)} {ls:List (List (List aG)×Nat)} {m:List aG} {R:List (List aG)}:σ.P[σ.at_]?=some (.fin,i)->σ.P[i]?=some (.aU 42 n,k)->σ.loops=(row,q)::ls->row[q]?=some m->σ.rounds=m::R->q+1=row.length->di sh σ {σ with loops:=ls,rounds:=R,at_:=σ.at_+1}|again {σ:MS} {i k q:Nat} {n:aa} {row:List (List aG)} {ls:List (List (List aG)×Nat)} {m m':List aG} {R:List (List aG)}:σ.P[σ.at_]?=some (.fin,i)->σ.P[i]?=some (.aU 42 n,k)->σ.loops=(row,q)::ls->row[q]?=some m->σ.rounds=m::R->row[q+1]?=some m'->di sh σ {σ with loops:=(row,q+1)::ls,rounds:=m'::R,at_:=i+1}
inductive Go(sh:Sh):MS->Nat->MS->Prop|nil (σ:MS):Go sh σ 0 σ|cons {σ τ ρ:MS} {n:Nat}:¬ iT σ->di sh σ τ->Go sh τ n ρ->Go sh σ (n+1) ρ
theorem Go.trans{sh:Sh}{σ τ ρ:MS}{n m:Nat}(a:Go sh σ n τ):Go sh τ m ρ->∃k,Go sh σ k ρ:=by intro b;induction a with|nil=>exact{_,b}|cons h s _ ih=>obtain⟨k,g⟩:=ih b;exact{_,.cons h s g}
theorem Go.ko{sh:Sh}{σ τ:MS}(h:¬ iT σ)(s:di sh σ τ):Go sh σ 1 τ:=.cons h s (.nil _)
theorem amJ(sh:Sh)(n:aa):(((dv sh).find? fun q=>q.1==n).map pK).getD []=cn ((iA sh n).getD []):=by unfold dv iA;rw[My];have e:((fun q:aa×List iO=>q.1==n)∘fun q:aa×PL=>(q.1,cn q.2))=fun q=>q.1==n:=rfl;rw[e];cases sh.find? fun q=>q.1==n<;>rfl
theorem Code.body{P:PL}{i j:Nat}{s t:List aa}{ms:List MP}(c:Code P i j s t ms):∀(d:Nat) (r:List iO),xf d (ms.map toS++r)=(ms.map toS++(xf d r).1,(xf d r).2):=by
 induction c with
 |nil=>intro d r;rfl|aS e c ih |cls e c ih |bE e c ih |use e c ih=>intro d r;simp?[cI,fQ,toS,xf,ih]
 |aU e1 e2 cb c ihb ih=>intro d r;simp?[cI,dJ,fQ,fY,toS,xf,ihb,ih];simp
theorem Code.aa1{P:PL}{i j:Nat}{s t:List aa}{ms:List MP}(c:Code P i j s t ms)(r:List iO):xf 0 (ms.map toS++.end_::r)=(ms.map toS,r):=by rw[c.body];simp[xf]
def u4(R:List (List aG)):Prop:=∀r∈R,dW r/\r.length<=2048
theorem ajh{R:List (List aG)}{n:aa}{m:List aG}(h:m∈named R n):∃r∈R,∃k,(k,m)∈fK r:=by
 induction R with
 |nil=>simp[named]at h|cons r R ih=>
  unfold named at h ih;simp?[Mz]at h;split at h
  .rename_i l e;split at e
   .cases e
   rename_i l' e';injection e with e
   subst e;simp?[oy]at h;obtain⟨x,hx,rfl⟩:=bt.mp h;have:x∈(Ms (r.length+1) r).filter fun x=>x.1==n:=by cases hq:(Ms (r.length+1) r).filter fun x=>x.1==n with|nil=>exact aJ hq e'|cons y z=>rwa[←hq]
   exact{r,eS,x.1,(uK.mp this).1}
  obtain⟨r',h1,h2⟩:=ih h;exact{r',dq _ h1,h2}
theorem XD{m:List aG}(h:dW m):(fK m).length<=m.length:=by
 induction h with
 |nil=>simp[LG]|bE h ih=>rw[wN h];simp?[bJ];lia
 |oS hi hm _ ih=>rw[wM hi hm];simp?[bJ,cw];lia
theorem ajg{R:List (List aG)}{n:aa}(h:u4 R):(named R n).length<=2048:=by
 induction R with
 |nil=>simp[named]|cons r R ih=>
  have ih:=ih fun x hx=>h x (dq _ hx);unfold named at ih⊢;simp?[Mz];split
  .rename_i l e;split at e
   .cases e
   injection e with e;subst e;simp?[oy,bL];obtain⟨h1,h2⟩:=h r eS;have a:=XD h1;have b:=xi (fun x=>x.1==n) (Ms (r.length+1) r);unfold fK at a;lia
  exact ih
theorem u4.named{R:List (List aG)}{n:aa}(h:u4 R){m:List aG}(hm:m∈named R n):u4 (m::R):=by
 obtain⟨r,h1,k,h2⟩:=ajh hm;obtain⟨h3,h4⟩:=h r h1;obtain⟨h5,h6⟩:=amW h3 _ h2;intro x hx;rcases bw.mp hx with rfl |hx
 .exact{h5,by simp only at h6;lia}
 exact h x hx
structure Ek(sh:Sh):Prop where
 code:∀n Q,iA sh n=some Q->Code Q 0 Q.length [] [] (Q.map (·.1))
 uses:∀n Q,iA sh n=some Q->∀m,MP.use m∈Q.map (·.1)->(iA sh m).isSome=true
def ia(left:Nat):Nat:=2050*left+1
def nH(sh:Sh)(σ:MS)(j:Nat)(s0 t:List aa)(left:Nat):Option (List aG×Nat)->Prop|some (o,left')=>left'<=left/\cY [] (σ.out++o)=t++s0/\∃n,Go sh σ n {σ with at_:=j,steps:=20000-left',out:=σ.out++o}|none=>∃n τ,Go sh σ n τ/\20000<τ.steps
def Np(sh:Sh)(left:Nat):Prop:=∀(f:Nat) (i j:Nat) (s t:List aa) (ms:List MP) (σ:MS) (s0:List aa),ia left<=f->Code σ.P i j s t ms->(∀m,MP.use m∈ms->(iA sh m).isSome=true)->σ.at_=i->j<=σ.P.length->σ.steps+left=20000->cY [] σ.out=s++s0->u4 σ.rounds->nH sh σ j s0 t left (fill (dv sh) f σ.rounds (ms.map toS) left)
theorem rV{σ:MS}(h1:σ.steps<=20000)(h2:σ.at_<σ.P.length):¬ iT σ:=fun h=>by rcases h with h |⟨h,_⟩<;>lia
theorem nH.go{sh:Sh}{σ τ:MS}{j:Nat}{s0 t:List aa}{left left':Nat}{k:Nat}{o:List aG}(g:Go sh σ k τ)(e1:τ.P=σ.P)(e2:τ.loops=σ.loops)(e3:τ.jc=σ.jc)(e4:τ.rounds=σ.rounds)(e5:τ.out=σ.out++o)(hl:left'<=left):
  ∀{x:Option (List aG×Nat)},nH sh τ j s0 t left' x->nH sh σ j s0 t left (x.map fun y=>(o++y.1,y.2))
 |none,h=>by obtain⟨n,ρ,g',h'⟩:=h;obtain⟨m,Hm⟩:=g.trans g';exact{(m),ρ,Hm,h'}|some (o',l'),h=>by
  obtain⟨h1,h2,n,g'⟩:=h;obtain⟨m,Hm⟩:=g.trans g';refine{jk h1 hl,?_,m,?_}
  .rwa[e5,fY]at h2
  have:({τ with at_:=j,steps:=20000-l',out:=τ.out++o'}:MS)={σ with at_:=j,steps:=20000-l',out:=σ.out++(o++o')}:=by rw[e1,e2,e3,e4,e5,fY]
  rw[←this];exact Hm
theorem OC(sh:Shelf)(R:List (List aG))(left:Nat):∀(ms:List (List aG)) (f:Nat),ms.length+2<=f->each sh f R ms [] left=some ([],left)
 |[],f,h=>by cases f with
  |zero=>lia|succ f=>rw[each]
 |m::ms,f,h=>by cases f with
  |zero=>lia|succ f=>simp?[bJ]at h;cases f with|zero=>lia|succ f=>rw[each,fill];simp[OC sh R left ms (f+1) (by lia)]
theorem rO{P:PL}{i:Nat}{x:MP×Nat}(h:P[i]?=some x):i<P.length:=(fB.mp h).1
theorem Jp{a b:Nat}(h:a<=b):ia a<=ia b:=by unfold ia;lia
theorem BM{a f:Nat}(h:ia a<=f):∃g,f=g+1:={f-1,by unfold ia at h;lia}
theorem adC{sh:Sh}{left:Nat}(IH:∀l,l<=left->Np sh l){P:PL}{i k:Nat}{n:aa}{bs:List MP}(e1:P[i]?=some (.aU 42 n,k))(e2:P[k]?=some (.fin,i))(cb:Code P (i+1) k [] [] bs)(hu:∀m,MP.use m∈bs->(iA sh m).isSome=true)
  {R:List (List aG)}{ls:List (List (List aG)×Nat)}{row:List (List aG)}(hrow:∀m∈row,u4 (m::R)):∀(ms:List (List aG)) (m:List aG) (q f l:Nat) (σ:MS) (s0:List aa),row.drop q=m::ms->σ.loops=(row,q)::ls->σ.rounds=m::R->σ.at_=i+1->σ.P=P->
   σ.steps+l=20000->l<=left->ms.length+1+ia l<=f->cY [] σ.out=s0->
   match each (dv sh) f R (m::ms) (bs.map toS) l with|some (o,l')=>l'<=l/\cY [] (σ.out++o)=s0/\∃c,Go sh σ c {σ with loops:=ls,rounds:=R,at_:=k+1,steps:=20000-l',out:=σ.out++o}|none=>∃c τ,Go sh σ c τ/\20000<τ.steps:=by
 intro ms;induction ms with
 |nil=>
  intro m q f l σ s0 hd hl hr ha hP hs qi hf HS;obtain⟨f',rfl⟩:=BM (a:=l) (f:=f) (by lia);rw[each];have lk:k<P.length:=rO e2
  have hmem:m∈row:=by have:m∈row.drop q:=by rw[hd];exact eS
                      exact aoZ this
  have S:=IH l qi f' (i+1) k [] [] bs σ s0 (by lia) (by rwa[hP]) hu ha (by rw[hP];lia) hs (by rw[HS];rfl) (by rw[hr];exact hrow m hmem);rw[hr]at S;cases hx:fill (dv sh) f' (m::R) (bs.map toS) l with
  |none=>rw[hx]at S;exact S|some x=>
   obtain⟨o,l'⟩:=x;rw[hx]at S;obtain⟨h1,h2,c,g⟩:=S;have hq:q+1=row.length:=by have:=eU kE hd;simp?[zS,bJ,ox]at this;lia
   have HU:row[q]?=some m:=by
    have:(row.drop q)[0]?=some m:=by rw[hd];rfl
    simpa using this
   obtain⟨f'',rfl⟩:∃g,f'=g+1:={f'-1,by unfold ia at hf;simp at hf;lia};have he:each (dv sh) (f''+1) R [] (bs.map toS) l'=some ([],l'):=by rw[each]
   simp?[ni,bM,he,ei];have st:di sh {σ with at_:=k,steps:=20000-l',out:=σ.out++o} _:=di.oU (i:=i) (k:=k) (n:=n) (by simp?[hP];exact e2) (by simp?[hP];exact e1) hl HU hr hq;have nf:¬ iT {σ with at_:=k,steps:=20000-l',out:=σ.out++o}:=rV (by simp) (by simp?[hP];exact lk);obtain⟨c',g'⟩:=g.trans (Go.ko nf st);exact{(h1),h2,c',g'}
 |cons m2 ms ih=>
  intro m q f l σ s0 hd hl hr ha hP hs qi hf HS;obtain⟨f',rfl⟩:=BM (a:=l) (f:=f) (by lia);rw[each];have lk:k<P.length:=rO e2
  have hmem:m∈row:=by have:m∈row.drop q:=by rw[hd];exact eS
                      exact aoZ this
  simp?[bJ]at hf;have S:=IH l qi f' (i+1) k [] [] bs σ s0 (by lia) (by rwa[hP]) hu ha (by rw[hP];lia) hs (by rw[HS];rfl) (by rw[hr];exact hrow m hmem);rw[hr]at S;cases hx:fill (dv sh) f' (m::R) (bs.map toS) l with
  |none=>rw[hx]at S;exact S|some x=>
   obtain⟨o,l'⟩:=x;rw[hx]at S;obtain⟨h1,h2,c,g⟩:=S;have HU:row[q]?=some m:=by
    have:(row.drop q)[0]?=some m:=by rw[hd];rfl
    simpa using this
   have agi:row[q+1]?=some m2:=by
    have:(row.drop q)[1]?=some m2:=by rw[hd];rfl
    simpa using this
   have hd2:row.drop (q+1)=m2::ms:=by
    have:(row.drop q).drop 1=m2::ms:=by rw[hd];rfl
    rwa[aoK]at this
   have st:di sh {σ with at_:=k,steps:=20000-l',out:=σ.out++o} _:=di.again (i:=i) (k:=k) (n:=n) (by simp?[hP];exact e2) (by simp?[hP];exact e1) hl HU hr agi;have nf:¬ iT {σ with at_:=k,steps:=20000-l',out:=σ.out++o}:=rV (by simp) (by simp?[hP];exact lk);obtain⟨c',g'⟩:=g.trans (Go.ko nf st);have T:=ih m2 (q+1) f' l' {σ with loops:=(row,q+1)::ls,rounds:=m2::R,at_:=i+1,steps:=20000-l',out:=σ.out++o} s0 hd2 rfl rfl rfl hP (by simp only;lia) (by lia) (by have:=Jp h1;lia) h2;simp?[ni,bM];cases hy:each (dv sh) f' R (m2::ms) (bs.map toS) l' with
   |none=>rw[hy]at T;obtain⟨c2,τ,g2,h3⟩:=T;obtain⟨c3,g3⟩:=g'.trans g2;exact{(c3),τ,g3,h3}|some y=>
    obtain⟨o2,l2⟩:=y;rw[hy]at T;obtain⟨h3,h4,c2,g2⟩:=T;obtain⟨c3,g3⟩:=g'.trans g2;refine{by lia,?_,c3,?_}
    .rwa[fY]at h4
    simp?[fY]at g3;exact g3
theorem abe{P:PL}{i:Nat}{s t:List aa}{ms:List MP}(c:Code P i i s t ms):ms=[]:=by have:=c.V4;simpa using this
theorem sim{sh:Sh}(hs:Ek sh):∀left,Np sh left:=by
 intro left;induction left using Nat.strongRecOn with
 |ind left IH=>
  intro f i j s t ms σ s0 hf c hu hat hj hst nY hR;obtain⟨f,rfl⟩:=BM hf;cases c with
  |nil=>
   have e:fill (dv sh) (f+1) σ.rounds (([]:List MP).map toS) left=some ([],left):=by rw[lF,fill]
   rw[e];refine{bR _,by rw[ei];exact nY,0,?_};have:({σ with at_:=i,steps:=20000-left,out:=σ.out++[]}:MS)=σ:=by cases σ;simp?[ei]at*;subst hat;congr 1;lia
   rw[this];exact .nil _
  |@aS _ _ _ _ ms n a k e c=>
   have li:=rO e;have nf:¬ iT σ:=rV (by lia) (by lia);have g:=Go.ko nf (di.aS (sh:=sh) (σ:=σ) (by rwa[hat]));cases left with
   |zero=>rw[cI,fill];exact{1,_,g,by simp only;lia}|succ left=>
    have S:=IH left (gF _) f (i+1) j (n::s) t ms {σ with at_:=σ.at_+1,steps:=σ.steps+1,out:=σ.out++[.open_ n (a.map (value σ.rounds))]} s0 (by unfold ia at hf⊢;lia) c (fun m hm=>hu m (dq _ hm))
     (by simp?[hat]) hj (by simp only;lia) (by simp only;rw[lM,nY];rfl) hR
    have T:=nH.go g rfl rfl rfl rfl rfl (uM left) S;rw[cI];have e2:fill (dv sh) (f+1) σ.rounds (toS (.aS n a)::ms.map toS) (left+1)=(fill (dv sh) f σ.rounds (ms.map toS) left).map fun x=>([.open_ n (a.map (value σ.rounds))]++x.1,x.2):=by simp?[toS];rw[fill];rfl
    rw[e2];exact T
  |@cls _ _ s _ ms n k e c=>
   have li:=rO e;have nf:¬ iT σ:=rV (by lia) (by lia);have g:=Go.ko nf (di.cls (sh:=sh) (σ:=σ) (by rwa[hat]) nY);cases left with
   |zero=>rw[cI,fill];exact{1,_,g,by simp only;lia}|succ left=>
    have S:=IH left (gF _) f (i+1) j s t ms {σ with at_:=σ.at_+1,steps:=σ.steps+1,out:=σ.out++[.close]} s0 (by unfold ia at hf⊢;lia) c (fun m hm=>hu m (dq _ hm))
     (by simp?[hat]) hj (by simp only;lia) (by simp only;rw[lM,nY];rfl) hR
    have T:=nH.go g rfl rfl rfl rfl rfl (uM left) S;rw[cI];have e2:fill (dv sh) (f+1) σ.rounds (toS (.cls n)::ms.map toS) (left+1)=(fill (dv sh) f σ.rounds (ms.map toS) left).map fun x=>([.close]++x.1,x.2):=by simp?[toS];rw[fill];rfl
    rw[e2];exact T
  |@bE _ _ _ _ ms ps k e c=>
   have li:=rO e;have nf:¬ iT σ:=rV (by lia) (by lia);have g:=Go.ko nf (di.bE (sh:=sh) (σ:=σ) (by rwa[hat]));cases left with
   |zero=>rw[cI,fill];exact{1,_,g,by simp only;lia}|succ left=>
    have S:=IH left (gF _) f (i+1) j s t ms {σ with at_:=σ.at_+1,steps:=σ.steps+1,out:=σ.out++[.text (filled σ.rounds ps)]} s0 (by unfold ia at hf⊢;lia) c (fun m hm=>hu m (dq _ hm))
     (by simp?[hat]) hj (by simp only;lia) (by simp only;rw[lM,nY];rfl) hR
    have T:=nH.go g rfl rfl rfl rfl rfl (uM left) S;rw[cI];have e2:fill (dv sh) (f+1) σ.rounds (toS (.bE ps)::ms.map toS) (left+1)=(fill (dv sh) f σ.rounds (ms.map toS) left).map fun x=>([.text (filled σ.rounds ps)]++x.1,x.2):=by simp?[toS];rw[fill];rfl
    rw[e2];exact T
  |@use _ _ _ _ ms n k e c=>
   have li:=rO e;have nf:¬ iT σ:=rV (by lia) (by lia);obtain⟨Q,hQ⟩:=ao7.mp (hu n eS);have g:=Go.ko nf (di.use (sh:=sh) (σ:=σ) (by rwa[hat]) hQ);cases left with
   |zero=>rw[cI,fill];exact{1,_,g,by simp only;lia}|succ left=>
    rw[cI];have e2:fill (dv sh) (f+1) σ.rounds (toS (.use n)::ms.map toS) (left+1)=(fill (dv sh) f σ.rounds ((Q.map (·.1)).map toS) left).bind fun x=>(fill (dv sh) f σ.rounds (ms.map toS) x.2).map fun y=>(x.1++y.1,y.2):=by
     simp?[toS];rw[fill];rw[amJ,hQ];have:cn (Option.getD (some Q) [])=(Q.map (·.1)).map toS:=by simp[cn]
     rw[this];cases fill (dv sh) f σ.rounds ((Q.map (·.1)).map toS) left with|none=>rfl|some x=>simp only[ni,bM];cases fill (dv sh) f σ.rounds (ms.map toS) x.2<;>rfl
    rw[e2];have S:=IH left (gF _) f 0 Q.length [] [] (Q.map (·.1)) {σ with jc:=(σ.P,σ.at_+1)::σ.jc,P:=Q,at_:=0,steps:=σ.steps+1} (s++s0) (by unfold ia at hf⊢;lia) (hs.code n Q hQ) (hs.uses n Q hQ) rfl (bR _) (by simp only;lia) nY hR;simp only at S;cases hx:fill (dv sh) f σ.rounds ((Q.map (·.1)).map toS) left with
    |none=>rw[hx]at S;obtain⟨c1,τ,g1,h1⟩:=S;obtain⟨c2,g2⟩:=g.trans g1;exact{(c2),τ,g2,h1}|some x=>
     obtain⟨o,l'⟩:=x;rw[hx]at S;obtain⟨h1,h2,c1,g1⟩:=S;obtain⟨c2,g2⟩:=g.trans g1;have nf2:¬ iT {σ with jc:=(σ.P,σ.at_+1)::σ.jc,P:=Q,at_:=Q.length,steps:=20000-l',out:=σ.out++o}:=fun h=>by
      rcases h with h |⟨_,h⟩
      .simp only at h;lia
      simp at h
     obtain⟨c3,g3⟩:=g2.trans (Go.ko nf2 (di.oV rfl rfl));have T:=IH l' (by lia) f (i+1) j s t ms {σ with at_:=σ.at_+1,steps:=20000-l',out:=σ.out++o} s0 (by have:=Jp h1;unfold ia at hf this⊢;lia) c (fun m hm=>hu m (dq _ hm)) (by simp?[hat]) hj (by simp only;lia) h2 hR;simp?[bM];exact nH.go g3 rfl rfl rfl rfl rfl (by lia) T
  |@aU _ _ k _ _ ms bs h n e1 e2 cb c=>
   have li:=rO e1;have lk:=rO e2;have nf:¬ iT σ:=rV (by lia) (by lia);have Qv:∀m,MP.use m∈bs->(iA sh m).isSome=true:=fun m hm=>hu m (dq _ (nh _ hm));have hum:∀m,MP.use m∈ms->(iA sh m).isSome=true:=fun m hm=>hu m (dq _ (mo _ (dq _ hm)));have eP:σ.P[σ.at_]?=some (.aU h n,k):=by rwa[hat]
   have amO:∃τ,di sh σ τ/\τ.steps=σ.steps+1:=by
    by_cases h42:h=42
    .subst h42;cases hn:named σ.rounds n with
     |nil=>exact{_,.skip eP (.inl hn),rfl}|cons m r=>
      by_cases hk:σ.at_+1=k
      .exact{_,.skip eP (.inr hk),rfl}
      exact{_,.k8 eP hn hk,rfl}
    cases hb:((h==63)==!(named σ.rounds n).isEmpty)with|true=>exact{_,.kz eP h42 hb,rfl}|false=>exact{_,.no eP h42 hb,rfl}
   cases left with
   |zero=>obtain⟨τ,st,h1⟩:=amO;rw[cI,fill];exact{1,τ,Go.ko nf st,by lia}|succ left=>
    have eb:body 0 ((bs++MP.fin::ms).map toS)=(bs.map toS,ms.map toS):=by rw[dJ,cI];exact cb.aa1 _
    have ef:fill (dv sh) (f+1) σ.rounds ((MP.aU h n::(bs++MP.fin::ms)).map toS) (left+1)=
      (if h=42 then each (dv sh) f σ.rounds (named σ.rounds n) (bs.map toS) left else if ((h==63)==!(named σ.rounds n).isEmpty)=true then fill (dv sh) f σ.rounds (bs.map toS) left else some ([],left)).bind fun x=>(fill (dv sh) f σ.rounds (ms.map toS) x.2).map fun y=>(x.1++y.1,y.2):=by
     rw[cI];simp?[toS];rw[fill];simp?[eb];have EA:∀(z:Option (List aG×Nat)),(z.bind fun x=>(fill (dv sh) f σ.rounds (ms.map toS) x.2).bind fun y=>some (x.1++y.1,y.2))=z.bind fun x=>(fill (dv sh) f σ.rounds (ms.map toS) x.2).map fun y=>(x.1++y.1,y.2):=fun z=>by congr 1;funext x;exact bm
     by_cases h42:h=42
     .rw[az h42,az h42];exact EA _
     rw[ao h42,ao h42];split
     .exact EA _
     exact EA _
    rw[ef]
    have rest:∀(o:List aG) (l':Nat),l'<=left->cY [] (σ.out++o)=s++s0->(∃m,Go sh σ m {σ with at_:=k+1,steps:=20000-l',out:=σ.out++o})->
      nH sh σ j s0 t (left+1) ((fill (dv sh) f σ.rounds (ms.map toS) l').map fun y=>(o++y.1,y.2)):=fun o l' hl ho hg=>by
     obtain⟨m,g⟩:=hg;have T:=IH l' (by lia) f (k+1) j s t ms {σ with at_:=k+1,steps:=20000-l',out:=σ.out++o} s0 (by have:=Jp hl;unfold ia at hf this⊢;lia) c hum rfl hj (by simp only;lia) ho hR;exact nH.go g rfl rfl rfl rfl rfl (by lia) T
    have stepNo:∀{τ:MS},di sh σ τ->τ={σ with at_:=k+1,steps:=σ.steps+1}->∃m,Go sh σ m {σ with at_:=k+1,steps:=20000-left,out:=σ.out++[]}:=fun{τ} st et=>by
     subst et;refine{1,?_};have:({σ with at_:=k+1,steps:=20000-left,out:=σ.out++[]}:MS)={σ with at_:=k+1,steps:=σ.steps+1}:=by rw[ei];congr 1;lia
     rw[this];exact Go.ko nf st
    by_cases h42:h=42
    .subst h42;rw[az rfl];cases hn:named σ.rounds n with
     |nil=>
      obtain⟨f',rfl⟩:=BM (a:=left) (f:=f) (by unfold ia at hf⊢;lia);have:each (dv sh) (f'+1) σ.rounds [] (bs.map toS) left=some ([],left):=by rw[each]
      rw[this];exact rest [] left (bR _) (by rwa[ei]) (stepNo (.skip eP (.inl hn)) rfl)
     |cons m r=>
      have hlen:(m::r).length<=2048:=by rw[←hn];exact ajg hR
      simp?[bJ]at hlen;by_cases hk:σ.at_+1=k
      .have fW:bs=[]:=by rw[hat]at hk;subst hk;exact abe cb
       rw[fW,lF,OC _ _ _ _ _ (by simp?[bJ];unfold ia at hf;lia)];exact rest [] left (bR _) (by rwa[ei]) (stepNo (.skip eP (.inr hk)) rfl)
      have g:=Go.ko nf (di.k8 (sh:=sh) eP hn hk);have E:=adC (sh:=sh) (left:=left) (fun l hl=>IH l (by lia)) e1 e2 cb Qv (R:=σ.rounds) (ls:=σ.loops) (row:=m::r) (fun x hx=>hR.named (n:=n) (by rwa[hn])) r m 0 f left
       {σ with loops:=(m::r,0)::σ.loops,rounds:=m::σ.rounds,at_:=σ.at_+1,steps:=σ.steps+1} (s++s0) rfl rfl rfl (by simp?[hat]) rfl (by simp only;lia) (bR _) (by unfold ia at hf⊢;lia) nY
      cases hx:each (dv sh) f σ.rounds (m::r) (bs.map toS) left with|none=>rw[hx]at E;obtain⟨c1,τ,g1,h1⟩:=E;obtain⟨c2,g2⟩:=g.trans g1;exact{(c2),τ,g2,h1}|some x=>obtain⟨o,l'⟩:=x;rw[hx]at E;obtain⟨h1,h2,c1,g1⟩:=E;exact rest o l' h1 h2 (g.trans g1)
    rw[ao h42];cases hb:((h==63)==!(named σ.rounds n).isEmpty)with|false=>simp?[eE,cT];exact rest [] left (bR _) (by rwa[ei]) (stepNo (.no eP h42 hb) rfl)|true=>simp?[du];have g:=Go.ko nf (di.kz (sh:=sh) eP h42 hb);have S:=IH left (gF _) f (i+1) k [] [] bs {σ with at_:=σ.at_+1,steps:=σ.steps+1} (s++s0) (by unfold ia at hf⊢;lia) cb Qv (by simp?[hat]) (by simp only;lia) (by simp only;lia) nY hR;simp only at S;cases hx:fill (dv sh) f σ.rounds (bs.map toS) left with|none=>rw[hx]at S;obtain⟨c1,τ,g1,h1⟩:=S;obtain⟨c2,g2⟩:=g.trans g1;exact{(c2),τ,g2,h1}|some x=>obtain⟨o,l'⟩:=x;rw[hx]at S;obtain⟨h1,h2,c1,g1⟩:=S;have st:di sh {σ with at_:=k,steps:=20000-l',out:=σ.out++o} _:=di.oT (i:=i) (h:=h) (n:=n) (k:=k) e2 e1 h42;have nf2:¬ iT {σ with at_:=k,steps:=20000-l',out:=σ.out++o}:=rV (by simp) lk;obtain⟨c2,g2⟩:=g1.trans (Go.ko nf2 st);exact rest o l' h1 h2 (g.trans g2)
def uc(P:PL)(data:List aG):MS:={P,0,[],[],[data],0,[]}
theorem alK{sh:Sh}(hs:Ek sh){n:aa}{P:PL}(hP:iA sh n=some P){data:List aG}(hb:dW data)(hl:data.length<=2048):
  ∃c τ,Go sh (uc P data) c τ/\iT τ/\match m9 (dv sh) (cn P) data with
   |none=>20000<τ.steps|some r=>τ.steps<=20000/\r=aoC τ.out:=by
 have es:cn P=(P.map (fun x:MP×Nat=>x.1)).map toS:=by simp[cn]
 have hn:ia 20000<=xc:=by
  have:xc=1099511627776:=by unfold xc;rfl
  rw[this];unfold ia;lia
 have S:=sim hs 20000 xc 0 P.length [] [] (P.map (fun x:MP×Nat=>x.1)) (uc P data) [] hn (hs.code n P hP) (hs.uses n P hP) rfl (bR _) (by simp[uc]) rfl (fun r hr=>by
  have:r=data:=by simpa[uc]using hr
  subst this;exact{(hb),hl})
 have em:m9 (dv sh) (cn P) data=(fill (dv sh) xc [data] ((P.map (fun x:MP×Nat=>x.1)).map toS) 20000).map fun x=>aoC x.1:=by unfold m9;rw[es];rfl
 rw[em];have S:nH sh (uc P data) P.length [] [] 20000 (fill (dv sh) xc [data] ((P.map (fun x:MP×Nat=>x.1)).map toS) 20000):=S;cases hx:fill (dv sh) xc [data] ((P.map (fun x:MP×Nat=>x.1)).map toS) 20000 with|none=>rw[hx]at S;obtain⟨c,τ,g,h⟩:=S;exact{c,τ,g,.inl h,h}|some x=>obtain⟨o,l'⟩:=x;rw[hx]at S;obtain⟨h1,h2,c,g⟩:=S;exact{c,_,g,.inr {(rfl),rfl},by simp,rfl}
section
theorem qT{σ:MS}{x:MP×Nat}(h:σ.P[σ.at_]?=some x)(e:σ.at_=σ.P.length):False:=by rw[e,YL (bR _)]at h;cases h
section
variable{sh:Sh}{σ τ:MS}{k:Nat}
theorem agX{n:aa}(h:σ.P[σ.at_]?=some (.use n,k))(st:di sh σ τ):∃Q,iA sh n=some Q/\τ={σ with jc:=(σ.P,σ.at_+1)::σ.jc,P:=Q,at_:=0,steps:=σ.steps+1}:=by
 cases st with
 |oV h1 h2=>exact(qT h h1).elim|use h1 h2=>rw[h]at h1;cases h1;exact{_,h2,rfl}
 |bE h1=>rw[h]at h1;cases h1|aS h1=>rw[h]at h1;cases h1
 |cls h1 h2=>rw[h]at h1;cases h1|kz h1 h2 h3=>rw[h]at h1;cases h1
 |no h1 h2 h3=>rw[h]at h1;cases h1|skip h1 h2=>rw[h]at h1;cases h1
 |k8 h1 h2 h3=>rw[h]at h1;cases h1|oT h1 h2 h3=>rw[h]at h1;cases h1
 |oU h1 h2 h3 h4 h5 h6=>rw[h]at h1;cases h1|again h1 h2 h3 h4 h5 h6=>rw[h]at h1;cases h1
theorem agW{ps:List eF}(h:σ.P[σ.at_]?=some (.bE ps,k))(st:di sh σ τ):τ={σ with at_:=σ.at_+1,steps:=σ.steps+1,out:=σ.out++[.text (filled σ.rounds ps)]}:=by
 cases st with
 |oV h1 h2=>exact(qT h h1).elim|use h1 h2=>rw[h]at h1;cases h1
 |bE h1=>rw[h]at h1;cases h1;rfl|aS h1=>rw[h]at h1;cases h1
 |cls h1 h2=>rw[h]at h1;cases h1|kz h1 h2 h3=>rw[h]at h1;cases h1
 |no h1 h2 h3=>rw[h]at h1;cases h1|skip h1 h2=>rw[h]at h1;cases h1
 |k8 h1 h2 h3=>rw[h]at h1;cases h1|oT h1 h2 h3=>rw[h]at h1;cases h1
 |oU h1 h2 h3 h4 h5 h6=>rw[h]at h1;cases h1|again h1 h2 h3 h4 h5 h6=>rw[h]at h1;cases h1
theorem agU{n:aa}{a:List dF}(h:σ.P[σ.at_]?=some (.aS n a,k))(st:di sh σ τ):τ={σ with at_:=σ.at_+1,steps:=σ.steps+1,out:=σ.out++[.open_ n (a.map (value σ.rounds))]}:=by
 cases st with
 |oV h1 h2=>exact(qT h h1).elim|use h1 h2=>rw[h]at h1;cases h1
 |bE h1=>rw[h]at h1;cases h1|aS h1=>rw[h]at h1;cases h1;rfl
 |cls h1 h2=>rw[h]at h1;cases h1|kz h1 h2 h3=>rw[h]at h1;cases h1
 |no h1 h2 h3=>rw[h]at h1;cases h1|skip h1 h2=>rw[h]at h1;cases h1
 |k8 h1 h2 h3=>rw[h]at h1;cases h1|oT h1 h2 h3=>rw[h]at h1;cases h1
 |oU h1 h2 h3 h4 h5 h6=>rw[h]at h1;cases h1|again h1 h2 h3 h4 h5 h6=>rw[h]at h1;cases h1
theorem QP{n:aa}(h:σ.P[σ.at_]?=some (.cls n,k))(st:di sh σ τ):(∃s,cY [] σ.out=n::s)/\τ={σ with at_:=σ.at_+1,steps:=σ.steps+1,out:=σ.out++[.close]}:=by
 cases st with
 |oV h1 h2=>exact(qT h h1).elim|use h1 h2=>rw[h]at h1;cases h1
 |bE h1=>rw[h]at h1;cases h1|aS h1=>rw[h]at h1;cases h1
 |cls h1 h2=>rw[h]at h1;cases h1;exact{{_,h2},rfl}|kz h1 h2 h3=>rw[h]at h1;cases h1
 |no h1 h2 h3=>rw[h]at h1;cases h1|skip h1 h2=>rw[h]at h1;cases h1
 |k8 h1 h2 h3=>rw[h]at h1;cases h1|oT h1 h2 h3=>rw[h]at h1;cases h1
 |oU h1 h2 h3 h4 h5 h6=>rw[h]at h1;cases h1|again h1 h2 h3 h4 h5 h6=>rw[h]at h1;cases h1
theorem agR{w:Nat}{n:aa}(hw:w≠42)(h:σ.P[σ.at_]?=some (.aU w n,k))(st:di sh σ τ):τ={σ with at_:=if ((w==63)==!(named σ.rounds n).isEmpty)=true then σ.at_+1 else k+1,steps:=σ.steps+1}:=by
 cases st with
 |oV h1 h2=>exact(qT h h1).elim|use h1 h2=>rw[h]at h1;cases h1
 |bE h1=>rw[h]at h1;cases h1|aS h1=>rw[h]at h1;cases h1
 |cls h1 h2=>rw[h]at h1;cases h1|kz h1 h2 h3=>rw[h]at h1;cases h1;rw[az h3]
 |no h1 h2 h3=>rw[h]at h1;cases h1;rw[ao (by rw[h3];decide)]|skip h1 h2=>rw[h]at h1;cases h1;exact aJ rfl hw
 |k8 h1 h2 h3=>rw[h]at h1;cases h1;exact aJ rfl hw|oT h1 h2 h3=>rw[h]at h1;cases h1
 |oU h1 h2 h3 h4 h5 h6=>rw[h]at h1;cases h1|again h1 h2 h3 h4 h5 h6=>rw[h]at h1;cases h1
theorem QQ{n:aa}(h:σ.P[σ.at_]?=some (.aU 42 n,k))(st:di sh σ τ):((named σ.rounds n=[]∨σ.at_+1=k)/\τ={σ with at_:=k+1,steps:=σ.steps+1})∨
  ∃m ms,named σ.rounds n=m::ms/\σ.at_+1≠k/\τ={σ with loops:=(m::ms,0)::σ.loops,rounds:=m::σ.rounds,at_:=σ.at_+1,steps:=σ.steps+1}:=by
 cases st with
 |oV h1 h2=>exact(qT h h1).elim|use h1 h2=>rw[h]at h1;cases h1
 |bE h1=>rw[h]at h1;cases h1|aS h1=>rw[h]at h1;cases h1
 |cls h1 h2=>rw[h]at h1;cases h1|kz h1 h2 h3=>rw[h]at h1;cases h1;exact aJ rfl h2
 |no h1 h2 h3=>rw[h]at h1;cases h1;exact aJ rfl h2|skip h1 h2=>rw[h]at h1;cases h1;exact .inl {(h2),rfl}
 |k8 h1 h2 h3=>rw[h]at h1;cases h1;exact .inr {_,_,h2,h3,rfl}|oT h1 h2 h3=>rw[h]at h1;cases h1
 |oU h1 h2 h3 h4 h5 h6=>rw[h]at h1;cases h1|again h1 h2 h3 h4 h5 h6=>rw[h]at h1;cases h1
theorem agT{i:Nat}(h:σ.P[σ.at_]?=some (.fin,i))(st:di sh σ τ):(∃w n k,σ.P[i]?=some (.aU w n,k)/\w≠42/\τ={σ with at_:=σ.at_+1})∨
  (∃n k row q ls m R,σ.P[i]?=some (.aU 42 n,k)/\σ.loops=(row,q)::ls/\row[q]?=some m/\σ.rounds=m::R/\((q+1=row.length/\τ={σ with loops:=ls,rounds:=R,at_:=σ.at_+1})∨∃m',row[q+1]?=some m'/\τ={σ with loops:=(row,q+1)::ls,rounds:=m'::R,at_:=i+1})):=by
 cases st with
 |oV h1 h2=>exact(qT h h1).elim|use h1 h2=>rw[h]at h1;cases h1
 |bE h1=>rw[h]at h1;cases h1|aS h1=>rw[h]at h1;cases h1
 |cls h1 h2=>rw[h]at h1;cases h1|kz h1 h2 h3=>rw[h]at h1;cases h1
 |no h1 h2 h3=>rw[h]at h1;cases h1|skip h1 h2=>rw[h]at h1;cases h1
 |k8 h1 h2 h3=>rw[h]at h1;cases h1|oT h1 h2 h3=>rw[h]at h1;cases h1;exact .inl {_,_,_,h2,h3,rfl}
 |oU h1 h2 h3 h4 h5 h6=>rw[h]at h1;cases h1;exact .inr {_,_,_,_,_,_,_,h2,h3,h4,h5,.inl {(h6),rfl}}|again h1 h2 h3 h4 h5 h6=>rw[h]at h1;cases h1;exact .inr {_,_,_,_,_,_,_,h2,h3,h4,h5,.inr {_,h6,rfl}}
theorem agS(h:σ.at_=σ.P.length)(st:di sh σ τ):∃P' a rs,σ.jc=(P',a)::rs/\τ={σ with P:=P',at_:=a,jc:=rs}:=by
 have no:∀{x:MP×Nat},σ.P[σ.at_]?=some x->False:=fun q=>qT q h;cases st with
 |oV h1 h2=>exact{_,_,_,h2,rfl}|use h1 h2=>exact(no h1).elim
 |bE h1=>exact(no h1).elim|aS h1=>exact(no h1).elim
 |cls h1 h2=>exact(no h1).elim|kz h1 h2 h3=>exact(no h1).elim
 |no h1 h2 h3=>exact(no h1).elim|skip h1 h2=>exact(no h1).elim
 |k8 h1 h2 h3=>exact(no h1).elim|oT h1 h2 h3=>exact(no h1).elim
 |oU h1 h2 h3 h4 h5 h6=>exact(no h1).elim|again h1 h2 h3 h4 h5 h6=>exact(no h1).elim
theorem step_at(h:σ.at_≠σ.P.length)(st:di sh σ τ):∃x,σ.P[σ.at_]?=some x:=by
 cases st with
 |oV h1 h2=>exact aJ h1 h|use h1 h2=>exact{_,h1}
 |bE h1=>exact{_,h1}|aS h1=>exact{_,h1}
 |cls h1 h2=>exact{_,h1}|kz h1 h2 h3=>exact{_,h1}
 |no h1 h2 h3=>exact{_,h1}|skip h1 h2=>exact{_,h1}
 |k8 h1 h2 h3=>exact{_,h1}|oT h1 h2 h3=>exact{_,h1}
 |oU h1 h2 h3 h4 h5 h6=>exact{_,h1}|again h1 h2 h3 h4 h5 h6=>exact{_,h1}
end
end
def iz(b:aa):List Int:=b.map fun(n:Nat)=>(n:Int)
theorem vY:∀{r:List Int},(∀z∈r,0<=z)->iz (sx r)=r|[],_=>rfl|z::r,h=>by have h1:=h z (by simp);have ih:=vY (r:=r) fun y hy=>h y (by simp[hy]);show((z.toNat:Nat):Int)::iz (sx r)=z::r;rw[ih];congr 1;lia
def Eb(rest cy:List Int)(x:Yy):Prop:=(rest=0::cy/\x=.start)∨
 (∃nb:aa,rest=2::((nb.length:Int)::(iz nb++cy))/\nb.length<=17/\x=.take nb)∨
 (∃nb row:aa,rest=1::((nb.length:Int)::(iz nb++((row.length:Int)::(iz row++cy))))/\nb.length<=17/\row.length<=16400/\x=.put nb (if row.length<=8192 then some row else none))∨
 (∃nb row:aa,rest=3::((nb.length:Int)::(iz nb++((row.length:Int)::(iz row++cy))))/\nb.length<=17/\row.length<=16400/\x=.fill nb (if row.length<=16384 then some row else none))
theorem zi{l x s:List Int}(h:nq l=some (x,s)):l=(x.length:Int)::(x++s):=by
 cases l with
 |nil=>cases h|cons n r=>
  have h:(if 0<=n/\n.toNat<=r.length then some (r.take n.toNat,r.drop n.toNat)else none)=some (x,s):=h;split at h
  .rename_i hc;injection h with h;injection h with h1 h2
   subst h1 h2;rw[zV,nc];congr 1;lia
  cases h
theorem Tz(r:List Int):uO 1 r=(nq r).map fun x=>([x.1],x.2):=by unfold uO;cases nq r with|none=>rfl|some x=>rfl
theorem TB(r:List Int):uO 2 r=(nq r).bind fun x=>(nq x.2).map fun y=>([x.1,y.1],y.2):=by
 conv=>lhs;unfold uO
 cases nq r with|none=>rfl|some x=>obtain⟨a,s⟩:=x;show(match uO 1 s with |none=>none |some (xs,t)=>some (a::xs,t))=_;rw[Tz];show _=(nq s).map fun y=>([a,y.1],y.2);cases nq s with|none=>rfl|some y=>rfl
theorem zD{lo hi:Int}(hl:0<=lo){r:List Int}(h:r.all (xo lo hi)=true):∀z∈r,0<=z:=fun z hz=>by have:=zO.mp h z hz;unfold xo at this;rw[jJ]at this;have:=of_decide_eq_true this.1;lia
theorem mT(r:List Int):(sx r).length=r.length:=by simp[sx]
theorem akQ{rest t:List Int}{c:List (List Int)}(h:Y1 zZ rest=some (c,t))(hb:Y2 MI c=true):∃x,YA c=some x/\Eb rest t x/\t.length<rest.length:=by
 cases rest with
 |nil=>cases h|cons p r=>
  by_cases h0:p=0
  .subst h0;have h:some ([[0]],r)=some (c,t):=h;injection h with h;injection h with h1 h2
   subst h1 h2;exact{.start,rfl,.inl {(rfl),rfl},by simp}
  by_cases h1:p=1
  .subst h1;have h:(match uO 2 r with |none=>none |some (xs,t)=>some ([1]::xs,t))=some (c,t):=h;rw[TB]at h;cases n8:nq r with
   |none=>rw[n8]at h;cases h|some y=>
    obtain⟨r0,s0⟩:=y;rw[n8]at h;simp?[bM]at h;cases bG:nq s0 with
    |none=>rw[bG]at h;cases h|some y=>
     obtain⟨r1,s1⟩:=y;rw[bG]at h;have h:some ([[1],r0,r1],s1)=some (c,t):=h;injection h with h;injection h with hc ht;subst hc ht;have hb:(decide (0<=r0.length)&&decide (r0.length<=17)&&r0.all (xo 0 255)&&(decide (0<=r1.length)&&decide (r1.length<=8200)&&r1.all (xo 0 255)&&true))=true:=hb;simp?[jJ,qL]at hb;obtain⟨⟨⟨_,b1⟩,b2⟩,⟨⟨_,b3⟩,b4⟩,_⟩:=hb;have e0:=zi n8;have e1:=zi bG;have z0:=vY (zD (by decide) b2);have z1:=vY (zD (by decide) b4);refine{_,rfl,.inr (.inr (.inl {sx r0,sx r1,?_,by rw[mT];exact b1,by rw[mT];lia,by rw[mT]})),?_}
     .rw[z0,z1,mT,mT,←e1,←e0]
     rw[e0,e1];simp;lia
  by_cases h2:p=2
  .subst h2;have h:(match uO 1 r with |none=>none |some (xs,t)=>some ([2]::xs,t))=some (c,t):=h;rw[Tz]at h;cases n8:nq r with
   |none=>rw[n8]at h;cases h|some y=>
    obtain⟨r0,s0⟩:=y;rw[n8]at h;have h:some ([[2],r0],s0)=some (c,t):=h;injection h with h;injection h with hc ht;subst hc ht;have hb:(decide (0<=r0.length)&&decide (r0.length<=17)&&r0.all (xo 0 255)&&true)=true:=hb;simp?[jJ,qL]at hb;obtain⟨⟨⟨_,b1⟩,b2⟩,_⟩:=hb;have e0:=zi n8;have z0:=vY (zD (by decide) b2);refine{_,rfl,.inr (.inl {sx r0,?_,by rw[mT];exact b1,rfl}),?_}
    .rw[z0,mT,←e0]
    rw[e0];simp;lia
  by_cases h3:p=3
  .subst h3;have h:(match uO 2 r with |none=>none |some (xs,t)=>some ([3]::xs,t))=some (c,t):=h;rw[TB]at h;cases n8:nq r with
   |none=>rw[n8]at h;cases h|some y=>
    obtain⟨r0,s0⟩:=y;rw[n8]at h;simp?[bM]at h;cases bG:nq s0 with
    |none=>rw[bG]at h;cases h|some y=>
     obtain⟨r1,s1⟩:=y;rw[bG]at h;have h:some ([[3],r0,r1],s1)=some (c,t):=h;injection h with h;injection h with hc ht;subst hc ht;have hb:(decide (0<=r0.length)&&decide (r0.length<=17)&&r0.all (xo 0 255)&&(decide (0<=r1.length)&&decide (r1.length<=16400)&&r1.all (xo 0 255)&&true))=true:=hb;simp?[jJ,qL]at hb;obtain⟨⟨⟨_,b1⟩,b2⟩,⟨⟨_,b3⟩,b4⟩,_⟩:=hb;have e0:=zi n8;have e1:=zi bG;have z0:=vY (zD (by decide) b2);have z1:=vY (zD (by decide) b4);refine{_,rfl,.inr (.inr (.inr {sx r0,sx r1,?_,by rw[mT];exact b1,by rw[mT];lia,by rw[mT]})),?_}
     .rw[z0,z1,mT,mT,←e1,←e0]
     rw[e0,e1];simp;lia
  unfold Y1 zZ at h;dsimp only at h;rw[ao h0,ao h1,ao h2,ao h3]at h;cases h
theorem anF(c:List (List Int)):Y4 c=c:=by
 rcases c with _ |⟨_ |⟨x,a⟩,c⟩<;>try rfl
 obtain(_ |_ |_ |_ |n) |n:=x<;>try rfl
 all_goals rcases a with _ |⟨y,a⟩<;>try rfl
 all_goals rcases c with _ |⟨b,_ |⟨d,_ |⟨e,c⟩⟩⟩<;>rfl
structure sR(s:Mt)(rest:List Int)(cs:List (List (List Int))):Prop where
 ca:∃f,zY zZ f rest=some cs
 am:PyInside.calls MI cs=true
 asked:aoD s cs=true
theorem sR.nil{s:Mt}{cs:List (List (List Int))}(h:sR s [] cs):cs=[]:=by obtain⟨f,e⟩:=h.ca;cases f<;>(unfold zY at e;injection e with e;exact e.symm)
theorem sR.cons{s:Mt}{p:Int}{r:List Int}{cs:List (List (List Int))}(h:sR s (p::r) cs):∃c nM t x,cs=c::nM/\YA c=some x/\Eb (p::r) t x/\t.length<(p::r).length/\YB s x=true/\sR (jL s c).1 t nM:=by
 obtain⟨f,e⟩:=h.ca;cases f with
 |zero=>unfold zY at e;cases e|succ f=>
  unfold zY at e;cases h1:Y1 zZ (p::r)with
  |none=>rw[h1]at e;cases e|some y=>
   obtain⟨c,t⟩:=y;rw[h1]at e;dsimp only at e;cases h2:zY zZ f t with
   |none=>rw[h2]at e;cases e|some nM=>
    rw[h2]at e;dsimp only at e;injection e with e
    subst e;have hi:=h.am;have hi:(Y2 MI c&&nM.all (Y2 MI))=true:=hi;rw[jJ]at hi;obtain⟨x,q1,q2,q3⟩:=akQ h1 hi.1;have ha:=h.asked;unfold aoD at ha;rw[q1]at ha;simp?[jJ]at ha;exact{c,nM,t,x,rfl,q1,q2,q3,ha.1.2,{(f),h2},hi.2,ha.2}
theorem amZ{s:Mt}{c:List (List Int)}{x:Yy}(h:YA c=some x)(hm:YB s x=true):jL s c=(some (aoz (s.getD []) x).1,aoE (aoz (s.getD []) x).2):=by
 unfold jL;rw[h];dsimp only;cases s with
 |some a=>rfl|none=>
  have:ap6 x=true:=by unfold YB at hm;simp?[Y0,xb,jJ]at hm;exact hm.1
  cases x with|start=>rfl|_=>cases this
theorem aaQ{nums:List Int}(h:Y3 nums=true):∃cs,sR none nums cs/\DN nums=xn (xm jL none cs)/\(DN nums).length<=10000000:=by
 unfold Y3 at h;cases hc:zY zZ nums.length nums with
 |none=>rw[hc]at h;cases h|some raw=>
  rw[hc]at h;simp?[jJ]at h;obtain⟨⟨⟨⟨h1,h2⟩,h3⟩,h4⟩,h5⟩:=h;have hw:raw.map Y4=raw:=by
   have:Y4=id:=by funext c;exact anF c
   rw[this,List.map_id]
  rw[hw]at h4;unfold ap5 at h4;simp?[jJ]at h4;refine{raw,{{_,hc},h3,h4.2.2},?_,of_decide_eq_true h5};unfold DN PyKp173.calls;rw[hc];dsimp only;rw[hw];rfl
end
open PySem PySem.Spec PyProof.Rows _L
open Kp172 (okByte small digit inName blank Bytes front nameAt entity ending distinct Mark escaped bytesOf isName)
open Kp173 (Piece other isHole bareAttr bareElement textIn named filled harmless value leads act)
noncomputable def aX(i:Nat):gj:=PySem.Challenge.pw_soundpages_s01_answers.main.body.getD i (.Pass {0,0,0,0})
abbrev FL:=List (ac×V)
abbrev LS:=List ac
theorem bc{N P:List ac}{sc:fZ}(a:autoParam (sc.kind=.function) _L.aR)(b:autoParam (sc.isCoroutine=false) _L.aR)(c:autoParam (sc.isGenerator=false) _L.aR)(d:autoParam (N.Nodup) _L.aK)(e:autoParam (N.take P.length=P) _L.aR)(f:autoParam (∀x∈P,sc.names.lookup x=some .local∨sc.names.lookup x=some .cell) _L.aK)(g:autoParam (∀y∈sc.names,y.2≠.free) _L.aK):aZ N P sc:={(a),b,c,d,e,f,g}
abbrev U9:=aX 25
abbrev Kn:LS:=["text"]
noncomputable abbrev aiY:LS:=["text","sign"]
theorem Lg:aZ aiY Kn (aV U9):=bc
abbrev Vh:=aX 26
abbrev CG:LS:=["byte"]
theorem amx:aZ CG CG (aV Vh):=bc
abbrev Vd:=aX 27
abbrev CC:LS:=["byte"]
theorem amu:aZ CC CC (aV Vd):=bc
abbrev Vi:=aX 28
abbrev CH:LS:=["byte"]
theorem amy:aZ CH CH (aV Vi):=bc
abbrev U6:=aX 29
abbrev CA:LS:=["byte"]
theorem ams:aZ CA CA (aV U6):=bc
abbrev U7:=aX 30
abbrev CB:LS:=["row","text"]
theorem amt:aZ CB CB (aV U7):=bc
abbrev Up:=bQ (aX 32) 0
abbrev Cg:LS:=["self"]
theorem ama:aZ Cg Cg (aV Up):=bc
abbrev Uk:=bQ (aX 32) 1
noncomputable abbrev JX:LS:=["self","name","attributes"]
noncomputable abbrev aix:LS:=["self","name","attributes","attribute","value"]
theorem La:aZ aix JX (aV Uk):=bc
abbrev Uj:=bQ (aX 32) 2
abbrev Cc:LS:=["self","name"]
theorem al6:aZ Cc Cc (aV Uj):=bc
abbrev Ul:=bQ (aX 32) 3
abbrev Cd:LS:=["self","text"]
theorem al7:aZ Cd Cd (aV Ul):=bc
abbrev Uo:=bQ (aX 32) 4
abbrev Cf:LS:=["self"]
theorem al9:aZ Cf Cf (aV Uo):=bc
abbrev Um:=bQ (aX 32) 5
abbrev Ce:LS:=["self"]
theorem al8:aZ Ce Ce (aV Um):=bc
abbrev Uq:=bQ (aX 32) 6
abbrev JY:LS:=["self","text"]
noncomputable abbrev aiy:LS:=["self","text","byte"]
theorem VH:aZ aiy JY (aV Uq):=bc
abbrev UN:=bQ (aX 34) 0
noncomputable abbrev Cq:LS:=["self","data"]
theorem amj:aZ Cq Cq (aV UN):=bc
abbrev UM:=bQ (aX 34) 1
abbrev Kc:LS:=["self","element"]
abbrev aiM:LS:=["self","element","name"]
theorem VR:aZ aiM Kc (aV UM):=bc
abbrev UP:=bQ (aX 34) 2
abbrev Ke:LS:=["self","element"]
abbrev aiO:LS:=["self","element","name"]
theorem VT:aZ aiO Ke (aV UP):=bc
abbrev UO:=bQ (aX 34) 3
abbrev Kd:LS:=["self","name"]
noncomputable abbrev aiN:LS:=["self","name","rows"]
theorem VS:aZ aiN Kd (aV UO):=bc
abbrev UQ:=bQ (aX 34) 4
abbrev Kf:LS:=["self","name"]
abbrev aiP:LS:=["self","name","row"]
theorem VU:aZ aiP Kf (aV UQ):=bc
abbrev Vv:=aX 36
noncomputable abbrev KE:LS:=["one","other"]
noncomputable abbrev ajd:LS:=["one","other","fewer","more","name"]
theorem zn:aZ ajd KE (aV Vv):=bc
abbrev U3:=bQ (aX 37) 0
abbrev Cz:LS:=["self"]
theorem amr:aZ Cz Cz (aV U3):=bc
abbrev UZ:=bQ (aX 37) 1
abbrev Cv:LS:=["self","byte"]
theorem amo:aZ Cv Cv (aV UZ):=bc
abbrev U0:=bQ (aX 37) 2
abbrev Cw:LS:=["self","name"]
theorem amp:aZ Cw Cw (aV U0):=bc
abbrev U2:=bQ (aX 37) 3
abbrev Cy:LS:=["self"]
theorem amq:aZ Cy Cy (aV U2):=bc
abbrev U4:=bQ (aX 37) 4
noncomputable abbrev Kk:LS:=["self","rounds"]
noncomputable abbrev aiU:LS:=["self","rounds","texts","name","text"]
theorem C0:aZ aiU Kk (aV U4):=bc
abbrev U1:=bQ (aX 37) 5
abbrev Kj:LS:=["self","rounds"]
noncomputable abbrev aiT:LS:=["self","rounds","texts","places","name","row","place","piece"]
theorem uv:aZ aiT Kj (aV U1):=bc
abbrev TF:=bQ (aX 41) 0
noncomputable abbrev BW:LS:=["self","name","wording"]
theorem alQ:aZ BW BW (aV TF):=bc
abbrev US:=bQ (aX 42) 0
abbrev Cr:LS:=["self","name"]
theorem amk:aZ Cr Cr (aV US):=bc
abbrev Vc:=aX 43
abbrev Kq:LS:=["attributes"]
abbrev ai1:LS:=["attributes","attribute"]
theorem Li:aZ ai1 Kq (aV Vc):=bc
abbrev Vw:=aX 44
abbrev KG:LS:=["row"]
noncomputable abbrev aje:LS:=["row","reader","name"]
theorem Lq:aZ aje KG (aV Vw):=bc
abbrev Ut:=bQ (aX 45) 0
noncomputable abbrev Cj:LS:=["self","row","with_holes"]
theorem amd:aZ Cj Cj (aV Ut):=bc
abbrev Us:=bQ (aX 45) 1
abbrev Ci:LS:=["self"]
theorem amc:aZ Ci Ci (aV Us):=bc
abbrev Uw:=bQ (aX 45) 2
abbrev Cm:LS:=["self","text"]
theorem amf:aZ Cm Cm (aV Uw):=bc
abbrev Ux:=bQ (aX 45) 3
abbrev J0:LS:=["self"]
abbrev aiA:LS:=["self","text"]
theorem Lb:aZ aiA J0 (aV Ux):=bc
abbrev Uv:=bQ (aX 45) 4
abbrev Ck:LS:=["self","text"]
theorem ame:aZ Ck Ck (aV Uv):=bc
abbrev Uu:=bQ (aX 45) 5
abbrev JZ:LS:=["self"]
noncomputable abbrev aiz:LS:=["self","begin"]
theorem VI:aZ aiz JZ (aV Uu):=bc
abbrev UE:=bQ (aX 45) 6
abbrev J5:LS:=["self"]
abbrev aiF:LS:=["self","name"]
theorem Ld:aZ aiF J5 (aV UE):=bc
abbrev UF:=bQ (aX 45) 7
noncomputable abbrev J6:LS:=["self","before","behind"]
noncomputable abbrev aiG:LS:=["self","before","behind","name"]
theorem VN:aZ aiG J6 (aV UF):=bc
abbrev UC:=bQ (aX 45) 8
abbrev J3:LS:=["self"]
abbrev aiD:LS:=["self","byte"]
theorem VL:aZ aiD J3 (aV UC):=bc
abbrev UI:=bQ (aX 45) 9
abbrev J9:LS:=["self"]
noncomputable abbrev aiJ:LS:=["self","byte","begin","number"]
theorem zk:aZ aiJ J9 (aV UI):=bc
abbrev UB:=bQ (aX 45) 10
abbrev J2:LS:=["self","wording"]
abbrev aiC:LS:=["self","wording","name"]
theorem VJ:aZ aiC J2 (aV UB):=bc
abbrev UH:=bQ (aX 45) 11
abbrev J8:LS:=["self","wording"]
abbrev aiI:LS:=["self","wording","byte"]
theorem VO:aZ aiI J8 (aV UH):=bc
abbrev Uy:=bQ (aX 45) 12
abbrev Cn:LS:=["self"]
theorem amg:aZ Cn Cn (aV Uy):=bc
abbrev Uz:=bQ (aX 45) 13
abbrev Co:LS:=["self"]
theorem amh:aZ Co Co (aV Uz):=bc
abbrev UJ:=bQ (aX 45) 14
abbrev Ka:LS:=["self"]
abbrev aiK:LS:=["self","wording"]
theorem VP:aZ aiK Ka (aV UJ):=bc
abbrev UK:=bQ (aX 45) 15
abbrev Kb:LS:=["self"]
abbrev aiL:LS:=["self","wording"]
theorem VQ:aZ aiL Kb (aV UK):=bc
abbrev UA:=bQ (aX 45) 16
abbrev J1:LS:=["self"]
abbrev aiB:LS:=["self","name","wording"]
theorem Lc:aZ aiB J1 (aV UA):=bc
abbrev UG:=bQ (aX 45) 17
abbrev J7:LS:=["self"]
noncomputable abbrev aiH:LS:=["self","tag","has_blanks","attribute"]
theorem CZ:aZ aiH J7 (aV UG):=bc
abbrev UD:=bQ (aX 45) 18
abbrev J4:LS:=["self"]
abbrev aiE:LS:=["self","name"]
theorem VM:aZ aiE J4 (aV UD):=bc
abbrev Ur:=bQ (aX 67) 0
noncomputable abbrev Ch:LS:=["self","kind","name"]
theorem amb:aZ Ch Ch (aV Ur):=bc
abbrev UV:=bQ (aX 68) 0
abbrev Ct:LS:=["self"]
theorem amm:aZ Ct Ct (aV UV):=bc
abbrev UT:=bQ (aX 68) 1
abbrev Cs:LS:=["self","part"]
theorem aml:aZ Cs Cs (aV UT):=bc
abbrev UU:=bQ (aX 68) 2
abbrev Kg:LS:=["self","part"]
noncomputable abbrev aiQ:LS:=["self","part","begun"]
theorem VV:aZ aiQ Kg (aV UU):=bc
abbrev UX:=bQ (aX 68) 3
abbrev Kh:LS:=["self","name"]
abbrev aiR:LS:=["self","name","part"]
theorem VW:aZ aiR Kh (aV UX):=bc
abbrev UW:=bQ (aX 68) 4
abbrev Cu:LS:=["self"]
theorem amn:aZ Cu Cu (aV UW):=bc
abbrev UY:=bQ (aX 68) 5
abbrev Ki:LS:=["self","name"]
abbrev aiS:LS:=["self","name","part"]
theorem Le:aZ aiS Ki (aV UY):=bc
abbrev Vp:=aX 69
noncomputable abbrev Kx:LS:=["reader","template"]
noncomputable abbrev ai8:LS:=["reader","template","tag","part"]
theorem Ll:aZ ai8 Kx (aV Vp):=bc
abbrev Vl:=aX 71
abbrev Ku:LS:=["reader","template"]
abbrev ai5:LS:=["reader","template","name"]
theorem VY:aZ ai5 Ku (aV Vl):=bc
abbrev Vt:=aX 73
abbrev KA:LS:=["reader","template"]
abbrev ajb:LS:=["reader","template","part"]
theorem V0:aZ ajb KA (aV Vt):=bc
abbrev Vj:=aX 75
abbrev Ks:LS:=["reader","template"]
noncomputable abbrev ai3:LS:=["reader","template","kind","part"]
theorem C2:aZ ai3 Ks (aV Vj):=bc
abbrev Vq:=aX 76
abbrev CJ:LS:=["reader","template"]
theorem amA:aZ CJ CJ (aV Vq):=bc
abbrev Vr:=aX 77
abbrev Ky:LS:=["row"]
noncomputable abbrev ai9:LS:=["row","template","reader"]
theorem Lm:aZ ai9 Ky (aV Vr):=bc
abbrev Vb:=aX 78
abbrev Kp:LS:=["template"]
abbrev ai0:LS:=["template","part"]
theorem Lh:aZ ai0 Kp (aV Vb):=bc
abbrev Vf:=aX 79
abbrev Kr:LS:=["template"]
abbrev ai2:LS:=["template","part"]
theorem Lj:aZ ai2 Kr (aV Vf):=bc
abbrev Ve:=aX 80
abbrev CD:LS:=["name"]
theorem amv:aZ CD CD (aV Ve):=bc
abbrev U8:=aX 81
noncomputable abbrev Km:LS:=["part","guarded"]
noncomputable abbrev aiX:LS:=["part","guarded","values_guarded","attribute"]
theorem Lf:aZ aiX Km (aV U8):=bc
abbrev Va:=aX 82
abbrev Ko:LS:=["template"]
noncomputable abbrev aiZ:LS:=["template","guards","part"]
theorem zm:aZ aiZ Ko (aV Va):=bc
abbrev Vu:=aX 83
noncomputable abbrev KC:LS:=["template","there"]
abbrev ajc:LS:=["template","there","part"]
theorem Lo:aZ ajc KC (aV Vu):=bc
abbrev Vg:=aX 86
abbrev CF:LS:=["value"]
theorem amw:aZ CF CF (aV Vg):=bc
abbrev Ud:=bQ (aX 87) 0
abbrev B9:LS:=["self","row"]
theorem al3:aZ B9 B9 (aV Ud):=bc
abbrev Uc:=bQ (aX 87) 1
abbrev B8:LS:=["self"]
theorem al2:aZ B8 B8 (aV Uc):=bc
abbrev UL:=bQ (aX 88) 0
noncomputable abbrev Cp:LS:=["self","parts","at"]
theorem ami:aZ Cp Cp (aV UL):=bc
abbrev T4:=bQ (aX 89) 0
noncomputable abbrev B3:LS:=["self","templates","data"]
theorem alX:aZ B3 B3 (aV T4):=bc
abbrev T6:=bQ (aX 89) 1
abbrev B5:LS:=["self"]
theorem alZ:aZ B5 B5 (aV T6):=bc
abbrev T5:=bQ (aX 89) 2
abbrev B4:LS:=["self","name"]
theorem alY:aZ B4 B4 (aV T5):=bc
abbrev T1:=bQ (aX 89) 3
abbrev B2:LS:=["self"]
theorem alW:aZ B2 B2 (aV T1):=bc
abbrev T3:=bQ (aX 89) 4
abbrev JQ:LS:=["self"]
abbrev aiq:LS:=["self","part"]
theorem VD:aZ aiq JQ (aV T3):=bc
abbrev TY:=bQ (aX 89) 5
abbrev B1:LS:=["self","part"]
theorem alV:aZ B1 B1 (aV TY):=bc
abbrev T0:=bQ (aX 89) 6
abbrev JO:LS:=["self"]
noncomputable abbrev aio:LS:=["self","back"]
theorem VC:aZ aio JO (aV T0):=bc
abbrev TW:=bQ (aX 89) 7
abbrev JL:LS:=["self","part"]
noncomputable abbrev ail:LS:=["self","part","is_there"]
theorem Vz:aZ ail JL (aV TW):=bc
abbrev TX:=bQ (aX 89) 8
abbrev JM:LS:=["self","part"]
abbrev aim:LS:=["self","part","row"]
theorem VA:aZ aim JM (aV TX):=bc
abbrev TZ:=bQ (aX 89) 9
abbrev JN:LS:=["self","part"]
noncomputable abbrev ain:LS:=["self","part","loop"]
theorem VB:aZ ain JN (aV TZ):=bc
abbrev T2:=bQ (aX 89) 10
abbrev JP:LS:=["self","part"]
abbrev aip:LS:=["self","part","attributes","attribute"]
theorem K6:aZ aip JP (aV T2):=bc
abbrev T7:=bQ (aX 89) 11
abbrev JR:LS:=["self","attribute"]
abbrev air:LS:=["self","attribute","value"]
theorem VE:aZ air JR (aV T7):=bc
abbrev TU:=bQ (aX 91) 0
abbrev B0:LS:=["self","name","begin"]
theorem alU:aZ B0 B0 (aV TU):=bc
abbrev TN:=bQ (aX 92) 0
abbrev BY:LS:=["self"]
theorem alS:aZ BY BY (aV TN):=bc
abbrev TR:=bQ (aX 92) 1
abbrev BZ:LS:=["self","element"]
theorem alT:aZ BZ BZ (aV TR):=bc
abbrev TJ:=bQ (aX 92) 2
abbrev JJ:LS:=["self","name"]
abbrev aij:LS:=["self","name","element"]
theorem Vx:aZ aij JJ (aV TJ):=bc
abbrev TM:=bQ (aX 92) 3
abbrev JK:LS:=["self"]
abbrev aik:LS:=["self","element"]
theorem Vy:aZ aik JK (aV TM):=bc
abbrev TK:=bQ (aX 92) 4
abbrev BX:LS:=["self","number"]
theorem alR:aZ BX BX (aV TK):=bc
abbrev Vo:=aX 93
abbrev Kw:LS:=["reader","data"]
noncomputable abbrev ai7:LS:=["reader","data","tag"]
theorem VZ:aZ ai7 Kw (aV Vo):=bc
abbrev Vk:=aX 95
abbrev Kt:LS:=["reader","data"]
abbrev ai4:LS:=["reader","data","name"]
theorem VX:aZ ai4 Kt (aV Vk):=bc
abbrev Vs:=aX 97
abbrev Kz:LS:=["reader","data"]
noncomputable abbrev aja:LS:=["reader","data","wording","piece"]
theorem Ln:aZ aja Kz (aV Vs):=bc
abbrev Vn:=aX 99
abbrev CI:LS:=["reader","data"]
theorem amz:aZ CI CI (aV Vn):=bc
abbrev Vm:=aX 100
abbrev Kv:LS:=["row"]
abbrev ai6:LS:=["row","data","reader"]
theorem Lk:aZ ai6 Kv (aV Vm):=bc
abbrev Uf:=bQ (aX 107) 0
abbrev Ca:LS:=["self"]
theorem al4:aZ Ca Ca (aV Uf):=bc
abbrev Uh:=bQ (aX 107) 1
abbrev Cb:LS:=["self"]
theorem al5:aZ Cb Cb (aV Uh):=bc
abbrev Ug:=bQ (aX 107) 2
abbrev JV:LS:=["self","name","row"]
noncomputable abbrev aiv:LS:=["self","name","row","template","refusal"]
theorem K8:aZ aiv JV (aV Ug):=bc
abbrev Ui:=bQ (aX 107) 3
abbrev JW:LS:=["self","name"]
abbrev aiw:LS:=["self","name","template"]
theorem K9:aZ aiw JW (aV Ui):=bc
abbrev Ue:=bQ (aX 107) 4
abbrev JU:LS:=["self","name","row"]
noncomputable abbrev aiu:LS:=["self","name","row","data","filling"]
theorem K7:aZ aiu JU (aV Ue):=bc
abbrev T9:=bQ (aX 108) 0
noncomputable abbrev B7:LS:=["self","numbers"]
theorem al1:aZ B7 B7 (aV T9):=bc
abbrev T8:=bQ (aX 108) 1
abbrev B6:LS:=["self"]
theorem al0:aZ B6 B6 (aV T8):=bc
abbrev Ua:=bQ (aX 108) 2
abbrev JS:LS:=["self"]
abbrev ais:LS:=["self","number"]
theorem VF:aZ ais JS (aV Ua):=bc
abbrev Ub:=bQ (aX 108) 3
abbrev JT:LS:=["self"]
abbrev ait:LS:=["self","begin"]
theorem VG:aZ ait JT (aV Ub):=bc
abbrev U5:=aX 109
noncomputable abbrev Kl:LS:=["maker","line"]
noncomputable abbrev aiV:LS:=["maker","line","call","name","row"]
theorem C1:aZ aiV Kl (aV U5):=bc
abbrev K5:=aX 110
abbrev wq:LS:=["calls"]
noncomputable abbrev aiW:LS:=["calls","maker","line","given","answer"]
theorem zl:aZ aiW wq (aV K5):=bc
noncomputable def fV(v0 v1 v2 v3 v4:V):List (ac×V):=[("row",v0),("marks",v1),("depth",v2),("behind_text",v3),("too_much",v4)]
theorem ad7(v0 v1 v2 v3 v4:V):(fV v0 v1 v2 v3 v4).lookup ("row":ac)=some v0/\(fV v0 v1 v2 v3 v4).lookup ("marks":ac)=some v1/\(fV v0 v1 v2 v3 v4).lookup ("depth":ac)=some v2/\(fV v0 v1 v2 v3 v4).lookup ("behind_text":ac)=some v3/\(fV v0 v1 v2 v3 v4).lookup ("too_much":ac)=some v4/\(fV v0 v1 v2 v3 v4).lookup ("add_opening":ac)=none/\(fV v0 v1 v2 v3 v4).lookup ("add_closing":ac)=none/\(fV v0 v1 v2 v3 v4).lookup ("add_text":ac)=none/\(fV v0 v1 v2 v3 v4).lookup ("count_mark":ac)=none/\(fV v0 v1 v2 v3 v4).lookup ("check_size":ac)=none/\(fV v0 v1 v2 v3 v4).lookup ("write_escaped":ac)=none/\(fV v0 v1 v2 v3 v4).length<1000:={rfl,rfl,rfl,rfl,rfl,rfl,rfl,rfl,rfl,rfl,rfl,show 5<1000 by decide}
theorem aeI(v0 v1 v2 v3 v4 v:V):aW "row" v (fV v0 v1 v2 v3 v4)=fV v v1 v2 v3 v4/\aW "marks" v (fV v0 v1 v2 v3 v4)=fV v0 v v2 v3 v4/\aW "depth" v (fV v0 v1 v2 v3 v4)=fV v0 v1 v v3 v4/\aW "behind_text" v (fV v0 v1 v2 v3 v4)=fV v0 v1 v2 v v4/\aW "too_much" v (fV v0 v1 v2 v3 v4)=fV v0 v1 v2 v3 v:={(rfl),rfl,rfl,rfl,rfl}
theorem aek:(∀v0:V,@Eq FL (aW "row" v0 []) [("row",v0)])/\(∀v0 v1:V,@Eq FL (aW "marks" v1 [("row",v0)]) [("row",v0),("marks",v1)])/\(∀v0 v1 v2:V,@Eq FL (aW "depth" v2 [("row",v0),("marks",v1)]) [("row",v0),("marks",v1),("depth",v2)])/\(∀v0 v1 v2 v3:V,@Eq FL (aW "behind_text" v3 [("row",v0),("marks",v1),("depth",v2)]) [("row",v0),("marks",v1),("depth",v2),("behind_text",v3)])/\(∀v0 v1 v2 v3 v4:V,@Eq FL (aW "too_much" v4 [("row",v0),("marks",v1),("depth",v2),("behind_text",v3)]) [("row",v0),("marks",v1),("depth",v2),("behind_text",v3),("too_much",v4)]):={fun _=>rfl,fun _ _=>rfl,fun _ _ _=>rfl,fun _ _ _ _=>rfl,fun _ _ _ _ _=>rfl}
noncomputable def jZ(v0 v1:V):List (ac×V):=[("data",v0),("found",v1)]
theorem aeb(v0 v1:V):(jZ v0 v1).lookup ("data":ac)=some v0/\(jZ v0 v1).lookup ("found":ac)=some v1/\(jZ v0 v1).lookup ("enter":ac)=none/\(jZ v0 v1).lookup ("leave":ac)=none/\(jZ v0 v1).lookup ("innermost":ac)=none/\(jZ v0 v1).lookup ("text_for":ac)=none/\(jZ v0 v1).length<1000:={rfl,rfl,rfl,rfl,rfl,rfl,show 2<1000 by decide}
theorem OX:(∀v0:V,@Eq FL (aW "data" v0 []) [("data",v0)])/\(∀v0 v1:V,@Eq FL (aW "found" v1 [("data",v0)]) [("data",v0),("found",v1)]):={fun _=>rfl,fun _ _=>rfl}
theorem aep(v0 v1:V):(jZ v0 v1).lookup ("found":ac)=some v1:=rfl
noncomputable def jv(v0 v1 v2:V):List (ac×V):=[("pieces",v0),("fixed",v1),("holes",v2)]
theorem aee(v0 v1 v2:V):(jv v0 v1 v2).lookup ("pieces":ac)=some v0/\(jv v0 v1 v2).lookup ("fixed":ac)=some v1/\(jv v0 v1 v2).lookup ("holes":ac)=some v2/\(jv v0 v1 v2).lookup ("add_byte":ac)=none/\(jv v0 v1 v2).lookup ("add_hole":ac)=none/\(jv v0 v1 v2).lookup ("has_hole":ac)=none/\(jv v0 v1 v2).lookup ("texts_given":ac)=none/\(jv v0 v1 v2).lookup ("fill_in":ac)=none/\(jv v0 v1 v2).length<1000:={rfl,rfl,rfl,rfl,rfl,rfl,rfl,rfl,show 3<1000 by decide}
theorem Hf:(∀v0:V,@Eq FL (aW "pieces" v0 []) [("pieces",v0)])/\(∀v0 v1:V,@Eq FL (aW "fixed" v1 [("pieces",v0)]) [("pieces",v0),("fixed",v1)])/\(∀v0 v1 v2:V,@Eq FL (aW "holes" v2 [("pieces",v0),("fixed",v1)]) [("pieces",v0),("fixed",v1),("holes",v2)]):={fun _=>rfl,fun _ _=>rfl,fun _ _ _=>rfl}
theorem aet(v0 v1 v2:V):(jv v0 v1 v2).lookup ("pieces":ac)=some v0:=rfl
theorem aeq(v0 v1 v2:V):(jv v0 v1 v2).lookup ("holes":ac)=some v2:=rfl
theorem aer(v0 v1 v2:V):(jv v0 v1 v2).lookup ("add_byte":ac)=none:=rfl
theorem aes(v0 v1 v2:V):(jv v0 v1 v2).lookup ("add_hole":ac)=none:=rfl
theorem O2(v0 v1 v2:V):(jv v0 v1 v2).lookup ("has_hole":ac)=none:=rfl
def x5(v0 v1:V):List (ac×V):=[("name",v0),("wording",v1)]
theorem ad0(v0 v1:V):(x5 v0 v1).lookup ("name":ac)=some v0/\(x5 v0 v1).lookup ("wording":ac)=some v1/\(x5 v0 v1).length<1000:={rfl,rfl,show 2<1000 by decide}
theorem aeg:(∀v0:V,@Eq FL (aW "name" v0 []) [("name",v0)])/\(∀v0 v1:V,@Eq FL (aW "wording" v1 [("name",v0)]) [("name",v0),("wording",v1)]):={fun _=>rfl,fun _ _=>rfl}
def ju(v0 v1 v2:V):List (ac×V):=[("name",v0),("attributes",v1),("alone",v2)]
theorem aec(v0 v1 v2:V):(ju v0 v1 v2).lookup ("name":ac)=some v0/\(ju v0 v1 v2).lookup ("attributes":ac)=some v1/\(ju v0 v1 v2).lookup ("alone":ac)=some v2/\(ju v0 v1 v2).length<1000:={rfl,rfl,rfl,show 3<1000 by decide}
theorem aeL(v0 v1 v2 v:V):aW "name" v (ju v0 v1 v2)=ju v v1 v2/\aW "attributes" v (ju v0 v1 v2)=ju v0 v v2/\aW "alone" v (ju v0 v1 v2)=ju v0 v1 v:={(rfl),rfl,rfl}
theorem OY:(∀v0:V,@Eq FL (aW "name" v0 []) [("name",v0)])/\(∀v0 v1:V,@Eq FL (aW "attributes" v1 [("name",v0)]) [("name",v0),("attributes",v1)])/\(∀v0 v1 v2:V,@Eq FL (aW "alone" v2 [("name",v0),("attributes",v1)]) [("name",v0),("attributes",v1),("alone",v2)]):={fun _=>rfl,fun _ _=>rfl,fun _ _ _=>rfl}
def eA(v0 v1 v2:V):List (ac×V):=[("row",v0),("at",v1),("with_holes",v2)]
theorem ad9(v0 v1 v2:V):(eA v0 v1 v2).lookup ("row":ac)=some v0/\(eA v0 v1 v2).lookup ("at":ac)=some v1/\(eA v0 v1 v2).lookup ("with_holes":ac)=some v2/\(eA v0 v1 v2).lookup ("ended":ac)=none/\(eA v0 v1 v2).lookup ("sees":ac)=none/\(eA v0 v1 v2).lookup ("sees_brace_part":ac)=none/\(eA v0 v1 v2).lookup ("passes":ac)=none/\(eA v0 v1 v2).lookup ("pass_blanks":ac)=none/\(eA v0 v1 v2).lookup ("take_name":ac)=none/\(eA v0 v1 v2).lookup ("take_name_between":ac)=none/\(eA v0 v1 v2).lookup ("take_character":ac)=none/\(eA v0 v1 v2).lookup ("take_reference":ac)=none/\(eA v0 v1 v2).lookup ("take_brace":ac)=none/\(eA v0 v1 v2).lookup ("take_piece":ac)=none/\(eA v0 v1 v2).lookup ("sees_end_of_text":ac)=none/\(eA v0 v1 v2).lookup ("sees_end_of_value":ac)=none/\(eA v0 v1 v2).lookup ("take_text":ac)=none/\(eA v0 v1 v2).lookup ("take_value":ac)=none/\(eA v0 v1 v2).lookup ("take_attribute":ac)=none/\(eA v0 v1 v2).lookup ("take_opening":ac)=none/\(eA v0 v1 v2).lookup ("take_closing":ac)=none/\(eA v0 v1 v2).length<1000:={rfl,rfl,rfl,rfl,rfl,rfl,rfl,rfl,rfl,rfl,rfl,rfl,rfl,rfl,rfl,rfl,rfl,rfl,rfl,rfl,rfl,show 3<1000 by decide}
theorem aeK(v0 v1 v2 v:V):aW "row" v (eA v0 v1 v2)=eA v v1 v2/\aW "at" v (eA v0 v1 v2)=eA v0 v v2/\aW "with_holes" v (eA v0 v1 v2)=eA v0 v1 v:={(rfl),rfl,rfl}
theorem ael:(∀v0:V,@Eq FL (aW "row" v0 []) [("row",v0)])/\(∀v0 v1:V,@Eq FL (aW "at" v1 [("row",v0)]) [("row",v0),("at",v1)])/\(∀v0 v1 v2:V,@Eq FL (aW "with_holes" v2 [("row",v0),("at",v1)]) [("row",v0),("at",v1),("with_holes",v2)]):={fun _=>rfl,fun _ _=>rfl,fun _ _ _=>rfl}
noncomputable def cG(v0 v1 v2 v3 v4:V):List (ac×V):=[("kind",v0),("name",v1),("attributes",v2),("wording",v3),("partner",v4)]
theorem ad8(v0 v1 v2 v3 v4:V):(cG v0 v1 v2 v3 v4).lookup ("kind":ac)=some v0/\(cG v0 v1 v2 v3 v4).lookup ("name":ac)=some v1/\(cG v0 v1 v2 v3 v4).lookup ("attributes":ac)=some v2/\(cG v0 v1 v2 v3 v4).lookup ("wording":ac)=some v3/\(cG v0 v1 v2 v3 v4).lookup ("partner":ac)=some v4/\(cG v0 v1 v2 v3 v4).length<1000:={rfl,rfl,rfl,rfl,rfl,show 5<1000 by decide}
theorem aeJ(v0 v1 v2 v3 v4 v:V):aW "kind" v (cG v0 v1 v2 v3 v4)=cG v v1 v2 v3 v4/\aW "name" v (cG v0 v1 v2 v3 v4)=cG v0 v v2 v3 v4/\aW "attributes" v (cG v0 v1 v2 v3 v4)=cG v0 v1 v v3 v4/\aW "wording" v (cG v0 v1 v2 v3 v4)=cG v0 v1 v2 v v4/\aW "partner" v (cG v0 v1 v2 v3 v4)=cG v0 v1 v2 v3 v:={(rfl),rfl,rfl,rfl,rfl}
theorem OW:(∀v0:V,@Eq FL (aW "kind" v0 []) [("kind",v0)])/\(∀v0 v1:V,@Eq FL (aW "name" v1 [("kind",v0)]) [("kind",v0),("name",v1)])/\(∀v0 v1 v2:V,@Eq FL (aW "attributes" v2 [("kind",v0),("name",v1)]) [("kind",v0),("name",v1),("attributes",v2)])/\(∀v0 v1 v2 v3:V,@Eq FL (aW "wording" v3 [("kind",v0),("name",v1),("attributes",v2)]) [("kind",v0),("name",v1),("attributes",v2),("wording",v3)])/\(∀v0 v1 v2 v3 v4:V,@Eq FL (aW "partner" v4 [("kind",v0),("name",v1),("attributes",v2),("wording",v3)]) [("kind",v0),("name",v1),("attributes",v2),("wording",v3),("partner",v4)]):={fun _=>rfl,fun _ _=>rfl,fun _ _ _=>rfl,fun _ _ _ _=>rfl,fun _ _ _ _ _=>rfl}
theorem aeo(v0 v1 v2 v3 v4:V):(cG v0 v1 v2 v3 v4).lookup ("name":ac)=some v1:=rfl
theorem O1(v0 v1 v2 v3 v4:V):(cG v0 v1 v2 v3 v4).lookup ("attributes":ac)=some v2:=rfl
noncomputable def gl(v0 v1 v2:V):List (ac×V):=[("parts",v0),("depth",v1),("unended",v2)]
theorem aed(v0 v1 v2:V):(gl v0 v1 v2).lookup ("parts":ac)=some v0/\(gl v0 v1 v2).lookup ("depth":ac)=some v1/\(gl v0 v1 v2).lookup ("unended":ac)=some v2/\(gl v0 v1 v2).lookup ("begin_part":ac)=none/\(gl v0 v1 v2).lookup ("end_part":ac)=none/\(gl v0 v1 v2).lookup ("is_in_element":ac)=none/\(gl v0 v1 v2).lookup ("is_in_block":ac)=none/\(gl v0 v1 v2).lookup ("uses":ac)=none/\(gl v0 v1 v2).length<1000:={rfl,rfl,rfl,rfl,rfl,rfl,rfl,rfl,show 3<1000 by decide}
theorem aeM(v0 v1 v2 v:V):aW "parts" v (gl v0 v1 v2)=gl v v1 v2/\aW "depth" v (gl v0 v1 v2)=gl v0 v v2/\aW "unended" v (gl v0 v1 v2)=gl v0 v1 v:={(rfl),rfl,rfl}
theorem OZ:(∀v0:V,@Eq FL (aW "parts" v0 []) [("parts",v0)])/\(∀v0 v1:V,@Eq FL (aW "depth" v1 [("parts",v0)]) [("parts",v0),("depth",v1)])/\(∀v0 v1 v2:V,@Eq FL (aW "unended" v2 [("parts",v0),("depth",v1)]) [("parts",v0),("depth",v1),("unended",v2)]):={fun _=>rfl,fun _ _=>rfl,fun _ _ _=>rfl}
theorem x6(v0 v1 v2:V):(gl v0 v1 v2).lookup ("parts":ac)=some v0:=rfl
def jY(v0 v1:V):List (ac×V):=[("row",v0),("at",v1)]
theorem ad5(v0 v1:V):(jY v0 v1).lookup ("row":ac)=some v0/\(jY v0 v1).lookup ("at":ac)=some v1/\(jY v0 v1).lookup ("current":ac)=none/\(jY v0 v1).length<1000:={rfl,rfl,rfl,show 2<1000 by decide}
theorem aeH(v0 v1 v:V):aW "row" v (jY v0 v1)=jY v v1/\aW "at" v (jY v0 v1)=jY v0 v:={(rfl),rfl}
theorem aei:(∀v0:V,@Eq FL (aW "row" v0 []) [("row",v0)])/\(∀v0 v1:V,@Eq FL (aW "at" v1 [("row",v0)]) [("row",v0),("at",v1)]):={fun _=>rfl,fun _ _=>rfl}
def vG(v0 v1:V):List (ac×V):=[("parts",v0),("at",v1)]
theorem aea(v0 v1:V):(vG v0 v1).lookup ("parts":ac)=some v0/\(vG v0 v1).lookup ("at":ac)=some v1/\(vG v0 v1).length<1000:={rfl,rfl,show 2<1000 by decide}
theorem aem:(∀v0:V,@Eq FL (aW "parts" v0 []) [("parts",v0)])/\(∀v0 v1:V,@Eq FL (aW "at" v1 [("parts",v0)]) [("parts",v0),("at",v1)]):={fun _=>rfl,fun _ _=>rfl}
noncomputable def c9(v0 v1 v2 v3 v4 v5 v6 v7:V):List (ac×V):=[("templates",v0),("rounds",v1),("form",v2),("parts",v3),("at",v4),("steps",v5),("loops",v6),("returns",v7)]
theorem ad3(v0 v1 v2 v3 v4 v5 v6 v7:V):(c9 v0 v1 v2 v3 v4 v5 v6 v7).lookup ("templates":ac)=some v0/\(c9 v0 v1 v2 v3 v4 v5 v6 v7).lookup ("rounds":ac)=some v1/\(c9 v0 v1 v2 v3 v4 v5 v6 v7).lookup ("form":ac)=some v2/\(c9 v0 v1 v2 v3 v4 v5 v6 v7).lookup ("parts":ac)=some v3/\(c9 v0 v1 v2 v3 v4 v5 v6 v7).lookup ("at":ac)=some v4/\(c9 v0 v1 v2 v3 v4 v5 v6 v7).lookup ("steps":ac)=some v5/\(c9 v0 v1 v2 v3 v4 v5 v6 v7).lookup ("loops":ac)=some v6/\(c9 v0 v1 v2 v3 v4 v5 v6 v7).lookup ("returns":ac)=some v7/\(c9 v0 v1 v2 v3 v4 v5 v6 v7).lookup ("too_many_steps":ac)=none/\(c9 v0 v1 v2 v3 v4 v5 v6 v7).lookup ("run":ac)=none/\(c9 v0 v1 v2 v3 v4 v5 v6 v7).lookup ("finished":ac)=none/\(c9 v0 v1 v2 v3 v4 v5 v6 v7).lookup ("go_on":ac)=none/\(c9 v0 v1 v2 v3 v4 v5 v6 v7).lookup ("begin_use":ac)=none/\(c9 v0 v1 v2 v3 v4 v5 v6 v7).lookup ("end_use":ac)=none/\(c9 v0 v1 v2 v3 v4 v5 v6 v7).lookup ("begin_choice":ac)=none/\(c9 v0 v1 v2 v3 v4 v5 v6 v7).lookup ("begin_loop":ac)=none/\(c9 v0 v1 v2 v3 v4 v5 v6 v7).lookup ("end_block":ac)=none/\(c9 v0 v1 v2 v3 v4 v5 v6 v7).lookup ("give":ac)=none/\(c9 v0 v1 v2 v3 v4 v5 v6 v7).lookup ("value_of":ac)=none/\(c9 v0 v1 v2 v3 v4 v5 v6 v7).length<1000:={rfl,rfl,rfl,rfl,rfl,rfl,rfl,rfl,rfl,rfl,rfl,rfl,rfl,rfl,rfl,rfl,rfl,rfl,rfl,show 8<1000 by decide}
theorem aeF(v0 v1 v2 v3 v4 v5 v6 v7 v:V):aW "templates" v (c9 v0 v1 v2 v3 v4 v5 v6 v7)=c9 v v1 v2 v3 v4 v5 v6 v7/\aW "rounds" v (c9 v0 v1 v2 v3 v4 v5 v6 v7)=c9 v0 v v2 v3 v4 v5 v6 v7/\aW "form" v (c9 v0 v1 v2 v3 v4 v5 v6 v7)=c9 v0 v1 v v3 v4 v5 v6 v7/\aW "parts" v (c9 v0 v1 v2 v3 v4 v5 v6 v7)=c9 v0 v1 v2 v v4 v5 v6 v7/\aW "at" v (c9 v0 v1 v2 v3 v4 v5 v6 v7)=c9 v0 v1 v2 v3 v v5 v6 v7/\aW "steps" v (c9 v0 v1 v2 v3 v4 v5 v6 v7)=c9 v0 v1 v2 v3 v4 v v6 v7/\aW "loops" v (c9 v0 v1 v2 v3 v4 v5 v6 v7)=c9 v0 v1 v2 v3 v4 v5 v v7/\aW "returns" v (c9 v0 v1 v2 v3 v4 v5 v6 v7)=c9 v0 v1 v2 v3 v4 v5 v6 v:={(rfl),rfl,rfl,rfl,rfl,rfl,rfl,rfl}
theorem vF:(∀v0:V,@Eq FL (aW "templates" v0 []) [("templates",v0)])/\(∀v0 v1:V,@Eq FL (aW "rounds" v1 [("templates",v0)]) [("templates",v0),("rounds",v1)])/\(∀v0 v1 v2:V,@Eq FL (aW "form" v2 [("templates",v0),("rounds",v1)]) [("templates",v0),("rounds",v1),("form",v2)])/\(∀v0 v1 v2 v3:V,@Eq FL (aW "parts" v3 [("templates",v0),("rounds",v1),("form",v2)]) [("templates",v0),("rounds",v1),("form",v2),("parts",v3)])/\(∀v0 v1 v2 v3 v4:V,@Eq FL (aW "at" v4 [("templates",v0),("rounds",v1),("form",v2),("parts",v3)]) [("templates",v0),("rounds",v1),("form",v2),("parts",v3),("at",v4)])/\(∀v0 v1 v2 v3 v4 v5:V,@Eq FL (aW "steps" v5 [("templates",v0),("rounds",v1),("form",v2),("parts",v3),("at",v4)]) [("templates",v0),("rounds",v1),("form",v2),("parts",v3),("at",v4),("steps",v5)])/\(∀v0 v1 v2 v3 v4 v5 v6:V,@Eq FL (aW "loops" v6 [("templates",v0),("rounds",v1),("form",v2),("parts",v3),("at",v4),("steps",v5)]) [("templates",v0),("rounds",v1),("form",v2),("parts",v3),("at",v4),("steps",v5),("loops",v6)])/\(∀v0 v1 v2 v3 v4 v5 v6 v7:V,@Eq FL (aW "returns" v7 [("templates",v0),("rounds",v1),("form",v2),("parts",v3),("at",v4),("steps",v5),("loops",v6)]) [("templates",v0),("rounds",v1),("form",v2),("parts",v3),("at",v4),("steps",v5),("loops",v6),("returns",v7)]):={fun _=>rfl,fun _ _=>rfl,fun _ _ _=>rfl,fun _ _ _ _=>rfl,fun _ _ _ _ _=>rfl,fun _ _ _ _ _ _=>rfl,fun _ _ _ _ _ _ _=>rfl,fun _ _ _ _ _ _ _ _=>rfl}
noncomputable def fk(v0 v1 v2 v3:V):List (ac×V):=[("name",v0),("begin",v1),("end",v2),("standing",v3)]
theorem ad2(v0 v1 v2 v3:V):(fk v0 v1 v2 v3).lookup ("name":ac)=some v0/\(fk v0 v1 v2 v3).lookup ("begin":ac)=some v1/\(fk v0 v1 v2 v3).lookup ("end":ac)=some v2/\(fk v0 v1 v2 v3).lookup ("standing":ac)=some v3/\(fk v0 v1 v2 v3).length<1000:={rfl,rfl,rfl,rfl,show 4<1000 by decide}
theorem aeE(v0 v1 v2 v3 v:V):aW "name" v (fk v0 v1 v2 v3)=fk v v1 v2 v3/\aW "begin" v (fk v0 v1 v2 v3)=fk v0 v v2 v3/\aW "end" v (fk v0 v1 v2 v3)=fk v0 v1 v v3/\aW "standing" v (fk v0 v1 v2 v3)=fk v0 v1 v2 v:={(rfl),rfl,rfl,rfl}
theorem OV:(∀v0:V,@Eq FL (aW "name" v0 []) [("name",v0)])/\(∀v0 v1:V,@Eq FL (aW "begin" v1 [("name",v0)]) [("name",v0),("begin",v1)])/\(∀v0 v1 v2:V,@Eq FL (aW "end" v2 [("name",v0),("begin",v1)]) [("name",v0),("begin",v1),("end",v2)])/\(∀v0 v1 v2 v3:V,@Eq FL (aW "standing" v3 [("name",v0),("begin",v1),("end",v2)]) [("name",v0),("begin",v1),("end",v2),("standing",v3)]):={fun _=>rfl,fun _ _=>rfl,fun _ _ _=>rfl,fun _ _ _ _=>rfl}
theorem O0(v0 v1 v2 v3:V):(fk v0 v1 v2 v3).lookup ("standing":ac)=some v3:=rfl
noncomputable def fj(v0 v1 v2 v3 v4:V):List (ac×V):=[("refusal",v0),("page",v1),("text",v2),("marks",v3),("unended",v4)]
theorem ad1(v0 v1 v2 v3 v4:V):(fj v0 v1 v2 v3 v4).lookup ("refusal":ac)=some v0/\(fj v0 v1 v2 v3 v4).lookup ("page":ac)=some v1/\(fj v0 v1 v2 v3 v4).lookup ("text":ac)=some v2/\(fj v0 v1 v2 v3 v4).lookup ("marks":ac)=some v3/\(fj v0 v1 v2 v3 v4).lookup ("unended":ac)=some v4/\(fj v0 v1 v2 v3 v4).lookup ("text_of":ac)=none/\(fj v0 v1 v2 v3 v4).lookup ("begin_element":ac)=none/\(fj v0 v1 v2 v3 v4).lookup ("end_element":ac)=none/\(fj v0 v1 v2 v3 v4).lookup ("count_marks":ac)=none/\(fj v0 v1 v2 v3 v4).length<1000:={rfl,rfl,rfl,rfl,rfl,rfl,rfl,rfl,rfl,show 5<1000 by decide}
theorem aeD(v0 v1 v2 v3 v4 v:V):aW "refusal" v (fj v0 v1 v2 v3 v4)=fj v v1 v2 v3 v4/\aW "page" v (fj v0 v1 v2 v3 v4)=fj v0 v v2 v3 v4/\aW "text" v (fj v0 v1 v2 v3 v4)=fj v0 v1 v v3 v4/\aW "marks" v (fj v0 v1 v2 v3 v4)=fj v0 v1 v2 v v4/\aW "unended" v (fj v0 v1 v2 v3 v4)=fj v0 v1 v2 v3 v:={(rfl),rfl,rfl,rfl,rfl}
theorem A2:(∀v0:V,@Eq FL (aW "refusal" v0 []) [("refusal",v0)])/\(∀v0 v1:V,@Eq FL (aW "page" v1 [("refusal",v0)]) [("refusal",v0),("page",v1)])/\(∀v0 v1 v2:V,@Eq FL (aW "text" v2 [("refusal",v0),("page",v1)]) [("refusal",v0),("page",v1),("text",v2)])/\(∀v0 v1 v2 v3:V,@Eq FL (aW "marks" v3 [("refusal",v0),("page",v1),("text",v2)]) [("refusal",v0),("page",v1),("text",v2),("marks",v3)])/\(∀v0 v1 v2 v3 v4:V,@Eq FL (aW "unended" v4 [("refusal",v0),("page",v1),("text",v2),("marks",v3)]) [("refusal",v0),("page",v1),("text",v2),("marks",v3),("unended",v4)]):={fun _=>rfl,fun _ _=>rfl,fun _ _ _=>rfl,fun _ _ _ _=>rfl,fun _ _ _ _ _=>rfl}
def p7(v0:V):List (ac×V):=[("templates",v0)]
theorem ad6(v0:V):(p7 v0).lookup ("templates":ac)=some v0/\(p7 v0).lookup ("start":ac)=none/\(p7 v0).lookup ("put":ac)=none/\(p7 v0).lookup ("take":ac)=none/\(p7 v0).lookup ("fill":ac)=none/\(p7 v0).length<1000:={rfl,rfl,rfl,rfl,rfl,show 1<1000 by decide}
theorem aej:(∀v0:V,@Eq FL (aW "templates" v0 []) [("templates",v0)]):=fun _=>rfl
theorem aen(v0:V):(p7 v0).lookup ("templates":ac)=some v0:=rfl
def lT(v0 v1:V):List (ac×V):=[("numbers",v0),("at",v1)]
theorem ad4(v0 v1:V):(lT v0 v1).lookup ("numbers":ac)=some v0/\(lT v0 v1).lookup ("at":ac)=some v1/\(lT v0 v1).lookup ("has_ended":ac)=none/\(lT v0 v1).lookup ("take_number":ac)=none/\(lT v0 v1).lookup ("take_row":ac)=none/\(lT v0 v1).length<1000:={rfl,rfl,rfl,rfl,rfl,show 2<1000 by decide}
theorem aeG(v0 v1 v:V):aW "numbers" v (lT v0 v1)=lT v v1/\aW "at" v (lT v0 v1)=lT v0 v:={(rfl),rfl}
theorem aeh:(∀v0:V,@Eq FL (aW "numbers" v0 []) [("numbers",v0)])/\(∀v0 v1:V,@Eq FL (aW "at" v1 [("numbers",v0)]) [("numbers",v0),("at",v1)]):={fun _=>rfl,fun _ _=>rfl}
section
structure aQ(P:cA)(w:ck)(K:bn)(mg:ac->Option af)(base:bP)(k:Nat)(f:U)(ps:List ac)(sp:Sp):Prop where
 ex:∃fd:mw,Binds K fd ps []/\jQ P w K mg base sL k f fd ps sp
structure ek(K:bn)(mg:ac->Option af)(x:ac)(f:U):Prop where
 mg:mg x=some (.ref f)
 kp:sF K (.ref f)=true
structure iH(K:bn)(mg:ac->Option af)(x:ac)(C f:U):Prop where
 mg:mg x=some (.ref C)
 made:Mk K C f
 cl:dN K C
def GI(mg:ac->Option af)(x:ac)(i:Int):Prop:=∃t,mg x=some (Value.int i t)
def GS(mg:ac->Option af)(x:ac)(s:ac):Prop:=∃t,mg x=some (Value.str s t)
section
variable{X:Cx}{k:Nat}{f C:U}{ps:List ac}{sp:Sp}{x m:ac}{p pos apos:cS}{e o:bz}{es:List bz}{ta:TE}{t:TA}
theorem bS{i:Int}(h:GI X.mg x i)(hg:autoParam (Gl X x) _L.aR)(hd:autoParam ((x==("__debug__":ac))=false) _L.aD):PE X (.Name x pos) (tC (.int i)):=by obtain⟨t,h⟩:=h;exact KO hg h {(t),rfl} hd
theorem gf{s:ac}(h:GS X.mg x s)(hg:autoParam (Gl X x) _L.aR)(hd:autoParam ((x==("__debug__":ac))=false) _L.aD):PE X (.Name x pos) (tC (.str s)):=by obtain⟨t,h⟩:=h;exact KO hg h {(t),rfl} hd
theorem l7{a:U}(h:X.mg x=some (.ref a))(hg:autoParam (Gl X x) _L.aR)(hd:autoParam ((x==("__debug__":ac))=false) _L.aD):PE X (.Name x pos) (tC (.ref a)):=KO hg h rfl hd
theorem dh(D:aQ X.prog X.w X.K X.mg X.base k f ps sp)(g:ek X.K X.mg x f)(hr:dR k X.A)(ha:PA X (e::es) t)(hg:autoParam (Gl X x) _L.aR)(hdb:autoParam ((x==("__debug__":ac))=false) _L.aD)
  (he:autoParam (cX (e::es) X.env=(false,cB e X.env)::cX es X.env) _L.aR)(hpl:autoParam ((ig pos (cX es X.env)).any (·.1)=false) _L.aR):PE X (.Call (.Name x p) (e::es) [] pos) (wQ sp [] E0 t):=by
 obtain⟨fd,b,F⟩:=D.ex;exact akV F hr hg g.mg g.kp b .nil y6 ha hdb he hpl
theorem bY{pl:jn Bool}(he:PE X o ta)(c:dN X.K C)(hm:cf X.K C m f)(D:aQ X.prog X.w X.K X.mg X.base k f ps sp)(hr:dR k X.A)(ha:PA X (e::es) t)
  (hst:autoParam (cX (e::es) X.env=(false,cB e X.env)::cX es X.env) _L.aR)(hpl:autoParam ((ig pos (cX es X.env)).any (·.1)=false) _L.aR)
  (ht:cB (.Call (.Attribute o m apos) (e::es) [] pos) X.env=(do
   let ov←cB o X.env
   D7 apos.atName
   let (f,first)←holding [ov] (Ad ov m pl)
   DW pos f first (ig pos (cX (e::es) X.env)) (xt pos (xu [] X.env))):=by rfl):
  PE X (.Call (.Attribute o m apos) (e::es) [] pos) (qB C m sp [] E0 ta t):=by
 obtain⟨fd,b,F⟩:=D.ex;exact ak0 (pl:=pl) he c hm F hr b .nil y6 ha hst hpl ht
theorem cE{pl:jn Bool}(he:PE X o ta)(c:dN X.K C)(hm:cf X.K C m f)(D:aQ X.prog X.w X.K X.mg X.base k f ps sp)(hr:dR k X.A)
  (ht:autoParam (cB (.Call (.Attribute o m apos) [] [] pos) X.env=(do
   let ov←cB o X.env
   D7 apos.atName
   let (f,first)←holding [ov] (Ad ov m pl)
   DW pos f first (ig pos (cX [] X.env)) (xt pos (xu [] X.env)))) _L.aR):
  PE X (.Call (.Attribute o m apos) [] [] pos) (qB C m sp [] E0 ta gQ):=by
 obtain⟨fd,b,F⟩:=D.ex;exact ak1 (pl:=pl) he c hm F hr b .nil y6 ht
theorem iu(g:iH X.K X.mg x C f)(D:aQ X.prog X.w X.K X.mg X.base k f ps sp)(hr:dR (k+1) X.A)(ha:PA X (e::es) t)(hg:autoParam (Gl X x) _L.aR)(hdb:autoParam ((x==("__debug__":ac))=false) _L.aD)
  (he:autoParam (cX (e::es) X.env=(false,cB e X.env)::cX es X.env) _L.aR)(hpl:autoParam ((ig pos (cX es X.env)).any (·.1)=false) _L.aR):PE X (.Call (.Name x p) (e::es) [] pos) (wT C sp [] E0 t):=by
 obtain⟨fd,b,F⟩:=D.ex;exact akY g.made F hr hg g.mg b .nil y6 ha hdb he hpl
theorem wC(g:iH X.K X.mg x C f)(D:aQ X.prog X.w X.K X.mg X.base k f ps sp)(hr:dR (k+1) X.A)(hg:autoParam (Gl X x) _L.aR)(hdb:autoParam ((x==("__debug__":ac))=false) _L.aD):PE X (.Call (.Name x p) [] [] pos) (wT C sp [] E0 gQ):=by obtain⟨fd,b,F⟩:=D.ex;exact akZ g.made F hr hg g.mg b .nil y6 hdb
end
theorem aQ.of{P:cA}{w:ck}{K:bn}{mg:ac->Option af}{base:bP}{x qual:ac}{st:gj}{f:U}{N ps:List ac}{k:Nat}{sp:Sp}(F:∃fd,oG K x qual st f fd/\Binds K fd ps [])(S:aZ N ps (aV st))
  (hbody:∀(cdv:af) (A:cO) (outer:List fC) (s:ax) (H:Hp) (vs:List V) (Q:VK) (E:XK),dR k (A.deeper (qI qual (aV st) s.heap.objs.size f cdv))->sp vs H Q E->∃t,kS (qW sL P w K mg base N qual (aV st) f cdv A outer s H E).yX (qX st) t/\t {nx:=fun _ H'=>Q .aN H',rt:=Q} (start N vs) H)(bu:∀vs H Q E,sp vs H Q E->vs.length=ps.length:=by intro vs H Q E h;cases h;subst_vars;rfl):aQ P w K mg base (k+1) f ps sp:=by
 obtain⟨fd,F,b⟩:=F;exact{fd,b,F.ok S bu hbody}
theorem EJ{CX:lJ}{P:cA}{w:ck}{K:bn}{mg:ac->Option af}{base:bP}{N:List ac}{qual:ac}{scope:fZ}{f:U}{cd:af}{A:cO}{outer:List fC}{s:ax}{H:Hp}{E:XK}:
  (qW CX P w K mg base N qual scope f cd A outer s H E).K=K:=rfl
theorem V2(a b:Int):zo (V.int a) (V.int b)=true:=rfl
theorem V3(a b:ac):zo (V.str a) (V.str b)=true:=rfl
theorem V1(a b:Bool):zo (V.bl a) (V.bl b)=true:=rfl
structure KD(K:bn)(a:U)(o:ba)(es:Array mq)(ep:Nat)(kvs:List (Key×V)):Prop where
 lk:K.lookup a=some o
 ns:(a==lI)=false
 ex:o.ExactDict
 dt:o.data=.dict es ep
 sz:es.size=kvs.length
 ps:∀(P:cA) (w:ck),∃vs,KV kvs vs/\KeysOf (gc P w) es/\Pairs (gc P w) es.toList vs/\(vs.map (·.1)).Nodup
noncomputable def vb(l:List Nat):List V:=l.map fun(n:Nat)=>V.int (n:Int)
def S(b:List Nat):V:=.str ⟨b.toArray⟩
theorem lL{a b:List Nat}(h:S a=S b):a=b:=by injection h with h;injection h with h;simpa using eU Mj h
theorem eD(l:List Nat):(vb l).length=l.length:=by simp[vb]
theorem zC(a b:List Nat):vb (a++b)=vb a++vb b:=by simp[vb]
theorem Yo(l:List Nat)(i:Nat):(vb l)[i]?=(l[i]?).map fun(n:Nat)=>V.int (n:Int):=by simp[vb]
def ah(A:U->Prop)(H H':Hp):Prop:=∀b o,¬ A b->H b=some o->H' b=some o
theorem ah.refl{A:U->Prop}(H:Hp):ah A H H:=fun _ _ _ h=>h
theorem ah.trans{A:U->Prop}{H H1 H2:Hp}(a:ah A H H1)(b:ah A H1 H2):ah A H H2:=fun c o n h=>b c o n (a c o n h)
theorem ah.ae{A:U->Prop}{H:Hp}{a:U}{o:HO}(h:A a):ah A H (_L.ae H a o):=fun b u n e=>by rw[aj (fun z=>n (by rwa[z]))];exact e
theorem ah.new{A:U->Prop}{H:Hp}{a:U}{o:HO}(h:H a=none):ah A H (_L.ae H a o):=fun b u n e=>by rwa[aj (aC e h)]
theorem ah.mono{A B:U->Prop}{H H':Hp}(a:ah A H H')(h:∀b,A b->B b):ah B H H':=fun b o n e=>a b o (fun z=>n (h b z)) e
theorem aw.aP{A:U->Prop}{H H':Hp}(s:aw H H'):ah A H H':=fun b o _ e=>s b o e
theorem aw.new{H:Hp}{a:U}{o:HO}(h:H a=none):aw H (_L.ae H a o):=fun b u e=>by rwa[aj (aC e h)]
end
structure aE where
 (c_OneForm fU gv vj lQ eY cW g9 mD tf dj gu fE pY nJ GK GW GQ GX GG GH FJ FF FE FG FI FH FK Gk Gj Gn Gm Gp Hc GC Gy Gz GB GD GA E7 Gq GO Hd FO FN FT FU FR FP Ga Gb F8 Gf FZ Ge FV FW Gg Gh FY Gc F9 FM Gu Gr Gs Gw Gv Gx G6 G2 Ha GY G7 G8 GN GU GR GJ GL Hb GV Fx Fw Gi Fm Fp Fn Fj Fl Fg Fi Fe Ff Fh Fk Fq Fd Fb Fc E8 Fa E9 G5 GZ G9 G4 G3 Fz FC FA FD Fy Ft Fs Fu Fv GF A0 Ho Hn Pb Pa Pc Hq:U)
abbrev DX(K:bn)(a b:ac)(s:gj)(f:U)(p:LS):Prop:=∃fd,oG K a b s f fd/\Binds K fd p []
abbrev DY(K:bn)(a:ac)(s:gj)(f:U)(p:LS):Prop:=∃fd,oG K a a s f fd/\Binds K fd p []
structure Txt(K:bn)(mg:ac->Option af)(t:aE):Prop where
 acJ:DY K "codes" U9 t.GK Kn
 tM:ek K mg "codes" t.GK
 ac5:DY K "may_stand" Vh t.GW CG
 Pf:ek K mg "may_stand" t.GW
 acQ:DY K "is_digit" Vd t.GQ CC
 Pe:ek K mg "is_digit" t.GQ
 ac6:DY K "name_sign" Vi t.GX CH
 Pg:ek K mg "name_sign" t.GX
 acG:DY K "begins_name" U6 t.GG CA
 aeQ:ek K mg "begins_name" t.GG
 acH:DY K "begins_with" U7 t.GH CB
 Hr:ek K mg "begins_with" t.GH
 abX:DX K "__init__" "OneForm.__init__" Up t.FJ Cg
 abT:DX K "add_opening" "OneForm.add_opening" Uk t.FF JX
 ahV:cf K t.c_OneForm "add_opening" t.FF
 abS:DX K "add_closing" "OneForm.add_closing" Uj t.FE Cc
 ahU:cf K t.c_OneForm "add_closing" t.FE
 abU:DX K "add_text" "OneForm.add_text" Ul t.FG Cd
 ahW:cf K t.c_OneForm "add_text" t.FG
 abW:DX K "count_mark" "OneForm.count_mark" Uo t.FI Cf
 IS:cf K t.c_OneForm "count_mark" t.FI
 abV:DX K "check_size" "OneForm.check_size" Um t.FH Ce
 Rq:cf K t.c_OneForm "check_size" t.FH
 abY:DX K "write_escaped" "OneForm.write_escaped" Uq t.FK JY
 Rr:cf K t.c_OneForm "write_escaped" t.FK
 acm:DX K "__init__" "Rounds.__init__" UN t.Gk Cq
 acl:DX K "enter" "Rounds.enter" UM t.Gj Kc
 IU:cf K t.fU "enter" t.Gj
 aco:DX K "leave" "Rounds.leave" UP t.Gn Ke
 ah4:cf K t.fU "leave" t.Gn
 acn:DX K "innermost" "Rounds.innermost" UO t.Gm Kd
 IV:cf K t.fU "innermost" t.Gm
 acp:DX K "text_for" "Rounds.text_for" UQ t.Gp Kf
 ah5:cf K t.fU "text_for" t.Gp
 ado:DY K "shared_names" Vv t.Hc KE
 ae9:ek K mg "shared_names" t.Hc
 acC:DX K "__init__" "Wording.__init__" U3 t.GC Cz
 acy:DX K "add_byte" "Wording.add_byte" UZ t.Gy Cv
 RA:cf K t.gv "add_byte" t.Gy
 acz:DX K "add_hole" "Wording.add_hole" U0 t.Gz Cw
 ah9:cf K t.gv "add_hole" t.Gz
 acB:DX K "has_hole" "Wording.has_hole" U2 t.GB Cy
 IX:cf K t.gv "has_hole" t.GB
 acD:DX K "texts_given" "Wording.texts_given" U4 t.GD Kk
 aia:cf K t.gv "texts_given" t.GD
 acA:DX K "fill_in" "Wording.fill_in" U1 t.GA Kj
 RB:cf K t.gv "fill_in" t.GA
 abn:DX K "__init__" "Attribute.__init__" TF t.E7 BW
 acq:DX K "__init__" "Tag.__init__" US t.Gq Cr
 acO:DY K "has_two_of_one_name" Vc t.GO Kq
 Pd:ek K mg "has_two_of_one_name" t.GO
 adp:DY K "whole_name" Vw t.Hd KG
 afa:ek K mg "whole_name" t.Hd
 ab1:DX K "__init__" "Reader.__init__" Ut t.FO Cj
 ab0:DX K "ended" "Reader.ended" Us t.FN Ci
 qm:cf K t.eY "ended" t.FN
 ab4:DX K "sees" "Reader.sees" Uw t.FT Cm
 ua:cf K t.eY "sees" t.FT
 ab5:DX K "sees_brace_part" "Reader.sees_brace_part" Ux t.FU J0
 Ru:cf K t.eY "sees_brace_part" t.FU
 ab3:DX K "passes" "Reader.passes" Uv t.FR Ck
 k9:cf K t.eY "passes" t.FR
 ab2:DX K "pass_blanks" "Reader.pass_blanks" Uu t.FP JZ
 Rs:cf K t.eY "pass_blanks" t.FP
 acd:DX K "take_name" "Reader.take_name" UE t.Ga J5
 yH:cf K t.eY "take_name" t.Ga
 ace:DX K "take_name_between" "Reader.take_name_between" UF t.Gb J6
 IT:cf K t.eY "take_name_between" t.Gb
 aca:DX K "take_character" "Reader.take_character" UC t.F8 J3
 ah1:cf K t.eY "take_character" t.F8
 ach:DX K "take_reference" "Reader.take_reference" UI t.Gf J9
 ah2:cf K t.eY "take_reference" t.Gf
 ab9:DX K "take_brace" "Reader.take_brace" UB t.FZ J2
 ah0:cf K t.eY "take_brace" t.FZ
 acg:DX K "take_piece" "Reader.take_piece" UH t.Ge J8
 Rx:cf K t.eY "take_piece" t.Ge
 ab6:DX K "sees_end_of_text" "Reader.sees_end_of_text" Uy t.FV Cn
 ahX:cf K t.eY "sees_end_of_text" t.FV
 ab7:DX K "sees_end_of_value" "Reader.sees_end_of_value" Uz t.FW Co
 ahY:cf K t.eY "sees_end_of_value" t.FW
 aci:DX K "take_text" "Reader.take_text" UJ t.Gg Ka
 Ry:cf K t.eY "take_text" t.Gg
 acj:DX K "take_value" "Reader.take_value" UK t.Gh Kb
 ah3:cf K t.eY "take_value" t.Gh
 ab8:DX K "take_attribute" "Reader.take_attribute" UA t.FY J1
 ahZ:cf K t.eY "take_attribute" t.FY
 acf:DX K "take_opening" "Reader.take_opening" UG t.Gc J7
 Rw:cf K t.eY "take_opening" t.Gc
 acb:DX K "take_closing" "Reader.take_closing" UD t.F9 J4
 Rv:cf K t.eY "take_closing" t.F9
 abZ:DX K "__init__" "Part.__init__" Ur t.FM Ch
 acu:DX K "__init__" "Template.__init__" UV t.Gu Ct
 acr:DX K "begin_part" "Template.begin_part" UT t.Gr Cs
 Rz:cf K t.g9 "begin_part" t.Gr
 acs:DX K "end_part" "Template.end_part" UU t.Gs Kg
 IW:cf K t.g9 "end_part" t.Gs
 acw:DX K "is_in_element" "Template.is_in_element" UX t.Gw Kh
 ah7:cf K t.g9 "is_in_element" t.Gw
 acv:DX K "is_in_block" "Template.is_in_block" UW t.Gv Cu
 ah6:cf K t.g9 "is_in_block" t.Gv
 acx:DX K "uses" "Template.uses" UY t.Gx Ki
 ah8:cf K t.g9 "uses" t.Gx
 adh:DY K "read_opening" Vp t.G6 Kx
 ae3:ek K mg "read_opening_template" t.G6
 adc:DY K "read_closing" Vl t.G2 Ku
 aeZ:ek K mg "read_closing_template" t.G2
 adl:DY K "read_text" Vt t.Ha KA
 ae7:ek K mg "read_text_template" t.Ha
 ac9:DY K "read_brace_part" Vj t.GY Ks
 aeX:ek K mg "read_brace_part" t.GY
 adi:DY K "read_part" Vq t.G7 CJ
 ae4:ek K mg "read_part" t.G7
 adj:DY K "read_template" Vr t.G8 Ky
 ae5:ek K mg "read_template" t.G8
 acN:DY K "has_twin_attributes" Vb t.GN Kp
 aeT:ek K mg "has_twin_attributes" t.GN
 acS:DY K "is_too_much" Vf t.GU Kr
 aeV:ek K mg "is_too_much" t.GU
 acR:DY K "is_guarded_attribute" Ve t.GR CD
 aeU:ek K mg "is_guarded_attribute" t.GR
 acI:DY K "breaks_guard" U8 t.GJ Km
 aeR:ek K mg "breaks_guard" t.GJ
 acM:DY K "has_forbidden_hole" Va t.GL Ko
 aeS:ek K mg "has_forbidden_hole" t.GL
 adm:DY K "refusal_of" Vu t.Hb KC
 ae8:ek K mg "refusal_of" t.Hb
 ac3:DY K "leads_well" Vg t.GV CF
 aeW:ek K mg "leads_well" t.GV
 abM:DX K "__init__" "Loop.__init__" Ud t.Fx B9
 abL:DX K "current" "Loop.current" Uc t.Fw B8
 Rp:cf K t.mD "current" t.Fw
 ack:DX K "__init__" "Return.__init__" UL t.Gi Cp
 abD:DX K "__init__" "Filling.__init__" T4 t.Fm B3
 abF:DX K "too_many_steps" "Filling.too_many_steps" T6 t.Fp B5
 Rn:cf K t.dj "too_many_steps" t.Fp
 abE:DX K "run" "Filling.run" T5 t.Fn B4
 ahM:cf K t.dj "run" t.Fn
 abA:DX K "finished" "Filling.finished" T1 t.Fj B2
 ahJ:cf K t.dj "finished" t.Fj
 abC:DX K "go_on" "Filling.go_on" T3 t.Fl JQ
 ahL:cf K t.dj "go_on" t.Fl
 abx:DX K "begin_use" "Filling.begin_use" TY t.Fg B1
 ahG:cf K t.dj "begin_use" t.Fg
 abz:DX K "end_use" "Filling.end_use" T0 t.Fi JO
 ahI:cf K t.dj "end_use" t.Fi
 abv:DX K "begin_choice" "Filling.begin_choice" TW t.Fe JL
 ahE:cf K t.dj "begin_choice" t.Fe
 abw:DX K "begin_loop" "Filling.begin_loop" TX t.Ff JM
 ahF:cf K t.dj "begin_loop" t.Ff
 aby:DX K "end_block" "Filling.end_block" TZ t.Fh JN
 ahH:cf K t.dj "end_block" t.Fh
 abB:DX K "give" "Filling.give" T2 t.Fk JP
 ahK:cf K t.dj "give" t.Fk
 abG:DX K "value_of" "Filling.value_of" T7 t.Fq JR
 ahN:cf K t.dj "value_of" t.Fq
 abu:DX K "__init__" "Element.__init__" TU t.Fd B0
 abr:DX K "__init__" "Data.__init__" TN t.Fb BY
 abt:DX K "text_of" "Data.text_of" TR t.Fc BZ
 ahD:cf K t.fE "text_of" t.Fc
 abo:DX K "begin_element" "Data.begin_element" TJ t.E8 JJ
 ahC:cf K t.fE "begin_element" t.E8
 abq:DX K "end_element" "Data.end_element" TM t.Fa JK
 Rm:cf K t.fE "end_element" t.Fa
 abp:DX K "count_marks" "Data.count_marks" TK t.E9 BX
 IR:cf K t.fE "count_marks" t.E9
 adg:DY K "read_opening" Vo t.G5 Kw
 ae2:ek K mg "read_opening_pagedata" t.G5
 ada:DY K "read_closing" Vk t.GZ Kt
 aeY:ek K mg "read_closing_pagedata" t.GZ
 adk:DY K "read_text" Vs t.G9 Kz
 ae6:ek K mg "read_text_pagedata" t.G9
 adf:DY K "read_mark" Vn t.G4 CI
 ae1:ek K mg "read_mark" t.G4
 ade:DY K "read_data" Vm t.G3 Kv
 ae0:ek K mg "read_data" t.G3
 abO:DX K "__init__" "Maker.__init__" Uf t.Fz Ca
 abQ:DX K "start" "Maker.start" Uh t.FC Cb
 ahS:cf K t.pY "start" t.FC
 abP:DX K "put" "Maker.put" Ug t.FA JV
 ahR:cf K t.pY "put" t.FA
 abR:DX K "take" "Maker.take" Ui t.FD JW
 ahT:cf K t.pY "take" t.FD
 abN:DX K "fill" "Maker.fill" Ue t.Fy JU
 ahQ:cf K t.pY "fill" t.Fy
 abI:DX K "__init__" "Line.__init__" T9 t.Ft B7
 abH:DX K "has_ended" "Line.has_ended" T8 t.Fs B6
 ahO:cf K t.nJ "has_ended" t.Fs
 abJ:DX K "take_number" "Line.take_number" Ua t.Fu JS
 ahP:cf K t.nJ "take_number" t.Fu
 abK:DX K "take_row" "Line.take_row" Ub t.Fv JT
 Ro:cf K t.nJ "take_row" t.Fv
 acE:DY K "answer_of" U5 t.GF Kl
 aeO:ek K mg "answer_of" t.GF
 acF:DY K "answers" K5 t.A0 wq
 aeP:ek K mg "answers" t.A0
 mS:iH K mg "OneForm" t.c_OneForm t.FJ
 aam:bO K t.c_OneForm "row"
 aal:bO K t.c_OneForm "marks"
 aak:bO K t.c_OneForm "depth"
 aaj:bO K t.c_OneForm "behind_text"
 aan:bO K t.c_OneForm "too_much"
 oh:iH K mg "Rounds" t.fU t.Gk
 aaw:bO K t.fU "data"
 Ny:bO K t.fU "found"
 k7:iH K mg "Wording" t.gv t.GC
 NA:bO K t.gv "pieces"
 aaC:bO K t.gv "fixed"
 Nz:bO K t.gv "holes"
 Q1:iH K mg "Attribute" t.vj t.E7
 ZX:bO K t.vj "name"
 ZY:bO K t.vj "wording"
 Q3:iH K mg "Tag" t.lQ t.Gq
 aaz:bO K t.lQ "name"
 aay:bO K t.lQ "attributes"
 aax:bO K t.lQ "alone"
 cq:iH K mg "Reader" t.eY t.FO
 aas:bO K t.eY "row"
 aar:bO K t.eY "at"
 aat:bO K t.eY "with_holes"
 og:iH K mg "Part" t.cW t.FM
 aao:bO K t.cW "kind"
 Nw:bO K t.cW "name"
 Eo:bO K t.cW "attributes"
 aaq:bO K t.cW "wording"
 aap:bO K t.cW "partner"
 j7:iH K mg "Template" t.g9 t.Gu
 u9:bO K t.g9 "parts"
 aaA:bO K t.g9 "depth"
 aaB:bO K t.g9 "unended"
 BG:iH K mg "Loop" t.mD t.Fx
 aai:bO K t.mD "row"
 aah:bO K t.mD "at"
 Q2:iH K mg "Return" t.tf t.Gi
 aav:bO K t.tf "parts"
 aau:bO K t.tf "at"
 k6:iH K mg "Filling" t.dj t.Fm
 aae:bO K t.dj "templates"
 aac:bO K t.dj "rounds"
 Z8:bO K t.dj "form"
 aaa:bO K t.dj "parts"
 Z7:bO K t.dj "at"
 aad:bO K t.dj "steps"
 Z9:bO K t.dj "loops"
 aab:bO K t.dj "returns"
 yC:iH K mg "Element" t.gu t.Fd
 Z6:bO K t.gu "name"
 Z4:bO K t.gu "begin"
 Z5:bO K t.gu "end"
 En:bO K t.gu "standing"
 qk:iH K mg "Data" t.fE t.Fb
 Z1:bO K t.fE "refusal"
 Z0:bO K t.fE "page"
 Z2:bO K t.fE "text"
 ZZ:bO K t.fE "marks"
 Z3:bO K t.fE "unended"
 tY:iH K mg "Maker" t.pY t.Fz
 Nv:bO K t.pY "templates"
 vZ:iH K mg "Line" t.nJ t.Ft
 aag:bO K t.nJ "numbers"
 aaf:bO K t.nJ "at"
 agB:GI mg "NAME_BYTES" 16
 agE:GI mg "TEMPLATES" 32
 agF:GI mg "TEMPLATE_BYTES" 8192
 agG:GI mg "TEMPLATE_PARTS" 1024
 Iv:GI mg "PAGE_BYTES" 16384
 QJ:GI mg "PAGE_MARKS" 2048
 QE:GI mg "ATTRIBUTES" 8
 Ip:GI mg "DEPTH" 32
 agD:GI mg "STEPS" 20000
 QI:GI mg "NEWLINE" 10
 QF:GI mg "BLANK" 32
 QK:GI mg "QUOTE" 34
 agv:GI mg "AMPERSAND" 38
 agz:GI mg "HYPHEN" 45
 Iq:GI mg "DIGIT_0" 48
 agw:GI mg "DIGIT_9" 57
 QG:GI mg "LESS" 60
 agx:GI mg "GREATER" 62
 Ir:GI mg "LETTER_A" 97
 QH:GI mg "LETTER_Z" 122
 Io:GI mg "BRACE" 123
 BA:GI mg "NO_CHARACTER" (-1)
 Iu:GI mg "NOT_THERE" (-2)
 agy:GI mg "HOLE_FORBIDDEN" (-13)
 agA:GI mg "IN_USE" (-16)
 agH:GI mg "THERE_ALREADY" (-17)
 agM:GI mg "WRONG_NAME" (-22)
 QL:GI mg "TWO_OF_ONE_NAME" (-22)
 vW:GI mg "TOO_MUCH" (-28)
 agI:GI mg "TOO_MANY_STEPS" (-62)
 yB:GI mg "MALFORMED" (-71)
 agK:GI mg "TP_START" 0
 agJ:GI mg "TP_PUT" 1
 agL:GI mg "TP_TAKE" 2
 tW:GI mg "NUMBER" 0
 agC:GI mg "PAGE" 1
 alP:GS mg "LETTERS" "abcdefghijklmnopqrstuvwxyz"
 alM:GS mg "DIGITS" "0123456789"
 CY:GS mg "OPENING" "opening"
 CW:GS mg "CLOSING" "closing"
 UR:GS mg "TEXT" "text"
 alO:GS mg "IF_THERE" "{?"
 TV:GS mg "FOR_EACH" "{*"
 TH:GS mg "BLOCK_END" "{/"
 wJ:GS mg "USE" "{>"
 alN:GS mg "GUARDED_BEGINNING" "on"
 alw:mg "BRACE_PARTS"=some (.ref t.Ho)
 Ti:∀H,eW K H t.Ho [V.str "{?",V.str "{!",V.str "{*",V.str "{/",V.str "{>"]
 KS:mg "BLOCKS"=some (.ref t.Hn)
 CN:∀H,eW K H t.Hn [V.str "{?",V.str "{!",V.str "{*"]
 KU:mg "GUARDED_NAMES"=some (.ref t.Pb)
 ze:∀H,eW K H t.Pb [V.str "script",V.str "style",V.str "iframe",V.str "object",V.str "embed"]
 alx:mg "GUARDED_ATTRIBUTES"=some (.ref t.Pa)
 aln:∀H,eW K H t.Pa [V.str "style",V.str "srcdoc"]
 aly:mg "LEADING_NAMES"=some (.ref t.Pc)
 alo:∀H,eW K H t.Pc [V.str "href",V.str "src",V.str "action",V.str "formaction",V.str "poster",V.str "cite"]
 CQ:mg "ESCAPES"=some (.ref t.Hq)
 OA:∃ob es ep,KD K t.Hq ob es ep [(dL 60,V.str "&lt;"),(dL 62,V.str "&gt;"),(dL 38,V.str "&amp;"),(dL 34,V.str "&quot;")]
 cK:mg "len"=none
 ve:mg "any"=none
 aaV:mg "sorted"=none
 NP:mg "list"=none
 aaU:mg "set"=none
 aaT:mg "ord"=none
 NO:mg "isinstance"=none
 aaS:mg "max"=none
 aaW:mg "str"=none
variable{P:cA}{w:ck}{K:bn}{mg:ac->Option af}{base:bP}{t:aE}
section
def yp(k:_L.St->Hp->Prop):_L.St->Hp->Prop:=k
theorem afY{k:_L.St->Hp->Prop}{σ:_L.St}{H:Hp}(h:k σ H):yp k σ H:=h
theorem Xy{sp:Sp}{vs:List V}{H:Hp}{Q:VK}{E:XK}(h:∀F:VK,(∀v H',Q v H'->F v H')->sp vs H F E):sp vs H Q E:=h Q fun _ _ h=>h
structure Ai(N k:_L.St->Hp->Prop):Prop where
 go:∀{σ:_L.St} {H:Hp},k σ H->N σ H
theorem Ai.run{N k:_L.St->Hp->Prop}{σ:_L.St}{H:Hp}(c:Ai N k)(h:k σ H):N σ H:=c.go h
theorem amH{t u:_L.TS}{D:Ends}{σ:_L.St}{H:Hp}(h:∀N,Ai N (u D)->t {D with nx:=N} σ H):Dn t u D σ H:=h (u D) ⟨fun h=>h⟩
theorem opq{G:Prop}(h:∀R:Prop,(G->R)->R):G:=h G id
structure Tq(Q:VK):Type where
def hT(c:TT):TT:=c
def hE(c:TE):TE:=c
def hq(Q:VK)(_:Tq Q):VK:=Q
theorem afh{c:TT}{σ:_L.St}{H:Hp}{Q:Bool->Hp->Prop}(h:c σ H Q):hT c σ H Q:=h
theorem afg{c:TE}{σ:_L.St}{H:Hp}{Q:VK}(h:c σ H Q):hE c σ H Q:=h
theorem agh{Q:VK}{g:Tq Q}{v:V}{H:Hp}(h:Q v H):hq Q g v H:=h
structure Tg(p:U->U->V->Prop):Type where
structure Tp(p:Hp->Prop):Type where
def kA(C:U)(f:ac)(y:V)(H:Hp)(a:U)(p:Hp->Prop)(_:Tp p)(o:Option HO):Prop:=∃dx fs,o=some (.am C dx fs)/\fs.length<1000/\p (_L.ae H a (.am C dx (aW f y fs)))
def kf(K:bn)(f:ac)(Q:VK):VK:=fun x H=>∃a C dx fs v,x=.ref a/\H a=some (.am C dx fs)/\dN K C/\bO K C f/\fs.lookup f=some v/\Q v H
def kg(K:bn)(f:ac)(p:U->U->V->Hp->Prop):VK:=fun x H=>∃a C dx fs v,x=.ref a/\H a=some (.am C dx fs)/\dN K C/\bO K C f/\fs.lookup f=some v/\p a C v H
def km(C:U)(m:ac)(F:VK):VK:=fun x H=>∃a dx fs,x=.ref a/\H a=some (.am C dx fs)/\fs.lookup m=none/\F x H
def kp(K:bn)(f:ac)(y:V)(p:Hp->Prop):VK:=fun x H=>∃a C dx fs,x=.ref a/\H a=some (.am C dx fs)/\dN K C/\bO K C f/\fs.length<1000/\p (_L.ae H a (.am C dx (aW f y fs)))
def kb(Q:Bool->Hp->Prop):VK:=fun x H=>∃k,x=.bl k/\Q k H
def ki(Q:Int->Hp->Prop):VK:=fun x H=>∃k,x=.int k/\Q k H
structure Tr(p:U->U->V->Hp->Prop):Type where
section
variable{t u:_L.TS}{D:Ends}{σ:_L.St}{H:Hp}{Q:VK}{te ta tb tc tv:TE}{c c':TT}{g:TG}{K:bn}{f m:ac}{QB:Bool->Hp->Prop}{QA:List V->Hp->Prop}{i:Nat}{v x y:V}{r r':R2}{al:TA}{sp:Sp}{dvs:List V}{E:XK}{C:U}{T:String}
theorem aod:zx te D σ H=te σ H D.rt:=rfl
theorem aoe:LX D σ H=D.rt .aN H:=rfl
theorem aoh:Dn t u D σ H=t {D with nx:=yp (u D)} σ H:=rfl
theorem anX:Dj c t u D σ H=c σ H fun b H1=>if b=true then yp (t D) σ H1 else yp (u D) σ H1:=rfl
theorem an3:Dl D σ H=D.nx σ H:=rfl
theorem anU:LK te D σ H=te σ H fun _ H1=>D.nx σ H1:=rfl
theorem anJ:Df te g D σ H=te σ H fun x H1=>g x σ H1 D.nx:=rfl
theorem an2{N:_L.St->Hp->Prop}:rC i v σ H N=N (σ.set i (some v)) H:=rfl
theorem anK{ti:u6}:XM i te ti D σ H=dz i σ H fun x _=>te σ H fun y H1=>ti x y H1 fun z H2=>D.nx (σ.set i (some z)) H2:=rfl
theorem anN:XN D σ H=D.bk σ H:=rfl
theorem anR:am2 D σ H=D.ct σ H:=rfl
theorem aog:K3 K ta tv f D σ H=tv σ H fun y H1=>ta σ H1 (kp K f y (D.nx σ)):=rfl
theorem aof{rd:V->V->Hp->VK->Prop}:K4 K ta tv rd f D σ H=ta σ H (kg K f fun a C v H1=>tv σ H1 fun y H2=>rd v y H2 fun z H3=>kA C f z H3 a (D.nx σ) ⟨⟩ (H3 a)):=rfl
theorem z_c:tC v σ H Q=Q v H:=rfl
theorem an9:pF r ta tb σ H Q=ta σ H fun x H1=>tb σ H1 fun y H2=>r x y H2 Q:=rfl
theorem aol{r:V->Hp->VK->Prop}:L1 r ta σ H Q=ta σ H fun x H1=>r x H1 Q:=rfl
theorem anQ:Dh r r' ta tb tc σ H Q=ta σ H fun x H1=>tb σ H1 fun y H2=>r x y H2 (kb fun k H3=>if k=true then hE tc σ H3 fun w' H4=>r' y w' H4 Q else Q (.bl false) H3):=rfl
theorem aoj:Do te σ H QB=te σ H (kb QB):=rfl
theorem z_B:tB te σ H QB=te σ H (kb QB):=rfl
theorem an6:LP c σ H QB=c σ H fun k H1=>QB (!k) H1:=rfl
theorem anH:De c c' σ H QB=c σ H fun k H1=>if k=true then hT c' σ H1 QB else QB false H1:=rfl
theorem aoa:Dm c c' σ H QB=c σ H fun k H1=>if k=true then QB true H1 else hT c' σ H1 QB:=rfl
theorem aob:LU ta tb σ H Q=ta σ H (kb fun c H1=>if c=true then Q (.bl true) H1 else hE tb σ H1 Q):=rfl
theorem anI:zt ta tb σ H Q=ta σ H (kb fun c H1=>if c=true then hE tb σ H1 Q else Q (.bl false) H1):=rfl
theorem an8:LR ta σ H Q=ta σ H (kb fun c H1=>Q (.bl (!c)) H1):=rfl
theorem anW:LL c ta tb σ H Q=c σ H fun k H1=>if k=true then hE ta σ H1 Q else hE tb σ H1 Q:=rfl
theorem anV:kt K ta f σ H Q=ta σ H (kf K f Q):=rfl
theorem an1:qB C m sp dvs E ta al σ H Q=ta σ H (km C m fun x H1=>al σ H1 fun vs H2=>sp (x::(vs++dvs)) H2 (hq Q ⟨⟩) E):=rfl
theorem an0:wT C sp dvs E al σ H Q=al σ H fun vs H1=>∀x dx,H1 x=none->H1 dx=none->dx≠x->sp (.ref x::(vs++dvs)) (_L.ae (_L.ae H1 dx (.own x)) x (.am C dx [])) (fun v H2=>v=.aN/\hq Q ⟨⟩ (.ref x) H2) E:=rfl
theorem anL{r:V->List V->Hp->VK->Prop}:wO K T r ta al σ H Q=ta σ H fun x H1=>wW K T x H1/\al σ H1 fun xs H2=>r x xs H2 (hq Q ⟨⟩):=rfl
theorem anM{r:V->List V->Hp->VK->Prop}:LJ K T r ta σ H Q=ta σ H fun x H1=>wW K T x H1/\r x [] H1 (hq Q ⟨⟩):=rfl
theorem anY:LM ta σ H Q=ta σ H fun x H1=>Q (.bl (decide (x=.aN))) H1:=rfl
theorem an7:LQ ta σ H Q=ta σ H fun x H1=>Q (.bl (!decide (x=.aN))) H1:=rfl
theorem anP{r:List V->Hp->VK->Prop}:wP r al σ H Q=al σ H fun vs H1=>r vs H1 (hq Q ⟨⟩):=rfl
theorem anO:wQ sp dvs E al σ H Q=al σ H fun vs H1=>sp (vs++dvs) H1 (hq Q ⟨⟩) E:=rfl
theorem aoi{r:V->Option Int->Option Int->Hp->VK->Prop}{tl th:TO}:LZ r te tl th σ H Q=te σ H fun x H1=>tl σ H1 fun l H2=>th σ H2 fun u H3=>r x l u H3 (hq Q ⟨⟩):=rfl
theorem aoc{Q:Option Int->Hp->Prop}:LV te σ H Q=te σ H (ki fun i H1=>Q (some i) H1):=rfl
theorem an5{Q:Option Int->Hp->Prop}:LO σ H Q=Q none H:=rfl
theorem anZ:zw al σ H Q=al σ H fun xs H1=>xs.length<=cp/\∀p,H1 p=none->hq Q ⟨⟩ (.ref p) (_L.ae H1 p (.ag xs)):=rfl
theorem aok:L0 al σ H Q=al σ H fun xs H1=>xs.length<=cp/\∀p,H1 p=none->hq Q ⟨⟩ (.ref p) (_L.ae H1 p (.cH xs)):=rfl
theorem anT:XR σ H Q=∀p,H p=none->hq Q ⟨⟩ (.ref p) (_L.ae H p (.dK [])):=rfl
theorem an4:gQ σ H QA=QA [] H:=rfl
theorem anS:lw ta al σ H QA=ta σ H fun x H1=>al σ H1 fun xs H2=>QA (x::xs) H2:=rfl
theorem IY{α β:Type}{f:α->β}{a:α}{l:List α}:DH f (a::l)=f a::DH f l:=rfl
theorem IZ{α β:Type}{f:α->β}:DH f []=[]:=rfl
theorem Ep{α:Type}{a:α}{l m:List α}:(a::l)++m=a::(l++m):=rfl
theorem Er{α:Type}{l:List α}:[]++l=l:=rfl
theorem IG{α:Type}{a:α}{l:List α}:(a::l).length=l.length+1:=rfl
theorem II{α:Type}:([]:List α).length=0:=rfl
theorem gy{α:Type}{a b:α}{l:List α}:(a::l).set 0 b=b::l:=rfl
theorem s_s{α:Type}{a b:α}{n:Nat}{l:List α}:(a::l).set (n+1) b=a::l.set n b:=rfl
theorem ex1{α:Type}{a:α}{p:α->Prop}:(∃x,x=a/\p x)=p a:=fN {fun⟨_,e,h⟩=>e▸h,fun h=>{(a),rfl,h}}
theorem v0{s:_L.St}:dz 0 (some v::s) H Q=Q v H:=fN {fun⟨_,e,h⟩=>by cases e;exact h,fun h=>{(v),rfl,h}}
theorem v1{a}{s:_L.St}:dz 1 (a::some v::s) H Q=Q v H:=v0 (s:=s)
theorem v2{a b}{s:_L.St}:dz 2 (a::b::some v::s) H Q=Q v H:=v0 (s:=s)
theorem v3{a b c}{s:_L.St}:dz 3 (a::b::c::some v::s) H Q=Q v H:=v0 (s:=s)
theorem v4{a b c d}{s:_L.St}:dz 4 (a::b::c::d::some v::s) H Q=Q v H:=v0 (s:=s)
theorem v5{a b c d e}{s:_L.St}:dz 5 (a::b::c::d::e::some v::s) H Q=Q v H:=v0 (s:=s)
theorem v6{a b c d e f}{s:_L.St}:dz 6 (a::b::c::d::e::f::some v::s) H Q=Q v H:=v0 (s:=s)
theorem v7{a b c d e f g}{s:_L.St}:dz 7 (a::b::c::d::e::f::g::some v::s) H Q=Q v H:=v0 (s:=s)
theorem v8{a b c d e f g h}{s:_L.St}:dz 8 (a::b::c::d::e::f::g::h::some v::s) H Q=Q v H:=v0 (s:=s)
theorem Pz{b:Bool}{p:Bool->Prop}:(∃k,V.bl b=V.bl k/\p k)=p b:=fN {fun⟨_,e,h⟩=>by cases e;exact h,fun h=>{(b),rfl,h}}
theorem Hx{b:Int}{p:Int->Prop}:(∃k,V.int b=V.int k/\p k)=p b:=fN {fun⟨_,e,h⟩=>by cases e;exact h,fun h=>{(b),rfl,h}}
theorem Bb{g:Int->Int->V}{i j:Int}:mZ g (.int i) (.int j) H Q=Q (g i j) H:=fN {fun⟨_,_,e,e',h⟩=>by cases e;cases e';exact h,fun h=>{(i),j,rfl,rfl,h}}
theorem afG{P:Int->Int->Prop}{g:Int->Int->V}{i j:Int}:rI P g (.int i) (.int j) H Q=(P i j/\Q (g i j) H):=fN {fun⟨_,_,e,e',h⟩=>by cases e;cases e';exact h,fun h=>{(i),j,rfl,rfl,h}}
theorem afp{g:Int->Int->Int}{i j:Int}:BC g (.int i) (.int j) H Q=Q (.int (g i j)) H:=Bb (g:=fun i j=>.int (g i j))
theorem afj{i j:Int}:CO (.int i) (.int j) H Q=Q (.int (i+j)) H:=Bb (g:=fun i j=>.int (i+j))
theorem afI{i j:Int}:CP (.int i) (.int j) H Q=Q (.int (i-j)) H:=Bb (g:=fun i j=>.int (i-j))
theorem afH{g:Int->V}{i:Int}:rU g (.int i) H Q=Q (g i) H:=Hx (p:=fun i=>Q (g i) H)
theorem afl{i j:Int}:qz (.int i) (.int j) H Q=Q (.bl (decide (V.int i=V.int j))) H:=fN {w9,fun h=>{(rfl),h}}
theorem afD{i j:Int}:wF (.int i) (.int j) H Q=Q (.bl (!decide (V.int i=V.int j))) H:=fN {w9,fun h=>{(rfl),h}}
theorem afm{i j:ac}:qz (.str i) (.str j) H Q=Q (.bl (decide (V.str i=V.str j))) H:=fN {w9,fun h=>{(rfl),h}}
theorem afE{i j:ac}:wF (.str i) (.str j) H Q=Q (.bl (!decide (V.str i=V.str j))) H:=fN {w9,fun h=>{(rfl),h}}
theorem afk{i j:Bool}:qz (.bl i) (.bl j) H Q=Q (.bl (decide (V.bl i=V.bl j))) H:=fN {w9,fun h=>{(rfl),h}}
theorem afC{i j:Bool}:wF (.bl i) (.bl j) H Q=Q (.bl (!decide (V.bl i=V.bl j))) H:=fN {w9,fun h=>{(rfl),h}}
def kF(K:bn)(f:ac)(p:U->U->V->Prop)(a:U)(_:Tg p)(o:Option HO):Prop:=∃C dx fs v,o=some (.am C dx fs)/\dN K C/\bO K C f/\fs.lookup f=some v/\p a C v
def kL(C a:U)(p:U->U->V->Prop)(_:Tg p)(o:Option V):Prop:=∃v,o=some v/\p a C v
theorem afo{a0:U}{p:U->U->V->Prop}:(∃a C dx fs v,V.ref a0=.ref a/\H a=some (.am C dx fs)/\dN K C/\bO K C f/\fs.lookup f=some v/\p a C v)=kF K f p a0 ⟨⟩ (H a0):=fN {fun⟨_,C,dx,fs,v,e,h⟩=>by cases e;exact{(C),dx,fs,v,h},fun⟨C,dx,fs,v,h⟩=>{(a0),C,dx,fs,v,rfl,h}}
theorem afn{a:U}{p:U->U->V->Prop}{g:Tg p}{dx:U}{fs}(h1:dN K C)(h2:bO K C f):kF K f p a g (some (.am C dx fs))=kL C a p g (fs.lookup f):=fN {fun⟨_,_,_,v,e,_,_,h⟩=>by cases e;exact{(v),h},fun⟨v,h⟩=>{(C),dx,fs,v,rfl,h1,h2,h}}
theorem h_L{a:U}{p:U->U->V->Prop}{g:Tg p}:kL C a p g (some v)=p a C v:=fN {fun⟨_,e,h⟩=>by cases e;exact h,fun h=>{(v),rfl,h}}
theorem d_F{a:U}{p:U->U->V->Prop}{g:Tg p}{o}:kF K f p a g o=∃C dx fs v,o=some (.am C dx fs)/\dN K C/\bO K C f/\fs.lookup f=some v/\p a C v:=rfl
theorem d_L{a:U}{p:U->U->V->Prop}{g:Tg p}{o}:kL C a p g o=∃v,o=some v/\p a C v:=rfl
def kM(C:U)(m:ac)(o:Option HO)(P:Prop):Prop:=∃dx fs,o=some (.am C dx fs)/\fs.lookup m=none/\P
def kN(o:Option V)(P:Prop):Prop:=o=none/\P
theorem afB{a0:U}{P:Prop}:(∃a dx fs,V.ref a0=.ref a/\H a=some (.am C dx fs)/\fs.lookup m=none/\P)=kM C m (H a0) P:=fN {fun⟨_,dx,fs,e,h⟩=>by cases e;exact{(dx),fs,h},fun⟨dx,fs,h⟩=>{(a0),dx,fs,rfl,h}}
theorem afA{dx:U}{fs}{P:Prop}:kM C m (some (.am C dx fs)) P=kN (fs.lookup m) P:=fN {fun⟨_,_,e,h⟩=>by cases e;exact h,fun h=>{(dx),fs,rfl,h}}
theorem h_N{P:Prop}:kN none P=P:=fN {w9,fun h=>{(rfl),h}}
theorem d_M{o}{P:Prop}:kM C m o P=∃dx fs,o=some (.am C dx fs)/\fs.lookup m=none/\P:=rfl
theorem d_N{o}{P:Prop}:kN o P=(o=none/\P):=rfl
def kP(K:bn)(f:ac)(y:V)(H:Hp)(a:U)(p:Hp->Prop)(_:Tp p)(o:Option HO):Prop:=∃C dx fs,o=some (.am C dx fs)/\dN K C/\bO K C f/\fs.length<1000/\p (_L.ae H a (.am C dx (aW f y fs)))
theorem PB{a0:U}{p:Hp->Prop}:(∃a C dx fs,V.ref a0=.ref a/\H a=some (.am C dx fs)/\dN K C/\bO K C f/\fs.length<1000/\p (_L.ae H a (.am C dx (aW f y fs))))=kP K f y H a0 p ⟨⟩ (H a0):=fN {fun⟨_,C,dx,fs,e,h⟩=>by cases e;exact{(C),dx,fs,h},fun⟨C,dx,fs,h⟩=>{(a0),C,dx,fs,rfl,h}}
theorem afF{a dx:U}{p:Hp->Prop}{g:Tp p}{fs}(h1:dN K C)(h2:bO K C f)(h3:fs.length<1000):kP K f y H a p g (some (.am C dx fs))=p (_L.ae H a (.am C dx (aW f y fs))):=fN {fun⟨_,_,_,e,_,_,_,h⟩=>by cases e;exact h,fun h=>{(C),dx,fs,rfl,h1,h2,h3,h}}
theorem d_P{a:U}{p:Hp->Prop}{g:Tp p}{o}:kP K f y H a p g o=∃C dx fs,o=some (.am C dx fs)/\dN K C/\bO K C f/\fs.length<1000/\p (_L.ae H a (.am C dx (aW f y fs))):=rfl
theorem afi{a dx:U}{p:Hp->Prop}{g:Tp p}{fs}(h3:fs.length<1000):kA C f y H a p g (some (.am C dx fs))=p (_L.ae H a (.am C dx (aW f y fs))):=fN {fun⟨_,_,e,_,h⟩=>by cases e;exact h,fun h=>{(dx),fs,rfl,h3,h}}
theorem d_A{a:U}{p:Hp->Prop}{g:Tp p}{o}:kA C f y H a p g o=∃dx fs,o=some (.am C dx fs)/\fs.length<1000/\p (_L.ae H a (.am C dx (aW f y fs))):=rfl
theorem afu{b:Bool}:kb QB (.bl b) H=QB b H:=Pz (p:=fun b=>QB b H)
theorem afx{b:Int}{Q:Int->Hp->Prop}:ki Q (.int b) H=Q b H:=Hx (p:=fun b=>Q b H)
def IB(K:bn)(f:ac)(Q:VK)(H:Hp)(_:Tq Q)(o:Option HO):Prop:=∃C dx fs v,o=some (.am C dx fs)/\dN K C/\bO K C f/\fs.lookup f=some v/\Q v H
def IC(Q:VK)(H:Hp)(_:Tq Q)(o:Option V):Prop:=∃v,o=some v/\Q v H
theorem afv{a:U}:kf K f Q (.ref a) H=IB K f Q H ⟨⟩ (H a):=fN {fun⟨_,C,dx,fs,v,e,h⟩=>by cases e;exact{(C),dx,fs,v,h},fun⟨C,dx,fs,v,h⟩=>{(a),C,dx,fs,v,rfl,h}}
theorem afq{g:Tq Q}{dx:U}{fs}(h1:dN K C)(h2:bO K C f):IB K f Q H g (some (.am C dx fs))=IC Q H g (fs.lookup f):=fN {fun⟨_,_,_,v,e,_,_,h⟩=>by cases e;exact{(v),h},fun⟨v,h⟩=>{(C),dx,fs,v,rfl,h1,h2,h}}
theorem aft{g:Tq Q}:IC Q H g (some v)=Q v H:=fN {fun⟨_,e,h⟩=>by cases e;exact h,fun h=>{(v),rfl,h}}
theorem acT{g:Tq Q}{o}:IB K f Q H g o=∃C dx fs v,o=some (.am C dx fs)/\dN K C/\bO K C f/\fs.lookup f=some v/\Q v H:=rfl
theorem acW{g:Tq Q}{o}:IC Q H g o=∃v,o=some v/\Q v H:=rfl
theorem acY:kf K f Q x H=∃a C dx fs v,x=.ref a/\H a=some (.am C dx fs)/\dN K C/\bO K C f/\fs.lookup f=some v/\Q v H:=rfl
def kG(K:bn)(f:ac)(p:U->U->V->Hp->Prop)(H:Hp)(a:U)(_:Tr p)(o:Option HO):Prop:=∃C dx fs v,o=some (.am C dx fs)/\dN K C/\bO K C f/\fs.lookup f=some v/\p a C v H
def kH(p:U->U->V->Hp->Prop)(H:Hp)(a C:U)(_:Tr p)(o:Option V):Prop:=∃v,o=some v/\p a C v H
theorem afw{p}{a:U}:kg K f p (.ref a) H=kG K f p H a ⟨⟩ (H a):=fN {fun⟨_,C,dx,fs,v,e,h⟩=>by cases e;exact{(C),dx,fs,v,h},fun⟨C,dx,fs,v,h⟩=>{(a),C,dx,fs,v,rfl,h}}
theorem afr{p}{a:U}{g:Tr p}{dx:U}{fs}(h1:dN K C)(h2:bO K C f):kG K f p H a g (some (.am C dx fs))=kH p H a C g (fs.lookup f):=fN {fun⟨_,_,_,v,e,_,_,h⟩=>by cases e;exact{(v),h},fun⟨v,h⟩=>{(C),dx,fs,v,rfl,h1,h2,h}}
theorem afs{p}{a:U}{g:Tr p}:kH p H a C g (some v)=p a C v H:=fN {fun⟨_,e,h⟩=>by cases e;exact h,fun h=>{(v),rfl,h}}
theorem acU{p}{a:U}{g:Tr p}{o}:kG K f p H a g o=∃C dx fs v,o=some (.am C dx fs)/\dN K C/\bO K C f/\fs.lookup f=some v/\p a C v H:=rfl
theorem acV{p}{a:U}{g:Tr p}{o}:kH p H a C g o=∃v,o=some v/\p a C v H:=rfl
theorem acZ{p}:kg K f p x H=∃a C dx fs v,x=.ref a/\H a=some (.am C dx fs)/\dN K C/\bO K C f/\fs.lookup f=some v/\p a C v H:=rfl
theorem afy{a:U}:km C m Q (.ref a) H=kM C m (H a) (Q (.ref a) H):=fN {fun⟨_,dx,fs,e,h⟩=>by cases e;exact{(dx),fs,h},fun⟨dx,fs,h⟩=>{(a),dx,fs,rfl,h}}
theorem ac1:km C m Q x H=∃a dx fs,x=.ref a/\H a=some (.am C dx fs)/\fs.lookup m=none/\Q x H:=rfl
theorem afz{p}{a:U}:kp K f y p (.ref a) H=kP K f y H a p ⟨⟩ (H a):=PB
theorem ac2{p}:kp K f y p x H=∃a C dx fs,x=.ref a/\H a=some (.am C dx fs)/\dN K C/\bO K C f/\fs.length<1000/\p (_L.ae H a (.am C dx (aW f y fs))):=rfl
theorem acX:kb QB x H=∃k,x=.bl k/\QB k H:=rfl
theorem ac0{Q:Int->Hp->Prop}:ki Q x H=∃k,x=.int k/\Q k H:=rfl
end
end
variable{i k c n':Nat}{a pl b D tg r R dx pA fA hA p lA tp ul d uA sd dA rA fd l0 rw tD mA:U}{N H H1 H' G G' N':Hp}{ps adr pa:List U}{o u:HO}{n z rest cy q T T' n0:aa}{xs:List V}{es:List (List (aa×U))}{wh al:Bool}{hs ks ks':List (aa×U)}{m:List aG}{Q:VK}{as:List dF}{ts ts':TS}{mp:MP}
theorem aa5:my "ord"=some (.builtin "ord"):=by decide+kernel
theorem vh:my "any"=some (.builtin "any"):=by decide+kernel
theorem aa4:my "max"=some (.builtin "max"):=by decide+kernel
theorem aa7:my "sorted"=some (.builtin "sorted"):=by decide+kernel
theorem NX:my "isinstance"=some (.builtin "isinstance"):=by decide+kernel
theorem NY:my "list"=some (.type "list"):=by decide+kernel
theorem aa6:my "set"=some (.type "set"):=by decide+kernel
theorem aa8:my "str"=some (.type "str"):=by decide+kernel
theorem ahs{x:ac}{g:TG}{tt:TT}{te:TE}{vs:List Nat}{σ:_L.St}{Qd:Hp->Prop}(Pv:Nat->Hp->Prop)(h0:Pv 0 (_L.ae H1 D (.ag [])))
  (hs:∀i c H,x.cps[i]?=some c->Pv i H->g (.str ⟨#[c]⟩) (cu σ vs) H fun σ2 H2=>cu σ2 vs=cu σ vs/\tt σ2 H2 fun b H3=>if b=true then te σ2 H3 fun y H4=>∃acc,H4 D=some (.ag acc)/\acc.length<cp/\Pv (i+1) (_L.ae H4 D (.ag (acc++[y])))else Pv (i+1) H3)(hd:∀H,Pv x.cps.size H->Qd H):
  ∃W:Nat->Nat->Hp->Prop,(∃m,W 0 m (_L.ae H1 D (.ag [])))/\∀i m H,W i m H->((xC x).cF i H/\Qd H)∨((xC x).go i H/\∃Nx:Hp->Prop,(∀H',Nx H'->∃m',m'<m/\W (i+1) m' H')/\∀v H',(xC x).lC i H v H'->g v (cu σ vs) H' fun σ2 H2=>cu σ2 vs=cu σ vs/\tt σ2 H2 fun b H3=>if b=true then te σ2 H3 fun y H4=>∃acc,H4 D=some (.ag acc)/\acc.length<cp/\Nx (_L.ae H4 D (.ag (acc++[y])))else Nx H3):=by
 refine{fun i m H=>m=x.cps.size-i/\i<=x.cps.size/\Pv i H,{x.cps.size,by simp,dE _,h0},?_};rintro i m H ⟨rfl,hi,p⟩;by_cases bX:i<x.cps.size
 .refine .inr {bX,Pv (i+1),fun H' p'=>{x.cps.size-(i+1),by lia,rfl,bX,p'},fun v H' y=>?_};obtain⟨e,c,hc,rfl⟩:=y;subst e;exact hs i c _ hc p
 have e:i=x.cps.size:=by lia
 subst e;exact .inl {bR _,hd H p}
def uZ(H:Hp)(Q:VK)(xs:List V):Prop:=∀(p:U) (H':Hp),H p=none->aw H H'->H' p=some (.ag xs)->Q (.ref p) H'
inductive Wr(vs:List V)(H:Hp)(Q:VK)(E:XK):Prop|mk:∀(b:List Nat),vs=[S b]->b.length<1000000->uZ H Q (vb b)->Wr vs H Q E
theorem cx{n:Nat}(h:n<16000000):n<cp:=iQ h (by decide)
theorem ui(T:Txt K mg t):aQ P w K mg base 1 t.GK Kn Wr:=by
 refine aQ.of T.acJ Lg fun cdv A outer s H vs Q E hr h=>?_;obtain⟨b,rfl,hl,k⟩:=h;refine{_,au (aM (qx (own:=[("sign",1)]) rfl Lg.nd (ak7 (pv 0)) (oO (by rfl)) (fun _ _ _ _ _=>gq (i:=1) Lg.nd rfl (bx rfl)) (fun _ _ _ _ _=>qy)
  (fun _ _ _ _ _=>mU abc (by rfl) T.aaT aa5 (aq (pv 1) aA)))),?_}
 refine{_,rfl,⟨b.toArray⟩,rfl,fun D hD=>ahs (fun i H'=>aw H H'/\H' D=some (.ag (vb (b.take i)))) {aw.new hD,ay} ?_ ?_}
 .rintro i c H' hi ⟨s1,h1⟩;refine{rfl,_,rfl,_,rfl,rfl,_,h1,?_,?_,?_}
  .rw[eD,nc];exact cx (by lia)
  .exact fun a o e=>by rw[aj (aC e hD)];exact s1 a o e
  rw[ay];have hc:b[i]?=some c:=by simpa using hi
  rw[jO,hc,zC];rfl
 rintro H' ⟨s1,h1⟩;have e:b.take (⟨b.toArray⟩:ac).cps.size=b:=by simp
 rw[e]at h1;exact k D H' hD s1 h1
set_option hygiene false
local macro_rules
 |`(tactic|push_cast[$ts,*])=>do
  let f (s:String):=((s.splitOn " ").map fun x=>Mv x.toName).toArray
  let a:=f "zx LX Dn Dj Dl LK dz _L.tC pF L1 qz wF mZ _L.rI _L.rU Dh Do _L.tB LP De Dm LU zt LR LL kt K3 K4 CO CP Df rC qB wT wO LJ LM LQ lw gQ wP wQ LZ LV LO KR _L.start cI lF List.replicate fQ List.nil_append ei bJ ox YK aoS List.set_cons_zero List.set_cons_succ apb exists_and_left exists_eq_left' exists_eq_left V.int.injEq V.bl.injEq V.str.injEq V.ref.injEq _L.HO.am.injEq and_assoc V2 V3 V1 bC and_true exists_const exists_eq qL Nat.reduceAdd Nat.reduceSub eE cT du reduceIte"
  `(tactic|simp only[$[$a:ident],*,$ts,*])
inductive zr(g:Nat->Bool)(vs:List V)(H:Hp)(Q:VK)(E:XK):Prop|mk:∀(n:Nat),vs=[.int (n:Int)]->Q (.bl (g n)) H->zr g vs H Q E
theorem Sk(T:Txt K mg t):aQ P w K mg base 1 t.GW CG (zr jh):=by
 refine aQ.of T.ac5 amx fun cdv A outer s H vs Q E hr h=>?_;obtain⟨n,rfl,k⟩:=h;refine{_,au (aM (wz (fw cV (pv 0) (bS T.QI) (bD _)) (oq (KL pz pz (bS T.QF) (pv 0) bV)))),?_};push_cast[bC];split
 .have e:jh n=true:=by simp[jh];lia
  rwa[e]at k
 split
 .have e:decide ((n:Int)<=255)=jh n:=by unfold jh;rw[show(n==10)=false from kO.mpr (by lia),show decide (32<=n)=true from gG (by lia)];simp;lia
  rwa[e]
 have e:jh n=false:=by simp[jh];lia
 rwa[e]at k
theorem Sj(T:Txt K mg t):aQ P w K mg base 1 t.GQ CC (zr digit):=by
 refine aQ.of T.acQ amu fun cdv A outer s H vs Q E hr h=>?_;obtain⟨n,rfl,k⟩:=h;refine{_,au (aM (KL pz pz (bS T.Iq) (pv 0) (bS T.agw))),?_};push_cast[bC];split
 .have e:decide ((n:Int)<=57)=digit n:=by unfold digit;rw[show decide (48<=n)=true from gG (by lia)];simp;lia
  rwa[e]
 have e:digit n=false:=by simp[digit];lia
 rwa[e]at k
theorem ajW(T:Txt K mg t):aQ P w K mg base 1 t.GG CA (zr small):=by
 refine aQ.of T.acG ams fun cdv A outer s H vs Q E hr h=>?_;obtain⟨n,rfl,k⟩:=h;refine{_,au (aM (KL pz pz (bS T.Ir) (pv 0) (bS T.QH))),?_};push_cast[bC];split
 .have e:decide ((n:Int)<=122)=small n:=by unfold small;rw[show decide (97<=n)=true from gG (by lia)];simp;lia
  rwa[e]
 have e:small n=false:=by simp[small];lia
 rwa[e]at k
inductive Xg(vs:List V)(H:Hp)(Q:VK)(E:XK):Prop|mk:∀(n:Nat),vs=[.int (n:Int)]->Q (S (if dU n=true then [n]else [])) H->Xg vs H Q E
theorem NJ{α:Type}{xs:List α}{z:Int}{j:Nat}{v:α}(e:z=(j:Int))(h:xs[j]?=some v):iV xs z=some v:=by rw[e];exact lO h
theorem ahw:∀i:Nat,i<26->("abcdefghijklmnopqrstuvwxyz":ac).cps.toList[i]?=some (97+i):=by decide
theorem adu:∀i:Nat,i<10->("0123456789":ac).cps.toList[i]?=some (48+i):=by decide
theorem Sl(T:Txt K mg t):aQ P w K mg base 2 t.GX CH Xg:=by
 refine aQ.of T.ac6 amy fun cdv A outer s H vs Q E hr h=>?_;obtain⟨n,rfl,k⟩:=h;refine{_,ak (bA (ali pz pz (bS T.Ir) (pv 0) (bS T.QH)) (au (aM (dY QX (gf T.alP) (iL JG (pv 0) (bS T.Ir)) (fun _ _=>rfl)))) bH)
  (ak (bA (bW (dh (Sj T) T.Pe hr (aq (pv 0) aA))) (au (aM (dY QX (gf T.alM) (iL JG (pv 0) (bS T.Iq)) (fun _ _=>rfl)))) bH)
  (ak (bA (cg cV (pv 0) (bS T.agz) (bD _)) (au (aM cM)) bH) (au (aM cM)))),?_}
 push_cast[bC];have On:zr digit [V.int ↑n] H (fun x H1=>∃c,x=V.bl c/\if c=true then Tk (V.str (Str.ofString "0123456789")) (V.int (↑n-48)) H1 Q else if (n:Int)=45 then Q (V.str (Str.ofString "-")) H1 else Q (V.str (Str.ofString "")) H1) E0∨small n=true:=by
  by_cases hs:small n=true
  .exact .inr hs
  left;refine{n,rfl,_,rfl,?_};split
  .rename_i hd;have h1:48<=n/\n<=57:=by simpa[digit]using hd
   refine{_,_,n,rfl,rfl,by decide,?_,?_}
   .have:=adu (n-48) (by lia);rw[show 48+(n-48)=n by lia]at this;exact NJ (by lia) this
   rwa[show dU n=true by simp[dU,hd]]at k
  rename_i hd;split
  .rename_i e;have e:n=45:=by lia
   subst e;exact k
  rename_i e;rw[show dU n=false by simp?[Mm]at hs hd;simp?[dU,hs,hd,xb,kO];lia]at k;exact k
 split
 .split
  .have hs:small n=true:=by simp[small];lia
   refine{_,_,n,rfl,rfl,by decide,?_,?_}
   .have:=ahw (n-97) (by lia);rw[show 97+(n-97)=n by lia]at this;exact NJ (by lia) this
   rwa[C6 hs]at k
  rcases On with h |h
  .exact h
  exact aJ h (by simp[small];lia)
 rcases On with h |h
 .exact h
 exact aJ h (by simp[small];lia)
noncomputable def db(l:List Nat):List sD:=l.map fun(n:Nat)=>PyData.int (n:Int)
theorem Oa:∀a b:List Nat,PyData.eqvAll (db a) (db b)=decide (a=b)
 |[],[]=>by simp[db,PyData.eqvAll]|x::a,y::b=>by
  have ih:=Oa a b;simp?[db,cI,PyData.eqvAll,PyData.eqv]at ih⊢;rw[ih];by_cases e:x=y
  .subst e;simp
  have h:((x:Int)==(y:Int))=false:=kO.mpr (by lia);rw[h];simp[e]
 |[],_::_=>by simp[db,PyData.eqvAll]|_::_,[]=>by simp[db,PyData.eqvAll]
theorem Ob:∀a:List Nat,PyData.canLayAll0 (db a)=true|[]=>rfl|x::a=>by simp?[db,cI,PyData.canLayAll0,PyData.canLay0,uE];exact Ob a
theorem N9:∀a:List Nat,PyData.depthAll (db a)=0|[]=>rfl|x::a=>by have:=N9 a;simp?[db,cI,PyData.depthAll,PyData.depth]at this⊢;rw[this];rfl
theorem Oc(a:List Nat):SeqAt.shaped (.list (db a))=true:=by simp?[SeqAt.shaped,PyData.canLay0,Ob,PyData.depth,N9];decide
theorem EQ:∀a:List Nat,sO K H (vb a) (db a)|[]=>.nil|x::a=>.cons (.int _) (EQ a)
def alr(K:bn):R2:=fun x y H Q=>∃a b xs ys,x=.ref a/\y=.ref b/\aB K H a (vb xs)/\aB K H b (vb ys)/\Q (.bl (decide (xs=ys))) H
theorem Sz{X:Cx}(hu:X.A.units+64<lG):fR X (jo .Eq) (alr X.K):=by
 intro pins s σ H x y u v Q I rx ry h;obtain⟨a,b,xs,ys,rfl,rfl,h1,h2,q⟩:=h;refine akL hu pins s σ H _ _ u v Q I rx ry {.list (db xs),.list (db ys),.ag h1 (EQ xs),.ag h2 (EQ ys),Oc _,Oc _,?_};have e:PyData.eqv (.list (db xs)) (.list (db ys))=decide (xs=ys):=by rw[PyData.eqv];exact Oa _ _
 rwa[e]
theorem N7(l:List Nat)(i n:Nat):mG (vb l) (some (i:Int)) (some ((i:Int)+(n:Int)))=vb ((l.drop i).take n):=by
 unfold mG;have e:(i:Int)+(n:Int)=((i+n:Nat):Int):=by lia
 rw[e,HT.uu,HT.uu,eD];unfold vb;rw[←YR,←YS];congr 1;by_cases h:i<=l.length
 .rw[DK h];by_cases h2:i+n<=l.length
  .rw[DK h2];congr 1;lia
  rw[ME (by lia)];rw[zW (by simp),zW (by simp;lia)]
 rw[ME (by lia),ME (by lia),aoL (bR _),aoL (by lia)];simp
theorem abl(l:List Nat)(n:Nat):mG (vb l) none (some (n:Int))=vb (l.take n):=by
 unfold mG;rw[HT.alL,HT.uu,eD];unfold vb;rw[←YR,←YS,YC,ao6];congr 1;by_cases h:n<=l.length
 .rw[DK h]
 rw[ME (by lia),zW (bR _),zW (by lia)]
theorem abm(l:List Nat)(i j:Nat):mG (vb l) (some (i:Int)) (some (j:Int))=vb ((l.drop i).take (j-i)):=by
 by_cases h:i<=j
 .have e:=N7 l i (j-i);rwa[show(i:Int)+((j-i:Nat):Int)=(j:Int) by lia]at e
 unfold mG;rw[HT.uu,HT.uu,eD,show j-i=0 by lia,show min j l.length-min i l.length=0 by lia];simp[vb]
def ipS:u6:=fun x y H Q=>∃i j,x=.str i/\y=.str j/\i.length+j.length<=cp/\Q (.str (i++j)) H
theorem ag0{X:Cx}:An X .Add ipS:=fun pins s σ H x y u v Q I rx ry h=>agY pins s σ H x y u v Q I rx ry h
theorem NZ{X:Cx}:kQ X (.builtin "isinstance") (fun xs H Q=>∃x T t b,xs=[x,.ty T]/\iU X.K H x t/\qJ X.K t (.type T)=some b/\Q (.bl b) H):=by intro pins s σ H vs us Q I r h;obtain⟨x,T,t,b,rfl,ty,e,q⟩:=h;obtain⟨u,v,rfl,r1,r2⟩:=vals2 r;obtain rfl:v=Value.type T:=r2;exact ag4 I r1 ty e fun tk=>{.bl b,H,I.dZ _,rfl,q}
def alv(K:bn):List V->Hp->VK->Prop:=fun vs H Q=>∃(a:U) (ns:List Int),vs=[V.ref a]/\aB K H a (ns.map V.int)/\∀(ns':List Int) (p:U),ns'.Perm ns->ns'.Pairwise (· <=·)->H p=none->Q (.ref p) (_L.ae H p (.ag (ns'.map V.int)))
theorem abi{X:Cx}:kQ X (.builtin "sorted") (alv X.K):=by
 intro pins s σ H vs us Q I r h;obtain⟨a,ns,rfl,hs,q⟩:=h;obtain⟨its,rv,hl,hz⟩:=I.list hs;rw[bF.CU r];have hi:=rv.ints;have hn:its.length<=cp:=by rwa[←rv.length]
 refine aqc hl.isList hi hn fun out ns' h1 h2 h3=>?_;obtain⟨ep,he⟩:=aqa s.heap its out;have hlen:(ns'.map V.int).length<=cp:=by rwa[bL,h2.length_eq,←hi.length]
 exact{.ref _,_L.ae H (s.heap.objs.size+1) (.ag (ns'.map V.int)),I.j8 (t':=s.toks) (fun _ _=>aqb) (uM _) {hlen,out.toList,ep,Yn h1,he},rfl,q ns' _ h2 h3 (I.aO.fresh (uM _))}
section
section
variable{X:Cx}{pins:List (U×ba)}{σ:_L.St}{H:Hp}{s:ax}{a:U}{ob:ba}{es:Array mq}{ep:Nat}{kvs:List (Key×V)}
theorem KD.at_(kd:KD X.K a ob es ep kvs)(I:Inv X pins σ H s):∃vs,KV kvs vs/\s.heap.DictOf (gc X.prog X.w) a vs:=by obtain⟨vs,h1,h2,h3,h4⟩:=kd.ps X.prog X.w;exact{vs,h1,ob,es,ep,I.eO a ob kd.lk,kd.ex,kd.dt,h2,h3,h4}
def Dk(kvs:List (Key×V))(ty:TE):TE:=fun σ H Q=>ty σ H fun y H2=>∃k v,y=kV k/\fg kvs k=some v/\Q v H2
def XU(kvs:List (Key×V))(ty:TE):TE:=fun σ H Q=>ty σ H fun y H1=>∃k,y=kV k/\Q (.bl (fg kvs k).isSome) H1
theorem SW{o i:bz}{pos:cS}{ty:TE}(kd:KD X.K a ob es ep kvs)(ho:PE X o (tC (.ref a)))(hi:PE X i ty)(hs:Eh i):PE X (.Subscript o i pos) (Dk kvs ty):=by intro pins s σ H Q I h;refine XI aph.lookup hs (bj (ho pins s σ H (fun x H1=>x=.ref a/\Dk kvs ty σ H1 Q) I {(rfl),h}) fun u s1 ⟨x,H1,I1,rx,ex,q1⟩=>bj (hi pins s1 σ H1 _ I1 q1) fun iv s2 ⟨y,H2,I2,ry,k,v,ey,l,q2⟩=>?_);subst ex ey;obtain rfl:u=Value.ref a:=rx;obtain⟨vs,rel,dd⟩:=kd.at_ I2;obtain⟨u2,hw,ru⟩:=gY.zp (v:=v) (o:=sK vs k) (by rw[←l];exact rel.val k);exact{dd.typeIs,apF (ph ry) dd.mapOf hw {v,H2,I2.dZ _,ru,q2}}
theorem akT{o i:bz}{ty:TE}(kd:KD X.K a ob es ep kvs)(hi:PE X i ty)(ho:PE X o (tC (.ref a))):PC X .In i o (XU kvs ty):=by intro pins s σ H Q I h;refine bj (hi pins s σ H _ I h) fun iv s1 ⟨y,H1,I1,ry,k,ey,q1⟩=>bj (ho pins s1 σ H1 (fun x H2=>x=.ref a/\Q (.bl (fg kvs k).isSome) H2) I1 {(rfl),q1}) fun u s2 ⟨x,H2,I2,rx,ex,q2⟩=>?_;subst ex ey;obtain rfl:u=Value.ref a:=rx;obtain⟨vs,rel,dd⟩:=kd.at_ I2;refine wpAny_in_of (ph ry) kd.ns dd.mapOf ?_;rw[←(rel.val k).vX];exact{.bl (fg kvs k).isSome,H2,I2.dZ _,rfl,q2}
end
def Itm(kvs:List (Key×V)):It:={fun i _=>i<kvs.length,fun i H x H'=>H'=H/\∃k v,kvs[i]?=some (k,v)/\x=kV k,fun i _=>kvs.length<=i}
theorem anr{P:cA}{w:ck}{tg:bz}{a:U}{ob:ba}{es:Array mq}{ep:Nat}{kvs:List (Key×V)}(kd:KD K a ob es ep kvs)(it:U):
  pU P w K tg (Itm kvs) [it] it (fun i h=>h.IsKeyIter it a i kvs.length ep) where
 mem:=by simp
 obj:=fun i h st b hb=>by
  have e:b=it:=by simpa using hb
  subst e;obtain⟨oi,e,c,dd⟩:=st;exact{oi,e,fun v z=>by rw[dd]at z;cases z}
 keep:=fun i h h' st k=>st.at fun oi e=>k it (by simp) oi e
 item:=by intro X hP hw hK hc i pins s σ H E I hf st hi;subst hP hw hK;obtain⟨f0,f1,f2,f3,f4,f5⟩:=hf it (by simp);obtain⟨vs,kv,hk1,hk2,hk3⟩:=kd.ps X.prog X.w;have hm:s.heap.DictAt (gc X.prog X.w) a vs ep:={ob,es,I.eO a ob kd.lk,kd.ex,kd.dt,hk1,hk2,hk3};obtain⟨⟨k,v⟩,nZ⟩:∃p,kvs[i]?=some p:={kvs[i],gU hi};obtain⟨u,hu,ru⟩:=IF kv nZ;have hl:kvs.length=vs.length:=Paired.length kv;rw[hl]at st;refine apM st hm hu fun key h' tP gz sb=>?_;have I1:Inv X pins σ H {s with heap:=h'}:=I.jg (t':=s.toks) (fun b ob hb e=>(sb.2 b hb).trans e) f0 f1 f3 f4 f5;obtain⟨oi,e,c,dd⟩:=id gz;refine{key,rfl,tN (s:={s with heap:=h'}) e c dd (by decide) {kV k,H,I1,Tt (show ql k key=true from tP),{(rfl),k,v,nZ,rfl},?_,fun b hb=>(hf b hb).1}};show h'.IsKeyIter it a (i+1) kvs.length _;rwa[hl]
 done:=by intro X hP hw hK hc i pins s σ H E I hf st hi;subst hP hw hK;obtain⟨f0,f1,f2,f3,f4,f5⟩:=hf it (by simp);exact Jq (I.ok.hd hc) st (I.eO a ob kd.lk) kd.dt kd.sz hi fun h' eb=>{rfl,I.jg (t':=s.toks) (fun b ob hb e=>eb b ob hb e) f0 f1 f3 f4 f5}
 self:=fun A i s Q E st h=>apK st h
def Qz(kvs:List (Key×V)):TI:=fun σ H R=>R (Itm kvs) H
theorem ak6{X:Cx}{tg e:bz}{a:U}{ob:ba}{es:Array mq}{ep:Nat}{kvs:List (Key×V)}(kd:KD X.K a ob es ep kvs)(he:PE X e (tC (.ref a))):PI X tg e (Qz kvs):=by intro pins s σ H R I h;refine bj (he pins s σ H (fun x H1=>x=.ref a/\Qz kvs σ H1 R) I {(rfl),h}) fun u s1 ⟨x,H1,I1,rx,ex,q⟩=>?_;subst ex;obtain rfl:u=Value.ref a:=rx;refine IA kd.ns (I1.eO a ob kd.lk) kd.ex kd.dt (wB (tk:=s1.toks) I1 _ (anr kd _) {_,Heap.get?_push_size _ rfl,rfl,?_} q);rw[kd.sz]<;>rfl
theorem aey{kvs:List (Key×V)}{g:TG}{tb:_L.TS}{D:Ends}{σ:_L.St}{H:Hp}(Pv:Nat->_L.St->Hp->Prop)(h0:Pv 0 σ H)
  (hs:∀i k v σ H,kvs[i]?=some (k,v)->Pv i σ H->g (kV k) σ H fun σ2 H2=>tb {D with nx:=Pv (i+1),ct:=Pv (i+1),bk:=D.nx} σ2 H2)(hd:∀σ H,Pv kvs.length σ H->D.nx σ H):
  ∃W:Nat->Nat->_L.St->Hp->Prop,(∃m,W 0 m σ H)/\∀i m σ H,W i m σ H->((Itm kvs).cF i H/\D.nx σ H)∨((Itm kvs).go i H/\∃N:_L.St->Hp->Prop,(∀σ' H',N σ' H'->∃m',m'<m/\W (i+1) m' σ' H')/\∀x H',(Itm kvs).lC i H x H'->g x σ H' fun σ2 H2=>tb {D with nx:=N,ct:=N,bk:=D.nx} σ2 H2):=by
 refine{fun i m σ H=>m=kvs.length-i/\i<=kvs.length/\Pv i σ H,{kvs.length,by simp,dE _,h0},?_};rintro i m σ H ⟨rfl,hi,p⟩;by_cases bX:i<kvs.length
 .refine .inr {bX,Pv (i+1),fun σ' H' p'=>{kvs.length-(i+1),by lia,rfl,bX,p'},fun x H' y=>?_};obtain⟨e,k,v,hk,rfl⟩:=y;subst e;exact hs i k v σ _ hk p
 have e:i=kvs.length:=by lia
 subst e;exact .inl {bR _,hd σ H p}
theorem su{c:TT}{tb:_L.TS}{D:Ends}{σ:_L.St}{H:Hp}(W0:Nat->_L.St->Hp->Prop)(h0:∃m,W0 m σ H)
  (hs:∀(W:Nat->_L.St->Hp->Prop) (X:_L.St->Hp->Prop),W=W0->X=D.nx->∀m σ H,W0 m σ H->c σ H fun b H1=>if b=true then∃N:_L.St->Hp->Prop,(∀σ' H',N σ' H'->∃m',m'<m/\W m' σ' H')/\tb {D with nx:=N,ct:=N,bk:=X} σ H1 else X σ H1):
  XY c tb D σ H:={W0,h0,hs W0 D.nx rfl rfl}
def Nx(W:Nat->_L.St->Hp->Prop)(m:Nat):_L.St->Hp->Prop:=fun σ' H'=>∃m',m'<m/\W m' σ' H'
def wS(td ty tx:TE):TE:=fun σ H Q=>td σ H fun x H1=>∃a,x=.ref a/\Ak H1 a/\ty σ H1 fun y H2=>tx σ H2 fun z H3=>∃kvs k,H3 a=some (.dK kvs)/\y=kV k/\(∀v,fg kvs k=some v->Q v H3)/\(fg kvs k=none->kvs.length<cp/\Q z (_L.ae H3 a (.dK (iM kvs k z))))
theorem KN{X:Cx}{o e f:bz}{apos cpos:cS}{td ty tx:TE}(ho:PE X o td)(he:PE X e ty)(hf:PE X f tx)(m:M2 X o "setdefault" apos e f cpos):PE X (.Call (.Attribute o "setdefault" apos) [e,f] [] cpos) (wS td ty tx):=by
 intro pins s σ H Q I h;refine MZ m.base m.A1 m.line Y9 apj PySem.F.type_dict_setdefault (bj (ho pins s σ H _ I h) fun u s1 ⟨x,H1,I1,rx,a,ex,d,q1⟩=>?_);subst ex;obtain rfl:u=Value.ref a:=rx;obtain⟨t1,t2,_⟩:=Iy I1 d;refine{t1,t2,?_};rw[m.Dr];refine Calls.callWith_builtin rfl (Calls.evalArgs_plain (Calls.spliced_cons (bj (he pins s1 σ H1 _ I1 q1) fun iv s2 ⟨y,H2,I2,ry,q2⟩=>Calls.spliced_cons (bj (hf pins s2 σ H2 _ I2 q2) fun fv s3 ⟨z,H3,I3,rz,kvs,k,PN,ey,qa,qb⟩=>Calls.spliced_nil ?_))));subst ey;obtain⟨z1,hs,vs,rel,dd⟩:=EN I3.aO PN;refine MU apj dd.typeIs PySem.F.entry_dict_setdefault (PySem.F.args_dict_setdefault_3 _ _ _) (kt_meets_setdefault (gc X.prog X.w) a (ph ry) hs fv) {vs,dd,by rw[←rel.length];exact z1,fun v hv=>?_,fun hn h' oP hsb=>?_}
 .have rv:=rel.val k;rw[hv]at rv;cases hk:fg kvs k with|none=>rw[hk]at rv;exact rv.elim|some v'=>rw[hk]at rv;exact{v',H3,I3.dZ _,rv,qa v' hk}
 have rv:=rel.val k;rw[hn]at rv;cases hk:fg kvs k with
 |some v'=>rw[hk]at rv;exact rv.elim|none=>
  obtain⟨hl,q⟩:=qb hk;have iK:(iM kvs k z).length<=cp:=by have:=IL kvs k z;lia
  have he':∃q,h'.get? a=some q:=let ⟨q,_,_,hq,_⟩:=oP;{(q),hq};exact{z,_,AJ I3 (by rw[PN];exact jq) hsb he' (EM iK hs (rel.put k rz) oP),rz,q}
end
set_option hygiene false
local macro_rules
 |`(tactic|push_cast[$ts,*])=>do
  let f (s:String):=((s.splitOn " ").map fun x=>Mv x.toName).toArray
  let a:=f "aod aoe aoh anX an3 anU anJ an2 anK anN anR aog aof _S.z_c an9 aol anQ aoj _S.z_B an6 anH aoa aob anI an8 anW anV an1 an0 anL anM anY an7 anP anO aoi aoc an5 anZ aok anT an4 anS _S.v0 _S.v1 _S.v2 _S.v3 _S.v4 _S.v5 _S.v6 _S.v7 _S.v8 Pz Hx Bb afG afp afj afI afH afl afD afm afE afk afC afu afx afv afw afy afz afo afB PB"
  let b:=f "afq aft afr afs afn _S.h_L afA _S.h_N afF afi KR IY IZ List.replicate Ep Er ei IG II YK aoS gy _S.s_s apb exists_and_left exists_eq_left' exists_eq_left V.int.injEq V.bl.injEq V.str.injEq V.ref.injEq _L.HO.am.injEq EJ V2 V3 V1 List.cons.injEq and_assoc bC and_true exists_const exists_eq qL Nat.reduceAdd Nat.reduceSub eE cT du reduceIte zI Mn DL Y0 T.mS.cl T.aam T.aal T.aak T.aaj T.aan T.oh.cl T.aaw T.Ny T.k7.cl T.NA T.aaC T.Nz T.Q1.cl T.ZX T.ZY T.Q3.cl T.aaz T.aay T.aax T.cq.cl T.aas T.aar T.aat T.og.cl T.aao T.Nw T.Eo T.aaq T.aap T.j7.cl T.u9 T.aaA T.aaB T.BG.cl T.aai T.aah T.Q2.cl T.aav T.aau T.k6.cl T.aae T.aac T.Z8 T.aaa T.Z7 T.aad T.Z9 T.aab T.yC.cl T.Z6 T.Z4 T.Z5 T.En T.qk.cl T.Z1 T.Z0 T.Z2 T.ZZ T.Z3 T.tY.cl T.Nv T.vZ.cl T.aag T.aaf ad7 aeb aee ad0 aec ad9 ad8 aed ad5 aea ad3 ad2 ad1 ad6 ad4 aeI aeL aeK aeJ aeM aeH aeF aeE aeD aeG"
  `(tactic|try simp only[$[↓$a:ident],*,$[$b:ident],*,$ts,*])
 |`(tactic|simp![$ts,*])=>do
  let f (s:String):=((s.splitOn " ").map fun x=>Mv x.toName).toArray
  let a:=f "_L.start EJ IY IZ List.replicate Ep Er IG II Nat.reduceAdd Nat.reduceSub"
  let r:=f "afY agh afh afg"
  let c←`(tactic|with_reducible first |refine _S.Ai.run (by assumption) ?_ $[|refine $r:ident ?_]*)
  let d←`(tactic|((try with_reducible refine _S.amH fun N_ hN_=>?_);push_cast[$ts,*]))
  `(tactic|((try $c:tactic);(try dsimp only[$[$a:ident],*]);$d:tactic;(repeat ($c:tactic;$d:tactic))))
 |`(tactic|simp_all![$ts,*])=>do
  let f (s:String):=((s.splitOn " ").map fun x=>Mv x.toName).toArray
  let a:=f "_L.start EJ IY IZ List.replicate Ep Er IG II Nat.reduceAdd Nat.reduceSub"
  let b:=f "yp _S.hq _S.hT _S.hE acY acT acW acZ acU acV ac1 ac2 acX ac0 _S.d_F _S.d_L _S.d_M _S.d_N _S.d_P _S.d_A dz qz wF mZ _L.rI _L.rU CO CP BC"
  `(tactic|((try dsimp only[$[$a:ident],*]);push_cast[$[$b:ident],*,$ts,*]))
 |`(tactic|exists $a,$b)=>`(tactic|refine _S.aQ.of $a $b fun cdv A outer s H vs Q E hr h=>?_)
structure cU(t:aE)(H:Hp)(r R:U)(row:aa)(wh:Bool)(rest:aa):Prop where
 ob:∃dx,H r=some (.am t.eY dx (eA (.ref R) (.int ((row.length-rest.length:Nat):Int)) (.bl wh)))
 rw:H R=some (.ag (vb row))
 ux:bB rest row
 le:row.length<=20000
def RQ(t:aE)(H:Hp)(r R:U)(row:aa)(wh:Bool)(Q:VK)(v:V)(rest:aa):Prop:=∀H':Hp,ah (· =r) H H'->cU t H' r R row wh rest->Q v H'
theorem cU.ne{row:aa}(h:cU t H r R row wh rest):R≠r:=by obtain⟨dx,e⟩:=h.ob;exact cr h.rw e (by intro z;cases z)
theorem cU.same{row:aa}(h:cU t H r R row wh rest)(s:aw H H'):cU t H' r R row wh rest:=by obtain⟨dx,e⟩:=h.ob;exact{{dx,s _ _ e},s _ _ h.rw,h.ux,h.le}
theorem cU.at_{row:aa}(h:cU t H r R row wh (c::rest)):iV (vb row) ((row.length-(c::rest).length:Nat):Int)=some (.int (c:Int)):=by
 refine lO ?_;rw[Yo];have e:=h.ux.Ov;have e2:row[row.length-(c::rest).length]?=some c:=by
  have:(row.drop (row.length-(c::rest).length))[0]?=some c:=by rw[e];rfl
  simpa using this
 rw[e2];rfl
theorem cU.cR{row:aa}{fs:List (ac×V)}(h:cU t H r R row wh rest)(s:bB cy rest)(e:fs=eA (.ref R) (.int ((row.length-cy.length:Nat):Int)) (.bl wh)):
  cU t (_L.ae H r (.am t.eY dx fs)) r R row wh cy:=
 {{dx,by rw[ay,e]},by rw[aj h.ne];exact h.rw,s.trans h.ux,h.le}
theorem cU.lt{row:aa}(h:cU t H r R row wh rest):rest.length<=row.length:=h.ux.bu
inductive WB(t:aE)(vs:List V)(H:Hp)(Q:VK)(E:XK):Prop|mk:∀r R row wh rest,vs=[.ref r]->cU t H r R row wh rest->Q (.bl (decide (rest=[]))) H->WB t vs H Q E
theorem qv(T:Txt K mg t):aQ P w K mg base 1 t.FN Ci (WB t):=by
 exists T.ab0,amc;obtain⟨r,R,row,wh,rest,rfl,d,k⟩:=h;obtain⟨dx,e⟩:=d.ob;refine{_,au (aM (fw JF (pf 0) (cN dH T.cK (pf 0)) (bD _))),?_};simp![e];refine{_,.inl (aB.of d.rw),?_};rw[eD];have l:=d.lt;have e2:decide ((row.length:Int)<=((row.length-rest.length:Nat):Int))=decide (rest=[]):=by
  apply oC.mpr;constructor
  .intro h;exact jN.mp (by lia)
  intro h;rw[h];simp
 simp![e];rwa[e2]
inductive Xe(t:aE)(vs:List V)(H:Hp)(Q:VK)(E:XK):Prop|mk:∀r R row wh rest b,vs=[.ref r,S b]->cU t H r R row wh rest->b.length<1000->RQ t H r R row wh Q (.bl (front b rest).isSome) rest->Xe t vs H Q E
theorem rq(b rest:aa):(front b rest).isSome=decide (rest.take b.length=b):=by unfold front;split<;>simp_all
theorem uj(T:Txt K mg t):aQ P w K mg base 2 t.FT Cm (Xe t):=by
 exists T.ab4,amf;obtain⟨r,R,row,wh,rest,b,rfl,d,hb,k⟩:=h;obtain⟨dx,e⟩:=d.ob;refine{_,au (aM (fw (Sz hr.units) (CK C5 (pf 0) (ur (pf 0)) (ur (iL rY (pf 0) (cN AB T.cK (pv 1))))) (dh (ui T) T.tM hr (aq (pv 1) aA)) (bD _))),?_};simp![e];refine{⟨b.toArray⟩,rfl,gi (cx (by show b.toArray.size<_;simp;lia)),?_};simp![];refine{_,aB.of d.rw,fun p hp=>?_};simp![];refine{b,rfl,by lia,fun q H' hq s1 h1=>?_};simp![];have hp':H' p=some (.ag (vb ((row.drop (row.length-rest.length)).take b.length))):=by refine s1 _ _ ?_;rw[ay];have:=N7 row (row.length-rest.length) b.length;congr 2
 refine{p,q,_,_,rfl,rfl,aB.of hp',aB.of h1,?_};rw[d.ux.Ov,←rq];have s2:aw H H':=(aw.new hp).trans s1;exact k H' (aw.aP s2) (d.same s2)
inductive WZ(t:aE)(vs:List V)(H:Hp)(Q:VK)(E:XK):Prop|mk:∀r R row wh rest b,vs=[.ref r,S b]->cU t H r R row wh rest->b.length<1000->RQ t H r R row wh Q (.bl (front b rest).isSome) ((front b rest).getD rest)->WZ t vs H Q E
theorem lc(T:Txt K mg t):aQ P w K mg base 3 t.FR Ck (WZ t):=by
 exists T.ab3,ame;obtain⟨r,R,row,wh,rest,b,rfl,d,hb,k⟩:=h;obtain⟨dx,e⟩:=d.ob;refine{_,ak (bA (fe (bW (bY (pv 0) T.cq.cl T.ua (uj T) hr (aq (pv 1) aA)))) (au (aM dX)) bH) (ak (l9 (pv 0) (cN AB T.cK (pv 1)) mR) (au (aM dX))),?_};simp![e];refine{r,R,row,wh,rest,b,rfl,d,hb,fun H1 b1 d1=>{_,rfl,?_}};cases hf:front b rest with
 |none=>rw[hf]at k;exact k H1 b1 d1|some z=>
  rw[hf]at k;obtain⟨jW,e1⟩:=d1.ob;simp![e1,DL,zI];refine{⟨b.toArray⟩,rfl,?_,?_}
  .exact gi (cx (by show b.toArray.size<_;simp;lia))
  simp![e1,DL,zI];refine k _ (b1.trans (ah.ae rfl)) (d1.cR (bB.front hf) ?_);have e2:=lV hf;have l:=d.lt;rw[e2,cw]at l;congr 2;show((row.length-rest.length:Nat):Int)+((b.toArray.size:Nat):Int)=_;rw[e2,cw];simp;lia
theorem agN(c:Nat):qj (V.int (c:Int)) [V.int 10,V.int 32]=blank c:=by
 show((10:Int)==(c:Int) ||((32:Int)==(c:Int) ||false))=_;simp?[zJ,blank];by_cases h1:c=10
 .subst h1;rfl
 by_cases h2:c=32
 .subst h2;rfl
 have a1:((10:Int)==(c:Int))=false:=kO.mpr (by lia);have a2:((32:Int)==(c:Int))=false:=kO.mpr (by lia);have b1:(c==32)=false:=kO.mpr h2;have b2:(c==10)=false:=kO.mpr h1;rw[a1,a2,b1,b2]
inductive Wj(t:aE)(vs:List V)(H:Hp)(Q:VK)(E:XK):Prop|mk:∀r R row wh rest,vs=[.ref r]->cU t H r R row wh rest->RQ t H r R row wh Q (.bl (decide ((rest.dropWhile blank).length≠rest.length))) (rest.dropWhile blank)->Wj t vs H Q E
theorem Sm(T:Txt K mg t):aQ P w K mg base 3 t.FP JZ (Wj t):=by
 exists T.ab2,VI;obtain⟨r,R,row,wh,rest,rfl,d,k⟩:=h;obtain⟨dx,e⟩:=d.ob;have bG:=hr.mono (show 1<=2 by decide);refine{_,ak (b9 (i:=1) VI.nd rfl (bx rfl) (pf 0))
  (ak (pC PassesOwn.never (jD (fe (bW (cE (pv 0) T.cq.cl T.qm (qv T) bG))) (mh (cg rZ (dY eN (pf 0) (pf 0) (fun _ _=>rfl)) (S4 (aq (bS T.QI) (aq (bS T.QF) aA))) (by rfl)))).pt
   (au (l9 (pv 0) bV mR)))
  (au (aM (fw gp (pf 0) (pv 1) (bD _))))),?_}
 simp![e];refine{fun m σ H'=>∃rest1,σ=[some (V.ref r),some (V.int ((row.length-rest.length:Nat):Int))]/\ah (· =r) H H'/\cU t H' r R row wh rest1/\m=rest1.length/\rest1.dropWhile blank=rest.dropWhile blank/\bB rest1 rest,{_,rest,rfl,ah.refl H,d,rfl,rfl,bB.refl _},?_};rintro m σ H1 ⟨rest1,rfl,b1,d1,rfl,ym,s1⟩;obtain⟨jW,e1⟩:=d1.ob;simp![e1];refine{r,R,row,wh,rest1,rfl,d1,_,rfl,?_};have fin:rest1=rest.dropWhile blank->Q (V.bl (decide ((row.length-rest.length:Nat)<((row.length-rest1.length:Nat):Int)))) H1:=fun h=>by
  have:=k H1 b1 (h▸d1);have l:=d.lt;have l1:=s1.bu;have e3:decide (((row.length-rest.length:Nat):Int)<((row.length-rest1.length:Nat):Int))=decide ((rest.dropWhile blank).length≠rest.length):=by apply oC.mpr;rw[←h];lia
  rw[e3];exact this
 cases rest1 with
 |nil=>simp![e1,fM];exact fin ym|cons c q=>
  simp![e1,jP,reduceCtorEq];refine{R,_,_,_,rfl,rfl,aB.of d1.rw,d1.at_,?_};simp![e1];refine{by decide,fun p hp=>{p,_,rfl,.inr (eW.of ay),rfl,rfl,blank c,?_,?_}}
  .congr 1;exact agN c
  have e2:_L.ae H1 p (HO.cH [V.int 10,V.int 32]) r=some (HO.am t.eY jW (eA (V.ref R) (V.int ((row.length-(c::q).length:Nat):Int)) (V.bl wh))):=by rwa[aj (aC e1 hp)]
  have s2:aw H1 (_L.ae H1 p (HO.cH [V.int 10,V.int 32])):=aw.new hp;cases hb:blank c with
  |true=>
   simp![e2];refine{fun σ' H'=>∃m',m'<q.length+1/\σ'=[some (V.ref r),some (V.int ((row.length-rest.length:Nat):Int))]/\ah (fun x=>x=r) H H'/\∃x,cU t H' r R row wh x/\m'=x.length/\x.dropWhile blank=rest.dropWhile blank/\bB x rest,fun _ _ h=>h,?_};refine{q.length,gF _,rfl,(b1.trans (aw.aP s2)).trans (ah.ae rfl),q,(d1.same s2).cR ((bB.refl q).cons) ?_,rfl,?_,s1.tail}
   .congr 2;have l:=d1.lt;simp?[bJ]at l⊢;lia
   rw[←ym];simp[uI,hb]
  |false=>
   simp![e2];have f:=fin (by rw[←ym];simp[uI,hb]);have:=k _ (b1.trans (aw.aP s2)) (show cU t _ r R row wh (rest.dropWhile blank) by rw[←ym];simp?[uI,hb];exact d1.same s2);have l:=d.lt;have l1:=s1.bu;have e3:decide (((row.length-rest.length:Nat):Int)<((row.length-(c::q).length:Nat):Int))=decide ((rest.dropWhile blank).length≠rest.length):=by apply oC.mpr;rw[←ym];simp?[uI,hb];simp?[bJ,eE,cT]at l1⊢;lia
   rw[bJ]at e3;rw[e3];exact this
theorem sk(a b:List Nat):(⟨a.toArray⟩:ac)++(⟨b.toArray⟩:ac)=⟨(a++b).toArray⟩:=by apply TL.adP;rw[TL.ane]
theorem kr:Str.ofString ""=(⟨([]:List Nat).toArray⟩:ac):=rfl
theorem sq(a b:List Nat):((⟨a.toArray⟩:ac)=(⟨b.toArray⟩:ac))↔a=b:={fun h=>lL (eU V.str h),fun h=>by rw[h]}
theorem kT(b:List Nat):S b=V.str ⟨b.toArray⟩:=rfl
theorem pD(b:List Nat):(⟨b.toArray⟩:ac).length=b.length:=by show b.toArray.size=_;simp
theorem ank(h:small c=true):bU (c::q)=((c::q).takeWhile dU).take 16:=by simp[bU,h]
inductive WW(t:aE)(vs:List V)(H:Hp)(Q:VK)(E:XK):Prop|mk:∀r R row wh rest,vs=[.ref r]->cU t H r R row wh rest->RQ t H r R row wh Q (S (bU rest)) (rest.drop (bU rest).length)->WW t vs H Q E
theorem y0(T:Txt K mg t):aQ P w K mg base 4 t.Ga J5 (WW t):=by
 exists T.acd,Ld;obtain⟨r,R,row,wh,rest,rfl,d,k⟩:=h;obtain⟨dx,e⟩:=d.ob;have bG:=hr.mono (show 1<=3 by decide);have cD:=hr.mono (show 2<=3 by decide);refine{_,ak (b9 (i:=1) Ld.nd rfl (bx rfl) cM)
  (ak (bA (iN (bW (cE (pv 0) T.cq.cl T.qm (qv T) bG)) (jE (fe (bW (dh (ajW T) T.aeQ bG (aq (dY eN (pf 0) (pf 0) (fun _ _=>rfl)) aA)))))).pt (au (aM (pv 1))) bH)
  (ak (pC PassesOwn.never (jD (cg y4 (cN AB T.cK (pv 1)) (bS T.agB) (bD _)) (jD (fe (bW (cE (pv 0) T.cq.cl T.qm (qv T) bG)))
    (mh (cg uo (dh (Sl T) T.Pg cD (aq (dY eN (pf 0) (pf 0) (fun _ _=>rfl)) aA)) cM (bD _))))).pt
   (ak (KP (i:=1) Ld.nd rfl (bx rfl) (dh (Sl T) T.Pg cD (aq (dY eN (pf 0) (pf 0) (fun _ _=>rfl)) aA)) ag0)
    (au (l9 (pv 0) bV mR))))
  (au (aM (pv 1))))),?_}
 simp![e];refine{r,R,row,wh,rest,rfl,d,_,rfl,?_};cases rest with|nil=>simp![fM];exact k H (ah.refl H) d|cons c q=>
 simp![e,jP,reduceCtorEq];refine{R,_,_,_,rfl,rfl,aB.of d.rw,d.at_,c,rfl,_,rfl,?_};cases hc:small c with
 |false=>
  simp![kr];have e2:bU (c::q)=[]:=by simp[bU,hc]
  rw[e2]at k;exact k H (ah.refl H) d
 |true=>
 simp![kr];refine{fun m σ H'=>∃w1 rest1,σ=[some (V.ref r),some (S w1)]/\ah (· =r) H H'/\cU t H' r R row wh rest1/\m=rest1.length/\c::q=w1++rest1/\w1.length<=16/\bU (c::q)=w1++(rest1.takeWhile dU).take (16-w1.length),{_,[],c::q,rfl,ah.refl H,d,rfl,rfl,by simp,by rw[ank hc];rfl},?_};rintro m σ H1 ⟨w1,rest1,rfl,b1,d1,rfl,hw,hl,ht⟩;obtain⟨jW,e1⟩:=d1.ob;have fin:((rest1.takeWhile dU).take (16-w1.length)=[])->Q (S w1) H1:=fun z=>by
  rw[z,ei]at ht;have:=k H1 b1;rw[ht]at this;refine this ?_;have e3:(c::q).drop w1.length=rest1:=by rw[hw];simp
  rwa[e3]
 simp![e1,kT,pD];refine{gi (cx (by lia)),?_};by_cases Pp:w1.length<16
 .simp![e1,kT,pD];rw[az (by lia)];simp![e1,kT,pD];refine{r,R,row,wh,rest1,rfl,d1,_,rfl,?_};cases rest1 with
  |nil=>simp![fM];exact fin (by simp)|cons x q1=>
   simp![e1,jP,reduceCtorEq];refine{R,_,_,_,rfl,rfl,aB.of d1.rw,d1.at_,x,rfl,?_};cases hx:dU x with
   |false=>simp![kT,kr,fM];exact fin (by simp[kI,hx])|true=>
    have hne:¬(V.str (⟨([x]:List Nat).toArray⟩:ac)=V.str (⟨([]:List Nat).toArray⟩:ac)):=fun z=>by have:=lL z;cases this
    simp![e1,kT,kr,dM hne];refine{fun σ' H'=>∃m',m'<q1.length+1/\∃w1 rest1,σ'=[some (V.ref r),some (S w1)]/\ah (· =r) H H'/\cU t H' r R row wh rest1/\m'=rest1.length/\c::q=w1++rest1/\w1.length<=16/\bU (c::q)=w1++(rest1.takeWhile dU).take (16-w1.length),?_,?_}
    .rintro σ' H' ⟨m',h1,w2,alH,h2⟩;simp![kT]at h2⊢;exact{(m'),h1,w2,h2.1,h2.2.1,alH,h2.2.2}
    refine{R,_,_,_,rfl,rfl,aB.of d1.rw,d1.at_,x,rfl,⟨w1.toArray⟩,_,rfl,rfl,?_,?_}
    .rw[pD,hx,az rfl,pD];exact gi (cx (by simp;lia))
    simp![e1];refine{q1.length,gF _,w1++[x],?_,b1.trans (ah.ae rfl),q1,d1.cR ((bB.refl q1).cons) ?_,rfl,by simp[hw],by simp;lia,?_}
    .rw[hx,az rfl,sk];rfl
    .congr 2;have l:=d1.lt;simp?[bJ]at l⊢;lia
    rw[ht];simp?[kI,hx,du,cw,bJ,ox];rw[show 16-w1.length=(16-(w1.length+1))+1 by lia,YX];simp
 simp![e1];rw[ao (by lia)];simp![kT];exact fin (by rw[show 16-w1.length=0 by lia];rfl)
inductive Wi(t:aE)(vs:List V)(H:Hp)(Q:VK)(E:XK):Prop|mk:∀r R row wh rest b,vs=[.ref r,S b,S [125]]->cU t H r R row wh rest->b.length<1000->(match (front b rest).bind gx with|some (n,z)=>RQ t H r R row wh Q (S n) z|none=>∀z,RQ t H r R row wh Q (S []) z)->Wi t vs H Q E
theorem Jy(T:Txt K mg t):aQ P w K mg base 5 t.Gb J6 (Wi t):=by
 exists T.ace,VN;obtain⟨r,R,row,wh,rest,b,rfl,d,hb,k⟩:=h;obtain⟨dx,e⟩:=d.ob;have dS:=hr.mono (show 3<=4 by decide);refine{_,ak (bA (fe (bW (bY (pv 0) T.cq.cl T.k9 (lc T) dS (aq (pv 1) aA)))) (au (aM cM)) bH)
  (ak (b9 (i:=3) VN.nd rfl (bx rfl) (cE (pv 0) T.cq.cl T.yH (y0 T) hr))
  (au (aM (mV (bW (bY (pv 0) T.cq.cl T.k9 (lc T) dS (aq (pv 2) aA))) (pv 3) cM)))),?_}
 simp![e];refine{r,R,row,wh,rest,b,rfl,d,hb,fun H1 b1 d1=>{_,rfl,?_}};cases hf:front b rest with
 |none=>rw[hf]at k d1;simp![kr];exact k _ H1 b1 d1|some q=>
  rw[hf]at k d1;simp?[oy,bM]at k d1;obtain⟨jW,e1⟩:=d1.ob;simp![e1];refine{r,R,row,wh,q,rfl,d1,fun H2 b2 d2=>?_};obtain⟨nP,e2⟩:=d2.ob;simp![e2];refine{r,R,row,wh,_,[125],rfl,d2,by decide,fun H3 b3 d3=>{_,rfl,?_}};have Eu:=(b1.trans b2).trans b3;rw[ajn]at k;cases jA:front [125] (q.drop (bU q).length)with
  |none=>rw[jA]at k;simp![kr];simp?[MH,ite_self]at k;exact k _ H3 Eu d3|some z=>
   rw[jA]at k d3;simp![oy];by_cases hn:bU q=[]
   .rw[az hn]at k;have:=k z H3 Eu d3;rw[hn];exact this
   rw[ao hn]at k;exact k H3 Eu d3
inductive Xx(vs:List V)(H:Hp)(Q:VK)(E:XK):Prop|mk:∀R row,vs=[.ref R]->H R=some (.ag (vb row))->row.length<=20000->(∀H',aw H H'->Q (S (jI row)) H')->Xx vs H Q E
theorem iq{x C:U}(nx:H x=none)(nd:H dx=none)(k:ah (· =x) (_L.ae (_L.ae H dx (.own x)) x (.am C dx [])) H1):aw H H1:=aw.made nx nd fun b o e n=>k b o n e
inductive W5(t:aE)(vs:List V)(H:Hp)(Q:VK)(E:XK):Prop|mk:∀r R row wh dx,vs=[.ref r,.ref R,.bl wh]->H r=some (.am t.eY dx [])->H R=some (.ag (vb row))->row.length<=20000->RQ t H r R row wh Q .aN row->W5 t vs H Q E
theorem Jw(T:Txt K mg t):aQ P w K mg base 1 t.FO Cj (W5 t):=by exists T.ab1,amd;obtain⟨r,R,row,wh,dx,rfl,e,hR,hl,k⟩:=h;refine{_,ak (bT (pv 0) (pv 1) rfl) (ak (bT (pv 0) bV rfl) (au (bT (pv 0) (pv 2) rfl))),?_};have hne:R≠r:=cr hR e (by intro z;cases z);simp![e,ay,gT,ael,eT];refine k _ (ah.ae rfl) {{dx,?_},by rw[aj hne];exact hR,bB.refl _,hl};rw[ay,ao5];rfl
theorem akH(T:Txt K mg t):aQ P w K mg base 5 t.Hd KG Xx:=by
 exists T.adp,Lq;obtain⟨R,row,rfl,hR,hl,k⟩:=h;have bG:=hr.mono (show 1<=4 by decide);have cD:=hr.mono (show 2<=4 by decide);refine{_,ak (b9 (i:=1) Lq.nd rfl (bx rfl) (iu T.cq (Jw T) cD (aq (pv 0) (aq dX aA))))
  (ak (b9 (i:=2) Lq.nd rfl (bx rfl) (cE (pv 1) T.cq.cl T.yH (y0 T) hr))
  (au (aM (mV (bW (cE (pv 1) T.cq.cl T.qm (qv T) bG)) (pv 2) cM)))),?_}
 simp![bC];intro x dx nx nd wl;have yh:_L.ae (_L.ae H dx (.own x)) x (.am t.eY dx []) R=some (.ag (vb row)):=by rwa[aj (aC hR nx),aj (aC hR nd)]
 refine{x,R,row,false,dx,rfl,ay,yh,hl,fun H1 b1 d1=>{rfl,?_}};have s1:aw H H1:=iq nx nd b1;obtain⟨jW,e1⟩:=d1.ob;simp![e1];refine{x,R,row,false,row,rfl,d1,fun H2 b2 d2=>?_};obtain⟨nP,e2⟩:=d2.ob;simp![e2];refine{x,R,row,false,_,rfl,d2,_,rfl,?_};have s2:aw H H2:=fun b o e=>b2 b o (aC e nx) (s1 b o e);have:=k H2 s2;unfold jI at this;simp![e2];split
 .rename_i hh;simp![e2];rwa[az hh]at this
 rename_i hh;rwa[ao hh]at this
noncomputable def mJ:List (Nat×aa):=[(60,[38,108,116,59]),(62,[38,103,116,59]),(38,[38,97,109,112,59]),(34,[38,113,117,111,116,59])]
noncomputable def nS:List (Key×V):=[(dL 60,V.str "&lt;"),(dL 62,V.str "&gt;"),(dL 38,V.str "&amp;"),(dL 34,V.str "&quot;")]
theorem adE:nS=mJ.map fun x=>((dL (x.1:Int):Key),S x.2):=rfl
theorem adD{k:Key}{v:V}(h:nS[i]?=some (k,v)):∃b w,mJ[i]?=some (b,w)/\k=dL (b:Int)/\v=S w:=by rw[adE,dQ]at h;cases e:mJ[i]? with|none=>rw[e]at h;cases h|some x=>rw[e]at h;injection h with h;injection h with h1 h2;exact{(x.1),x.2,rfl,h1.symm,h2.symm}
theorem adG{b:Nat}{w:aa}(h:mJ[i]?=some (b,w)):fg nS (dL (b:Int))=some (S w)/\w.length<1000:=by
 match i,h with
 |0,h=>injection h with h;injection h with h1 h2;subst h1 h2;exact{rfl,by decide}
 |1,h=>injection h with h;injection h with h1 h2;subst h1 h2;exact{rfl,by decide}
 |2,h=>injection h with h;injection h with h1 h2;subst h1 h2;exact{rfl,by decide}
 |3,h=>injection h with h;injection h with h1 h2;subst h1 h2;exact{rfl,by decide}
 |i+4,h=>simp[mJ]at h
theorem kX(c:Nat)(w r:aa):front (c::w) (c::r)=front w r:=by
 unfold front;by_cases h:r.take w.length=w
 .rw[az h,az (by simp[h])];rfl
 rw[ao h,ao (by simp[h])]
theorem adH{r w:aa}{i b:Nat}(hn:∀x∈mJ.take i,front x.2 (38::r)=none)(h:mJ[i]?=some (b,w))(hf:front w (38::r)=some z):entity r=some (b,z):=by
 rw[EZ];match i,h with
 |0,h=>injection h with h;injection h with h1 h2;subst h1 h2;rw[kX]at hf;rw[hf];rfl
 |1,h=>injection h with h;injection h with h1 h2;subst h1 h2;have a:=hn (60,[38,108,116,59]) (by decide);rw[kX]at hf a;rw[a,hf];rfl
 |2,h=>injection h with h;injection h with h1 h2;subst h1 h2;have a:=hn (60,[38,108,116,59]) (by decide);have c:=hn (62,[38,103,116,59]) (by decide);rw[kX]at hf a c;rw[a,c,hf];rfl
 |3,h=>injection h with h;injection h with h1 h2;subst h1 h2;have a:=hn (60,[38,108,116,59]) (by decide);have c:=hn (62,[38,103,116,59]) (by decide);have d:=hn (38,[38,97,109,112,59]) (by decide);rw[kX]at hf a c d;rw[a,c,d,hf];rfl
 |i+4,h=>simp[mJ]at h
theorem adI{r:aa}(hn:∀x∈mJ,front x.2 (38::r)=none):entity r=(front [38,35] (38::r)).bind fun r=>if (r.takeWhile digit).take 3=[]then none else (front [59] (r.drop ((r.takeWhile digit).take 3).length)).bind fun q=>if jh (val ((r.takeWhile digit).take 3))=true then some (val ((r.takeWhile digit).take 3),q)else none:=by have a:=hn (60,[38,108,116,59]) (by decide);have c:=hn (62,[38,103,116,59]) (by decide);have d:=hn (38,[38,97,109,112,59]) (by decide);have e:=hn (34,[38,113,117,111,116,59]) (by decide);rw[kX]at a c d e⊢;rw[EZ,a,c,d,e];rfl
inductive W9(t:aE)(vs:List V)(H:Hp)(Q:VK)(E:XK):Prop|mk:∀r R row wh rest,vs=[.ref r]->cU t H r R row wh (38::rest)->(match entity rest with|some (v,z)=>RQ t H r R row wh Q (.int (v:Int)) z|none=>∀z,RQ t H r R row wh Q (.int (-1)) z)->W9 t vs H Q E
theorem akz(T:Txt K mg t):aQ P w K mg base 4 t.Gf J9 (W9 t):=by
 exists T.ach,zk;obtain⟨r,R,row,wh,rest,rfl,d,k⟩:=h;obtain⟨dx,e⟩:=d.ob;obtain⟨ob,es,ep,kd⟩:=T.OA;have bG:=hr.mono (show 1<=3 by decide)
 refine{_,ak (mY PassesOwn.never rfl (ak6 kd (l7 T.CQ)) (gq (i:=1) zk.nd rfl (bx rfl))
   (au (bA (bW (bY (pv 0) T.cq.cl T.k9 (lc T) hr (aq (SW kd (l7 T.CQ) (pv 1) (fun _ _=>rfl)) aA))) (au (aM (pv 1))) bH)))
  (ak (bA (fe (bW (bY (pv 0) T.cq.cl T.k9 (lc T) hr (aq cM aA)))) (au (aM (bS T.BA))) bH)
  (ak (b9 (i:=2) zk.nd rfl (bx rfl) (pf 0))
  (ak (b9 (i:=3) zk.nd rfl (bx rfl) bV)
  (ak (pC PassesOwn.never (jD (fe (bW (cE (pv 0) T.cq.cl T.qm (qv T) bG))) (jD (cg y4 (pf 0) (iL rY (pv 2) bV) (bD _))
    (mh (bW (dh (Sj T) T.Pe bG (aq (dY eN (pf 0) (pf 0) (fun _ _=>rfl)) aA)))))).pt
   (ak (b9 (i:=3) zk.nd rfl (bx rfl) (iL JG (iL rY (iL akM (pv 3) bV) (dY eN (pf 0) (pf 0) (fun _ _=>rfl))) (bS T.Iq)))
    (au (l9 (pv 0) bV mR))))
  (ak (bA (iN (cg cV (pf 0) (pv 2) (bD _)) (iN (fe (bW (bY (pv 0) T.cq.cl T.k9 (lc T) hr (aq cM aA))))
    (jE (fe (bW (dh (Sk T) T.Pf bG (aq (pv 3) aA))))))).pt (au (aM (bS T.BA))) bH)
  (au (aM (pv 3)))))))),?_}
 simp![e];refine aey (kvs:=nS) (fun i σ H'=>(∃v1,σ=[some (.ref r),v1,none,none])/\ah (· =r) H H'/\cU t H' r R row wh (38::rest)/\∀x∈mJ.take i,front x.2 (38::rest)=none) {{(none),rfl},ah.refl H,d,fun x hx=>by cases hx} ?_ ?_
 .rintro i k' v σ H1 hi ⟨⟨v1,rfl⟩,b1,d1,hn⟩;obtain⟨b,w',hb,rfl,rfl⟩:=adD hi;obtain⟨hv,hw⟩:=adG hb;obtain⟨jW,e1⟩:=d1.ob;simp![e1,Dk];refine{_,rfl,_,hv,r,R,row,wh,38::rest,w',rfl,d1,hw,fun H2 b2 d2=>{_,rfl,?_}};cases hf:front w' (38::rest)with
  |some z=>simp![bC];rw[adH hn hb hf]at k;rw[hf]at d2;exact k H2 (b1.trans b2) d2|none=>
   rw[hf]at d2;simp![bC];refine{{_,rfl},b1.trans b2,d2,fun x hx=>?_};rw[jO,hb]at hx;rcases cz.mp hx with hx |hx
   .exact hn x hx
   have:x=(b,w'):=by simpa using hx
   rwa[this]
 rintro σ H1 ⟨⟨v1,rfl⟩,b1,d1,hn⟩;have hn:∀x∈mJ,front x.2 (38::rest)=none:=fun x hx=>hn x (by simpa[nS,mJ]using hx);have he:=adI hn;obtain⟨jW,e1⟩:=d1.ob;simp![e1];refine{r,R,row,wh,38::rest,[38,35],rfl,d1,by decide,fun H2 b2 d2=>{_,rfl,?_}};have Ay:=b1.trans b2;cases hf:front [38,35] (38::rest)with
 |none=>rw[hf]at he d2;rw[he]at k;simp![bC];exact k _ H2 Ay d2|some q=>
  rw[hf]at he d2;simp?[bM,oy]at he d2;obtain⟨nP,e2⟩:=d2.ob;simp![e2];refine su (fun m σ H'=>∃d1 rest1,σ=[some (V.ref r),v1,some (V.int ((row.length-q.length:Nat):Int)),some (V.int (val d1:Nat))]/\ah (· =r) H H'/\cU t H' r R row wh rest1/\m=rest1.length/\q=d1++rest1/\d1.length<=3/\(q.takeWhile digit).take 3=d1++(rest1.takeWhile digit).take (3-d1.length)) {_,[],q,rfl,Ay,d2,rfl,rfl,by decide,rfl} ?_;intro W X hW hX m σ H3 hw;obtain⟨d1,rest1,rfl,b3,d3,rfl,hq,hl,ht⟩:=hw;obtain⟨oQ,e3⟩:=d3.ob;have fin:(rest1.takeWhile digit).take (3-d1.length)=[]->X [some (V.ref r),v1,some (V.int ((row.length-q.length:Nat):Int)),some (V.int (val d1:Nat))] H3:=fun z=>by
   rw[z,ei]at ht;rw[ht]at he;have Bg:q.drop d1.length=rest1:=by rw[hq];simp
   rw[Bg]at he;rw[hX];simp![e3];have lq:=d2.lt;rw[hq,cw]at lq;by_cases h0:d1=[]
   .rw[az h0]at he;rw[az (by rw[hq,h0];rfl)];rw[he]at k;exact k _ H3 b3 d3
   rw[ao h0]at he;have Pl:d1.length≠0:=fun zz=>h0 (jN.mp zz);rw[ao (by rw[hq,cw];lia)];simp![e3];refine{r,R,row,wh,rest1,[59],rfl,d3,by decide,fun H4 b4 d4=>{_,rfl,?_}};have b34:=b3.trans b4;cases jA:front [59] rest1 with|none=>rw[jA]at he d4;rw[he]at k;simp![bC];exact k _ H4 b34 d4|some z2=>rw[jA]at he d4;simp?[bM,oy]at he d4;simp![bC];refine{val d1,rfl,_,rfl,?_};cases aO:jh (val d1)with|true=>rw[aO]at he;rw[he]at k;simp![bC];exact k H4 b34 d4|false=>rw[aO]at he;rw[he]at k;simp![bC];exact k _ H4 b34 d4
  simp![e3];refine{r,R,row,wh,rest1,rfl,d3,_,rfl,?_};cases rest1 with
  |nil=>simp![fM];exact fin (by simp)|cons c q1=>
   simp![e3,jP,reduceCtorEq];have lq:=d2.lt;rw[hq,cw,bJ]at lq;by_cases h3:d1.length<3
   .rw[az (by rw[hq,cw,bJ];lia)];simp![e3,jP,reduceCtorEq];refine{R,_,_,_,rfl,rfl,aB.of d3.rw,d3.at_,c,rfl,_,rfl,?_};cases hc:digit c with
    |false=>simp![bC];exact fin (by simp[kI,hc])|true=>
     simp![e3];refine{Nx W (q1.length+1),fun _ _ h=>h,.inr {by decide,by decide},R,_,_,_,rfl,rfl,aB.of d3.rw,d3.at_,?_};simp![e3];refine{q1.length,gF _,?_};rw[hW];refine{d1++[c],q1,?_,b3.trans (ah.ae rfl),d3.cR ((bB.refl q1).cons) ?_,rfl,by simp[hq],by simp;lia,?_}
     .have h48:48<=c/\c<=57:=by simpa[digit]using hc
      have e5:val (d1++[c])=10*val d1+(c-48):=by simp[val]
      have e6:((val d1:Nat):Int)*10+(c:Int)-48=((10*val d1+(c-48):Nat):Int):=by lia
      rw[e5,e6]
     .congr 2;have l:=d3.lt;simp?[bJ]at l⊢;lia
     rw[ht];simp?[kI,hc,du,cw,bJ,ox];rw[show 3-d1.length=(3-(d1.length+1))+1 by lia,YX];simp
   rw[ao (by rw[hq,cw,bJ];lia)];exact fin (by rw[show 3-d1.length=0 by lia];rfl)
noncomputable def mF:aa->Option (Nat×aa)|[]=>none|c::r=>if c=38 then entity r else if c=60∨jh c=false then none else some (c,r)
inductive Lx(t:aE)(vs:List V)(H:Hp)(Q:VK)(E:XK):Prop|mk:∀r R row wh c rest,vs=[.ref r]->cU t H r R row wh (c::rest)->(match mF (c::rest)with|some (v,z)=>RQ t H r R row wh Q (.int (v:Int)) z|none=>∀z,RQ t H r R row wh Q (.int (-1)) z)->Lx t vs H Q E
theorem akx(T:Txt K mg t):aQ P w K mg base 5 t.F8 J3 (Lx t):=by
 exists T.aca,VL;obtain⟨r,R,row,wh,c,rest,rfl,d,k⟩:=h;obtain⟨dx,e⟩:=d.ob;have bG:=hr.mono (show 1<=4 by decide);refine{_,ak (b9 (i:=1) VL.nd rfl (bx rfl) (dY eN (pf 0) (pf 0) (fun _ _=>rfl)))
  (ak (bA (cg cV (pv 1) (bS T.agv) (bD _)) (au (aM (cE (pv 0) T.cq.cl T.ah2 (akz T) hr))) bH)
  (ak (bA (iN (cg cV (pv 1) (bS T.QG) (bD _)) (jE (fe (bW (dh (Sk T) T.Pf bG (aq (pv 1) aA)))))).pt (au (aM (bS T.BA))) bH)
  (ak (l9 (pv 0) bV mR) (au (aM (pv 1)))))),?_}
 simp![e];refine{R,_,_,_,rfl,rfl,aB.of d.rw,d.at_,?_};simp![e];by_cases jx:c=38
 .rw[az (by lia)];subst jx;simp![e];exact{r,R,row,wh,rest,rfl,d,by simpa[mF,hq]using k}
 rw[ao (by lia)];by_cases eK:c=60
 .simp![e];rw[az (by lia)];simp?[mF,jx,eK]at k;exact k _ H (ah.refl H) d
 simp![e];rw[ao (by lia)];simp![e];refine{c,rfl,?_};simp![e];cases aO:jh c with|false=>simp?[mF,jx,eK,aO]at k;simp![bC];exact k _ H (ah.refl H) d|true=>simp?[mF,jx,eK,aO]at k;simp![e];refine k _ (ah.ae rfl) (d.cR ((bB.refl rest).cons) ?_);congr 2;have l:=d.lt;simp?[bJ]at l⊢;lia
section
open Classical in
noncomputable def aH(G H:Hp):Hp:=fun b=>if G b=none then H b else none
theorem fI:aH G H b=some o↔G b=none/\H b=some o:=by
 unfold aH;by_cases h:G b=none
 .rw[az h];exact{fun e=>{(h),e},fun e=>e.2}
 rw[ao h];exact{fun e=>(by cases e),fun e=>aJ e.1 h}
theorem aH.of(h:aH G H b=some o):H b=some o:=(fI.mp h).2
theorem aH.free(h:aH G H b=some o):G b=none:=(fI.mp h).1
def bI(G H:Hp):Prop:=∀b,H b=none->G b=none
theorem bI.refl(G:Hp):bI G G:=fun _ h=>h
theorem bI.ae(h:bI G H):bI G (_L.ae H a o):=fun b e=>by
 by_cases hb:b=a
 .subst hb;rw[ay]at e;cases e
 rw[aj hb]at e;exact h b e
theorem bI.same(h:bI G H)(s:aw H H'):bI G H':=fun b e=>by cases hb:H b with|none=>exact h b hb|some o=>rw[s b o hb]at e;cases e
theorem ah.here:ah (· =a) H (_L.ae H a o):=ah.ae (A:=(· =a)) rfl
set_option genInjectivity true in
inductive GP where|lit(a:U)(b:aa)|hole(n:aa)
def GP.v:GP->V|.lit a _=>.ref a|.hole n=>S n
def GP.flat:GP->List eF|.lit _ b=>b.map Piece.lit|.hole n=>[.hole n]
noncomputable def flat(gs:List GP):List eF:=gs.flatMap GP.flat
def fG:GP->Bool|.lit _ _=>true|_=>false
def ft(n:aa):GP->Bool|.hole m=>m==n|_=>false
noncomputable def ci(p:GP->Bool)(gs:List GP):List Nat:=(xl gs.length).filter fun i=>(gs[i]?).elim false p
def vi(l:List Nat):List V:=l.map fun(n:Nat)=>V.int (n:Int)
theorem oa(p:GP->Bool)(gs:List GP)(g:GP):ci p (gs++[g])=ci p gs++if p g=true then [gs.length]else []:=by
 unfold ci;rw[cw,xj,YV,Mx];congr 1
 .apply YE;intro i hi;rw[xg (DJ.mp hi)]
 rw[jM];simp
theorem BF(p:GP->Bool)(gs:List GP):(ci p gs).length<=gs.length:=by unfold ci;exact jk (xi _ _) (by simp)
noncomputable def gm:List GP->List U
 |[]=>[]|.lit a _::l=>a::gm l
 |.hole _::l=>gm l
theorem ye:∀(gs:List GP) (a:U) (b:aa),gm (gs++[.lit a b])=gm gs++[a]
 |[],a,b=>rfl|.lit _ _::l,a,b=>by simp[gm,ye l]
 |.hole _::l,a,b=>by simp[gm,ye l]
theorem A7:∀(gs:List GP) (n:aa),gm (gs++[.hole n])=gm gs
 |[],n=>rfl|.lit _ _::l,n=>by simp[gm,A7 l]
 |.hole _::l,n=>by simp[gm,A7 l]
theorem qo:∀{gs:List GP} {a:U} {b:aa},GP.lit a b∈gs->a∈gm gs
 |.lit c d::l,a,b,h=>by
  rcases bw.mp h with h |h
  .injection h with h1 _;simp[gm,h1]
  simp[gm,qo h]
 |.hole n::l,a,b,h=>by
  rcases bw.mp h with h |h
  .cases h
  exact(qo (gs:=l) h:a∈gm l)
 |[],a,b,h=>by cases h
theorem yd:∀{gs:List GP} {a:U},a∈gm gs->∃b,GP.lit a b∈gs
 |.lit c d::l,a,h=>by
  rcases bw.mp (show a∈c::gm l from h)with h |h
  .exact{d,by rw[h];exact eS}
  obtain⟨b,hb⟩:=yd (gs:=l) h;exact{b,dq _ hb}
 |.hole n::l,a,h=>by obtain⟨b,hb⟩:=yd (gs:=l) (show a∈gm l from h);exact{b,dq _ hb}|[],a,h=>by cases h
def bf(n:aa):Key:=pM ⟨n.toArray⟩
theorem ID{a b:aa}(h:bf a=bf b):a=b:=by injection h with h;exact(sq a b).mp h
structure eX(t:aE)(H:Hp)(w pA fA hA:U)(gs:List GP)(hs:List (aa×U)):Prop where
 ob:∃dx,H w=some (.am t.gv dx (jv (.ref pA) (.ref fA) (.ref hA)))
 pc:H pA=some (.ag (gs.map GP.v))
 fx:H fA=some (.ag (vi (ci fG gs)))
 ho:H hA=some (.dK (hs.map fun x=>(bf x.1,V.ref x.2)))
 lt:∀a b,GP.lit a b∈gs->H a=some (.ag (vb b))
 hl:∀x∈hs,H x.2=some (.ag (vi (ci (ft x.1) gs)))
 hn:∀n,n∈hs.map (·.1)↔GP.hole n∈gs
 nn:(hs.map (·.1)).Nodup
 nd:(pA::fA::(gm gs++hs.map (·.2))).Nodup
 le:gs.length<=20000
 bl:∀a b,GP.lit a b∈gs->b.length<=20000
 hc:hs.length<=gs.length
theorem eX.mono{w:U}{gs:List GP}(h:eX t H w pA fA hA gs hs)(s:aw H H'):eX t H' w pA fA hA gs hs:=by obtain⟨dx,e⟩:=h.ob;exact{{dx,s _ _ e},s _ _ h.pc,s _ _ h.fx,s _ _ h.ho,fun a b m=>s _ _ (h.lt a b m),fun x m=>s _ _ (h.hl x m),h.hn,h.nn,h.nd,h.le,h.bl,h.hc}
theorem m7(n:aa):fg (hs.map fun x=>(bf x.1,V.ref x.2)) (bf n)=(hs.find? fun x=>decide (x.1=n)).map fun x=>V.ref x.2:=by
 unfold fg;rw[My];have:((fun kv:Key×V=>decide (kv.1=bf n))∘fun x:aa×U=>(bf x.1,V.ref x.2))=fun x=>decide (x.1=n):=by funext x;simp?[aot];apply oC.mpr;exact{ID,fun h=>by rw[h]}
 rw[this];cases hs.find? fun x=>decide (x.1=n)<;>rfl
inductive Xw(t:aE)(vs:List V)(H:Hp)(Q:VK)(E:XK):Prop|mk:∀w dx,vs=[.ref w]->H w=some (.am t.gv dx [])->(∀H' pA fA hA,ah (· =w) H H'->H pA=none->H fA=none->H hA=none->eX t H' w pA fA hA [] []->Q .aN H')->Xw t vs H Q E
theorem Sb(T:Txt K mg t):aQ P w K mg base 1 t.GC Cz (Xw t):=by
 exists T.acC,amr;obtain⟨w,dx,rfl,e,k⟩:=h;refine{_,ak (bT (pv 0) (fc aA) rfl) (ak (bT (pv 0) (fc aA) rfl) (au (bT (pv 0) wy rfl))),?_};simp![e,dE];intro pA hp;have n1:w≠pA:=aC e hp;simp![aj n1,e,ay,Hf,eT,dE];intro fA hf;have hpA:_L.ae (_L.ae H pA (.ag [])) w (.am t.gv dx [("pieces",V.ref pA)]) pA=some (.ag []):=by rw[aj n1.symm,ay]
 have ew:_L.ae (_L.ae H pA (.ag [])) w (.am t.gv dx [("pieces",V.ref pA)]) w=some (.am t.gv dx [("pieces",V.ref pA)]):=ay;have n2:w≠fA:=aC ew hf;have n3:pA≠fA:=aC hpA hf;simp![aj n2,ew,ay,Hf,eT];intro hA hh;generalize lW:_L.ae (_L.ae (_L.ae (_L.ae H pA (HO.ag [])) w (HO.am t.gv dx [(Str.ofString "pieces",V.ref pA)])) fA (HO.ag [])) w (HO.am t.gv dx [(Str.ofString "pieces",V.ref pA),(Str.ofString "fixed",V.ref fA)])=H2 at hh⊢;have E4:H2 w=some (HO.am t.gv dx [(Str.ofString "pieces",V.ref pA),(Str.ofString "fixed",V.ref fA)]):=by rw[←lW,ay]
 have xV:H2 pA=some (HO.ag []):=by rw[←lW,aj n1.symm,aj n3,aj n1.symm,ay]
 have OE:H2 fA=some (HO.ag []):=by rw[←lW,aj n2.symm,ay]
 have hfA:H fA=none:=by rwa[aj n2.symm,aj n3.symm]at hf
 have b2:ah (· =w) H H2:=by rw[←lW];exact(((ah.new hp).trans ah.here).trans (ah.new hf)).trans ah.here
 have hAn:H hA=none:=by
  cases hx:H hA with
  |none=>rfl|some o=>
   have:hA≠w:=fun z=>by rw[z,E4]at hh;cases hh
   rw[b2 hA o this hx]at hh;cases hh
 have n4:w≠hA:=aC E4 hh;simp![aj n4,E4,Hf,eT];refine k _ pA fA hA ((b2.trans (ah.new hh)).trans ah.here) hp hfA hAn {{(dx),ay},?_,?_,?_,fun a b m=>(by cases m),fun x m=>(by cases m),fun n=>{fun m=>(by cases m),fun m=>(by cases m)},uL,?_,dE _,fun a b m=>(by cases m),bR _}
 .rw[aj n1.symm,aj (aC xV hh),xV];rfl
 .rw[aj n2.symm,aj (aC OE hh),OE];rfl
 .rw[aj n4.symm,ay];rfl
 simp[gm,n3]
inductive C7(t:aE)(arg:V)(p:eF)(vs:List V)(H:Hp)(Q:VK)(E:XK):Prop|mk:∀(G:Hp) (w pA fA hA:U) (gs:List GP) (hs:List (aa×U)),vs=[.ref w,arg]->eX t (aH G H) w pA fA hA gs hs->bI G H->(flat gs).length<20000->gs.length<20000->(∀H' gs' HY,ah (fun a=>G a=none) H H'->bI G H'->eX t (aH G H') w pA fA hA gs' HY->flat gs'=flat gs++[p]->gs'.length<=gs.length+1->Q .aN H')->C7 t arg p vs H Q E
theorem x8(gs:List GP)(g:GP):flat (gs++[g])=flat gs++g.flat:=by simp[flat]
theorem aev{gs:List GP}{b:aa}(h:GP.lit a b∈gs):b.length<=(flat gs).length:=by obtain⟨l1,l2,rfl⟩:=List.append_of_mem h;simp[flat,GP.flat];lia
theorem ahl(K:bn):qJ K (.type "list") (.type "list")=some true:=by unfold qJ;rfl
theorem ahn(K:bn):qJ K (.type "str") (.type "list")=some false:=by unfold qJ;rfl
theorem aho(K:bn):qJ K (.type "str") (.type "str")=some true:=by unfold qJ;rfl
theorem ahm(K:bn):qJ K (.type "list") (.type "str")=some false:=by unfold qJ;rfl
theorem gw(h:aH G H b=some u)(n:b≠a):aH G (_L.ae H a o) b=some u:=by rw[fI]at h⊢;exact{h.1,by rw[aj n];exact h.2}
theorem qr(h:G a=none):aH G (_L.ae H a o) a=some o:=fI.mpr {(h),ay}
theorem Yp(l:List Nat)(n:Nat):vi (l++[n])=vi l++[V.int (n:Int)]:=by simp[vi]
theorem wk{l m:List U}(h:(pA::fA::(l++m)).Nodup):pA≠fA/\(∀a∈l,a≠pA/\a≠fA)/\(∀a∈m,a≠pA/\a≠fA)/\(∀a∈l,∀b∈m,a≠b)/\l.Nodup/\m.Nodup:=by rw[gE,gE,jj]at h;obtain⟨h1,h2,h3,h4,h5⟩:=h;simp?[bw,cz,not_or]at h1 h2;exact{h1.1,fun a m=>{fun z=>h1.2.1 (z▸m),fun z=>h2.1 (z▸m)},fun a m=>{fun z=>h1.2.2 (z▸m),fun z=>h2.2 (z▸m)},h5,h3,h4}
theorem eX.more{w:U}{gs:List GP}{b:aa}(W:eX t (aH G H) w pA fA hA (gs++[.lit a b]) hs)(hb:b.length<20000):
  eX t (aH G (_L.ae H a (.ag (vb (b++[c]))))) w pA fA hA (gs++[.lit a (b++[c])]) hs:=by
 have ha:=W.lt a b (by simp);obtain⟨n1,n2,n3,n4,n5,n6⟩:=wk W.nd;rw[ye]at n2 n4 n5;have na:=n2 a (by simp);obtain⟨dx,e⟩:=W.ob;have hw:w≠a:=cr e ha (by intro z;cases z);have hh:hA≠a:=cr W.ho ha (by intro z;cases z);have QY:∀p:GP->Bool,p (.lit a b)=p (.lit a (b++[c]))->ci p (gs++[.lit a b])=ci p (gs++[.lit a (b++[c])]):=fun p hp=>by rw[oa,oa,hp]
 refine⟨{dx,gw e hw},?_,?_,gw W.ho hh,?_,?_,?_,W.nn,?_,?_,?_,by have:=W.hc;simpa using this⟩
 .have:=gw (o:=.ag (vb (b++[c]))) W.pc (fun z=>na.1 z.symm);rw[dJ]at this⊢;exact this
 .have:=gw (o:=.ag (vb (b++[c]))) W.fx (fun z=>na.2 z.symm);rwa[QY fG rfl]at this
 .intro a' b' m;rcases cz.mp m with m1 |m
  .have hne:a'≠a:=fun z=>by rw[jj]at n5;exact n5.2.2 a' (qo m1) a (by simp) z
   exact gw (W.lt a' b' (nh _ m1)) hne
  have:GP.lit a' b'=.lit a (b++[c]):=by simpa using m
  injection this with z1 z2;subst z1 z2;exact qr (aH.free ha)
 .intro x m;have hne:x.2≠a:=fun z=>n4 a (by simp) x.2 (bt.mpr {(x),m,rfl}) z.symm;have:=gw (o:=.ag (vb (b++[c]))) (W.hl x m) hne;rwa[QY (ft x.1) rfl]at this
 .intro n;rw[W.hn n];simp
 .have:=W.nd;rw[ye]at this⊢;exact this
 .have:=W.le;simp at this⊢;exact this
 intro a' b' m;rcases cz.mp m with m |m
 .exact W.bl a' b' (nh _ m)
 have:GP.lit a' b'=.lit a (b++[c]):=by simpa using m
 injection this with z1 z2;subst z2;simp;lia
theorem eX.ajj{w:U}{gs:List GP}(W:eX t (aH G H) w pA fA hA gs hs)(D:bI G H)(hg:gs.length<20000)
  (hp:_L.ae H fA (.ag (vi (ci fG gs)++[V.int (gs.length:Int)])) p=none):
  eX t (aH G (_L.ae (_L.ae (_L.ae H fA (.ag (vi (ci fG gs)++[V.int (gs.length:Int)]))) p (.ag [V.int (c:Int)])) pA (.ag (gs.map GP.v++[V.ref p])))) w pA fA hA (gs++[.lit p [c]]) hs:=by
 obtain⟨n1,n2,n3,n4,n5,n6⟩:=wk W.nd;obtain⟨dx,e⟩:=W.ob;have hpf:p≠fA:=fun z=>by rw[z,ay]at hp;cases hp
 have o0:H p=none:=by rwa[aj hpf]at hp
 have fr:∀{b:U} {o:HO},aH G H b=some o->b≠p:=fun h=>aC (aH.of h) o0;have Bx:w≠fA:=cr e W.fx (by intro z;cases z);have hwp:w≠pA:=cr e W.pc (by intro z;cases z);have hhf:hA≠fA:=cr W.ho W.fx (by intro z;cases z);have hhp:hA≠pA:=cr W.ho W.pc (by intro z;cases z);have go:∀{b:U} {o:HO},aH G H b=some o->b≠fA->b≠pA->aH G (_L.ae (_L.ae (_L.ae H fA (.ag (vi (ci fG gs)++[V.int (gs.length:Int)]))) p (.ag [V.int (c:Int)])) pA (.ag (gs.map GP.v++[V.ref p]))) b=some o:=fun h a1 a2=>gw (gw (gw h a1) (fr h)) a2;refine⟨{dx,go e Bx hwp},?_,?_,go W.ho hhf hhp,?_,?_,?_,W.nn,?_,by simp;lia,?_,by have:=W.hc;simp;lia⟩
 .rw[dJ];exact qr (aH.free W.pc)
 .rw[oa,show fG (.lit p [c])=true from rfl,az rfl,Yp];exact gw (gw (qr (aH.free W.fx)) (fr W.fx)) n1.symm
 .intro a' b' m;rcases cz.mp m with m1 |m1
  .exact go (W.lt a' b' m1) (n2 a' (qo m1)).2 (n2 a' (qo m1)).1
  have:GP.lit a' b'=.lit p [c]:=by simpa using m1
  injection this with z1 z2;subst z1 z2;exact gw (qr (D _ o0)) (fun z=>by rw[z]at o0;rw[aH.of W.pc]at o0;cases o0)
 .intro x m;have hx:=n3 x.2 (bt.mpr {(x),m,rfl});rw[oa,show ft x.1 (.lit p [c])=false from rfl,ao (by decide),ei];exact go (W.hl x m) hx.2 hx.1
 .intro n;rw[W.hn n];simp
 .rw[ye];have h1:p≠pA:=fun z=>by rw[z]at o0;rw[aH.of W.pc]at o0;cases o0
  have h2:∀a∈gm gs,a≠p:=fun a m=>by obtain⟨b,hb⟩:=yd m;exact fr (W.lt a b hb)
  have h3:∀a∈hs.map (·.2),a≠p:=fun a m=>by obtain⟨x,hx,rfl⟩:=bt.mp m;exact fr (W.hl x hx)
  have nd:=W.nd;rw[gE,gE,jj]at nd⊢;obtain⟨a1,a2,a3,a4,a5⟩:=nd;simp?[bw,cz,not_or,qG,not_false_eq_true,and_true]at a1 a2⊢;refine{{a1.1,{(a1.2.1),h1.symm},a1.2.2},{{(a2.1),hpf.symm},a2.2},?_,a4,?_}
  .rw[jj]
   exact⟨a3,by simp,fun a ha b hb=>by have:b=p:=by simpa using hb
                                      rw[this];exact h2 a ha⟩
  intro a ha b hb;rcases ha with ha |ha
  .exact a5 a ha b hb
  have ha:a=p:=by simpa using ha
  rw[ha];exact(h3 b hb).symm
 intro a' b' m;rcases cz.mp m with m1 |m1
 .exact W.bl a' b' m1
 have:GP.lit a' b'=.lit p [c]:=by simpa using m1
 injection this with z1 z2;subst z2;simp
def amQ(t:aE):Sp:=fun vs H Q E=>∃c:Nat,C7 t (.int (c:Int)) (.lit c) vs H Q E
theorem Sc(T:Txt K mg t):aQ P w K mg base 1 t.Gy Cv (amQ t):=by
 refine aQ.of T.acy amo (fun cdv A outer s H vs Q E hr h=>?_) (fun vs H Q E h=>by obtain⟨_,h⟩:=h;cases h;subst_vars;rfl);obtain⟨c,G,w,pA,fA,hA,gs,hs,rfl,W,D,ip,kY,k⟩:=h;obtain⟨dx,e'⟩:=W.ob;have e:=aH.of e';refine{_,au (bA (jD (cg gp (cN dH T.cK (pf 0)) bV (bD _)) (mh (bW (mU NZ (by rfl) T.NO NX (aq (dY eN (pf 0) (r6 sr bV) (fun _ _=>rfl)) (aq (SS (v:=.ty "list") (by rfl) T.NP NY rfl) aA)))))).pt
  (au (cj (fb ej iE iF h9 (dY eN (pf 0) (r6 sr bV) (fun _ _=>rfl)) (aq (pv 1) aA))))
  (ak (cj (fb ej iE iF h9 (pf 0) (aq (cN dH T.cK (pf 0)) aA)))
   (au (cj (fb ej iE iF h9 (pf 0) (aq (fc (aq (pv 1) aA)) aA)))))),?_}
 simp![e];refine{_,.inl (aB.of (aH.of W.pc)),?_};have hne:pA≠fA:=(wk W.nd).1;have Bx:w≠fA:=cr e (aH.of W.fx) (by intro z;cases z);have hpf:_L.ae H fA (.ag (vi (ci fG gs)++[V.int ((gs.map GP.v).length:Int)])) pA=some (.ag (gs.map GP.v)):=by rw[aj hne];exact aH.of W.pc
 have fresh:∀F:VK,(∀x,F x (_L.ae H fA (.ag (vi (ci fG gs)++[V.int ((gs.map GP.v).length:Int)]))))->wW K "list" (V.ref fA) H/\∃x,(aB K H pA x∨eW K H pA x)/\wE (V.ref fA) [V.int ((x.length:Nat):Int)] H F:=by intro F hF;refine{.inl {rfl,_,aB.of (aH.of W.fx)},_,.inl (aB.of (aH.of W.pc)),fA,_,_,rfl,rfl,aH.of W.fx,?_,hF _};rw[vi,bL];exact cx (by have:=BF fG gs;lia)
 have yF:∀p,_L.ae H fA (.ag (vi (ci fG gs)++[V.int ((gs.map GP.v).length:Int)])) p=none->wE (.ref pA) [V.ref p] (_L.ae (_L.ae H fA (.ag (vi (ci fG gs)++[V.int ((gs.map GP.v).length:Int)]))) p (HO.ag [V.int ↑c])) fun x H1=>Q V.aN H1:=by
  intro p hp;refine{pA,_,_,rfl,rfl,by rw[aj (aC hpf hp)];exact hpf,?_,?_}
  .rw[bL];exact cx (by lia)
  rw[bL]at hp⊢;refine k _ (gs++[.lit p [c]]) hs ?_ ((D.ae.ae).ae) (W.ajj D kY hp) (by rw[x8];rfl) (by simp);exact((ah.ae (A:=fun a=>G a=none) (aH.free W.fx)).trans (ah.new hp)).trans (ah.ae (A:=fun a=>G a=none) (aH.free W.pc))
 rcases List.eq_nil_or_concat gs with h0 |⟨gs',g,h0⟩
 .subst h0;simp![];rw[ao (by simp)];simp![e];refine fresh _ fun x=>?_;simp![aj Bx,e];exact{.inl {rfl,_,aB.of hpf},by decide,yF}
 rw[List.concat_eq_append]at h0;subst h0;simp![];rw[az (by simp)];simp![e];have rH:iV ((gs'++[g]).map GP.v) (-1)=some g.v:=by rw[dJ];exact vd _ _
 refine{pA,_,_,_,rfl,rfl,aB.of (aH.of W.pc),rH,_,rfl,?_};cases g with
 |hole n=>refine{_,iU.str _,false,ahn K,?_};simp![e];refine fresh _ fun x=>?_;simp![aj Bx,e];exact{.inl {rfl,_,aB.of hpf},by decide,yF}|lit a b=>
  have ha:=W.lt a b (by simp);refine{_,iU.ag (aH.of ha),true,ahl K,?_};simp![e];have hb:=aev (gs:=gs'++[.lit a b]) (a:=a) (b:=b) (by simp);refine{pA,_,_,_,rfl,rfl,aB.of (aH.of W.pc),rH,.inl {rfl,_,aB.of (aH.of ha)},a,_,_,rfl,rfl,aH.of ha,?_,?_}
  .rw[eD];exact cx (by lia)
  have hm:=W.more (c:=c) (by lia);rw[zC]at hm;refine k _ (gs'++[GP.lit a (b++[c])]) hs (ah.ae (A:=fun a=>G a=none) (aH.free ha)) D.ae hm ?_ (by simp);rw[x8,x8];simp[GP.flat]
end
variable{gs:List GP}
theorem yP(h:(hs.map (·.1)).Nodup)(h1:(n,a)∈hs)(h2:(n,b)∈hs):(n,a)=(n,b):=by
 induction hs with
 |nil=>cases h1|cons x l ih=>
  rw[cI,gE]at h;rcases bw.mp h1 with e1 |m1
  .rcases bw.mp h2 with e2 |m2
   .rw[e1,e2]
   exact aJ (bt.mpr {_,m2,by rw[←e1]}) h.1
  rcases bw.mp h2 with e2 |m2
  .exact aJ (bt.mpr {_,m1,by rw[←e2]}) h.1
  exact ih h.2 m1 m2
theorem Jm{x y:aa×U}(h:(hs.map (·.2)).Nodup)(h1:x∈hs)(h2:y∈hs)(e:x.2=y.2):x=y:=by
 induction hs with
 |nil=>cases h1|cons z l ih=>
  rw[cI,gE]at h;rcases bw.mp h1 with e1 |m1
  .rcases bw.mp h2 with e2 |m2
   .rw[e1,e2]
   exact aJ (bt.mpr {_,m2,by rw[←e,e1]}) h.1
  rcases bw.mp h2 with e2 |m2
  .exact aJ (bt.mpr {_,m1,by rw[e,e2]}) h.1
  exact ih h.2 m1 m2
theorem mK:(∃l,hs.find? (fun x=>decide (x.1=n))=some (n,l)/\(n,l)∈hs)∨(hs.find? (fun x=>decide (x.1=n))=none/\n ∉ hs.map (·.1)):=by cases h:hs.find? (fun x=>decide (x.1=n))with|some x=>have h1:=YJ h;have h2:=DI h;have:x.1=n:=of_decide_eq_true h1;obtain⟨a,b⟩:=x;simp only at this;subst this;exact .inl {(b),rfl,h2}|none=>refine .inr {rfl,fun m=>?_};obtain⟨x,hx,e⟩:=bt.mp m;have:=YI.mp h x hx;exact this (gG e)
theorem eX.alb{w:U}(W:eX t (aH G H) w pA fA hA gs hs)(hp:H p=none):eX t (aH G (_L.ae H p o)) w pA fA hA gs hs:=W.mono fun b u h=>gw h (aC (aH.of h) hp)
theorem QT(n:aa):ft n (.hole n)=true:=by simp[ft]
theorem QS{m:aa}(h:m≠n):ft n (.hole m)=false:=by simp[ft,h]
theorem eX.aga{w l:U}(W:eX t (aH G H) w pA fA hA gs hs)(hg:gs.length<20000)(hl:(n,l)∈hs):
  eX t (aH G (_L.ae (_L.ae H l (.ag (vi (ci (ft n) gs)++[V.int (gs.length:Int)]))) pA (.ag (gs.map GP.v++[S n])))) w pA fA hA (gs++[.hole n]) hs:=by
 obtain⟨n1,n2,n3,n4,n5,n6⟩:=wk W.nd;obtain⟨dx,e⟩:=W.ob;have hL:=W.hl (n,l) hl;have ml:l∈hs.map (·.2):=bt.mpr {(n,l),hl,rfl};have nl:=n3 l ml;have go:∀{b:U} {o:HO},aH G H b=some o->b≠l->b≠pA->aH G (_L.ae (_L.ae H l (.ag (vi (ci (ft n) gs)++[V.int (gs.length:Int)]))) pA (.ag (gs.map GP.v++[S n]))) b=some o:=fun h a1 a2=>gw (gw h a1) a2;refine⟨{dx,go e (cr e hL (by intro z;cases z)) (cr e W.pc (by intro z;cases z))},?_,?_,go W.ho (cr W.ho hL (by intro z;cases z)) (cr W.ho W.pc (by intro z;cases z)),?_,?_,?_,W.nn,?_,by simp;lia,?_,by have:=W.hc;simp;lia⟩
 .rw[dJ];exact qr (aH.free W.pc)
 .rw[oa,show fG (.hole n)=false from rfl,ao (by decide),ei];exact go W.fx (fun z=>nl.2 z.symm) n1.symm
 .intro a b m;rcases cz.mp m with m1 |m1
  .exact go (W.lt a b m1) (n4 a (qo m1) l ml) (n2 a (qo m1)).1
  have:GP.lit a b=.hole n:=by simpa using m1
  cases this
 .intro x m;have mx:x.2∈hs.map (·.2):=bt.mpr {(x),m,rfl};by_cases hx:x.1=n
  .have:x=(n,l):=by obtain⟨x1,x2⟩:=x;simp only at hx;subst hx;exact yP W.nn m hl
   subst this;rw[oa,QT,az rfl,Yp];exact gw (qr (aH.free hL)) nl.1
  rw[oa,QS (pJ hx),ao (by decide),ei];refine go (W.hl x m) (fun z=>hx ?_) (n3 x.2 mx).1;have:=Jm n6 m hl z;rw[this]
 .intro m;rw[W.hn m];simp?[cz,ao0,GP.hole.injEq];constructor
  .exact fun h=>.inl h
  rintro (h |h)
  .exact h
  rw[h];exact(W.hn n).mp (bt.mpr {(n,l),hl,rfl})
 .rw[A7];exact W.nd
 intro a b m;rcases cz.mp m with m1 |m1
 .exact W.bl a b m1
 have:GP.lit a b=.hole n:=by simpa using m1
 cases this
theorem eX.af9{w:U}(W:eX t (aH G H) w pA fA hA gs hs)(hg:gs.length<20000)(hn:n ∉ hs.map (·.1))(hpG:G p=none)(hpf:∀b o,aH G H b=some o->b∈pA::fA::(gm gs++hs.map (·.2))->b≠p)(hph:hA≠p)(hwp:w≠p):
  eX t (aH G (_L.ae (_L.ae (_L.ae H hA (.dK (hs.map (fun x=>(bf x.1,V.ref x.2))++[(bf n,V.ref p)]))) p (.ag [V.int (gs.length:Int)])) pA (.ag (gs.map GP.v++[S n])))) w pA fA hA (gs++[.hole n]) (hs++[(n,p)]):=by
 obtain⟨n1,n2,n3,n4,n5,n6⟩:=wk W.nd;obtain⟨dx,e⟩:=W.ob;have hno:GP.hole n ∉ gs:=fun m=>hn ((W.hn n).mpr m);have ixn:ci (ft n) gs=[]:=by
  unfold ci;rw[YH];intro i hi;have hl:=DJ.mp hi;rw[gU hl];simp?[iR];intro z;have hm:=xh hl;generalize gs[i]=g at z hm;cases g with
  |lit a b=>cases z|hole m=>
   have:m=n:=by simpa[ft]using z
   subst this;exact hno hm
 have go:∀{b:U} {o:HO},aH G H b=some o->b≠hA->b≠p->b≠pA->aH G (_L.ae (_L.ae (_L.ae H hA (.dK (hs.map (fun x=>(bf x.1,V.ref x.2))++[(bf n,V.ref p)]))) p (.ag [V.int (gs.length:Int)])) pA (.ag (gs.map GP.v++[S n]))) b=some o:=fun h a0 a1 a2=>gw (gw (gw h a0) a1) a2;have lh:∀{b:U} {xs:List V},aH G H b=some (.ag xs)->b≠hA:=fun h=>cr h W.ho (by intro z;cases z);have pp:pA≠p:=hpf pA _ W.pc (by simp);have O5:fA≠p:=hpf fA _ W.fx (by simp);refine⟨{dx,go e (cr e W.ho (by intro z;cases z)) hwp (cr e W.pc (by intro z;cases z))},?_,?_,?_,?_,?_,?_,?_,?_,by simp;lia,?_,by have:=W.hc;simp;lia⟩
 .rw[dJ];exact qr (aH.free W.pc)
 .rw[oa,show fG (.hole n)=false from rfl,ao (by decide),ei];exact go W.fx (lh W.fx) O5 n1.symm
 .rw[dJ];exact gw (gw (qr (aH.free W.ho)) hph) (cr W.ho W.pc (by intro z;cases z))
 .intro a b m;rcases cz.mp m with m1 |m1
  .exact go (W.lt a b m1) (lh (W.lt a b m1)) (hpf a _ (W.lt a b m1) (by simp[qo m1])) (n2 a (qo m1)).1
  have:GP.lit a b=.hole n:=by simpa using m1
  cases this
 .intro x m;rcases cz.mp m with m1 |m1
  .have mx:x.2∈hs.map (·.2):=bt.mpr {(x),m1,rfl};have hx:n≠x.1:=fun z=>hn (z▸bt.mpr {(x),m1,rfl});rw[oa,QS hx,ao (by decide),ei];refine go (W.hl x m1) (lh (W.hl x m1)) (hpf x.2 _ (W.hl x m1) ?_) (n3 x.2 mx).1;exact dq _ (dq _ (mo _ mx))
  have:x=(n,p):=by simpa using m1
  subst this;show aH G _ p=some (.ag (vi (ci (ft n) (gs++[.hole n]))));rw[oa,QT,az rfl,ixn];exact gw (qr hpG) pp.symm
 .intro m;rw[dJ,cz,W.hn m];simp?[cz,ao0,GP.hole.injEq,cI,lF]
 .rw[dJ,jj];refine{W.nn,by simp,fun a ha b hb=>?_};have:b=n:=by simpa using hb
  rw[this];exact fun z=>hn (z▸ha)
 .rw[A7,dJ];have h2:∀a∈gm gs,a≠p:=fun a m=>by obtain⟨b,hb⟩:=yd m;exact hpf a _ (W.lt a b hb) (by simp[m])
  have h3:∀a∈hs.map (·.2),a≠p:=fun a m=>by have m':=m;obtain⟨x,hx,rfl⟩:=bt.mp m;exact hpf x.2 _ (W.hl x hx) (dq _ (dq _ (mo _ m')))
  have nd:=W.nd;rw[gE,gE,jj]at nd⊢;obtain⟨a1,a2,a3,a4,a5⟩:=nd;simp?[bw,cz,not_or,qG,not_false_eq_true,and_true,cI,lF]at a1 a2⊢;refine{{(a1.1),a1.2.1,a1.2.2,pp},{(a2.1),a2.2,O5},a3,?_,?_}
  .rw[jj]
   exact⟨a4,by simp,fun a ha b hb=>by have:b=p:=by simpa using hb
                                      rw[this];exact h3 a ha⟩
  intro a ha b hb;rcases hb with hb |hb
  .exact a5 a ha b hb
  have hb:b=p:=by simpa using hb
  rw[hb];exact h2 a ha
 intro a b m;rcases cz.mp m with m1 |m1
 .exact W.bl a b m1
 have:GP.lit a b=.hole n:=by simpa using m1
 cases this
def amR(t:aE):Sp:=fun vs H Q E=>∃n:aa,C7 t (S n) (.hole n) vs H Q E
theorem ajN(T:Txt K mg t):aQ P w K mg base 1 t.Gz Cw (amR t):=by
 refine aQ.of T.acz amp (fun cdv A outer s H vs Q E hr h=>?_) (fun vs H Q E h=>by obtain⟨_,h⟩:=h;cases h;subst_vars;rfl);obtain⟨n,G,w,pA,fA,hA,gs,hs,rfl,W,D,ip,kY,k⟩:=h;obtain⟨dx,e'⟩:=W.ob;have e:=aH.of e';refine{_,ak (cj (fb ej iE iF h9 (KN (pf 0) (pv 1) (fc aA) {(rfl),rfl,rfl,rfl}) (aq (cN dH T.cK (pf 0)) aA))) (au (cj (fb ej iE iF h9 (pf 0) (aq (pv 1) aA)))),?_};simp![e,wS];refine{.inl {_,.inl (aH.of W.ho)},dE _,fun p hp=>?_};have hh:_L.ae H p (.ag []) hA=some (.dK (hs.map fun x=>(bf x.1,V.ref x.2))):=by rw[aj (aC (aH.of W.ho) hp)];exact aH.of W.ho
 have W1:=W.alb (o:=.ag []) hp;have D1:bI G (_L.ae H p (.ag [])):=D.ae;have b1:ah (fun a=>G a=none) H (_L.ae H p (.ag [])):=ah.new hp;have e1:_L.ae H p (.ag []) w=some (HO.am t.gv dx (jv (V.ref pA) (V.ref fA) (V.ref hA))):=by rwa[aj (aC e hp)]
 have fp:_L.ae H p (.ag []) p=some (.ag []):=ay;have iJ:∀b o,aH G H b=some o->b≠p:=fun b o h=>aC (aH.of h) hp;have Hi:∀b o,aH G (_L.ae H p (.ag [])) b=some o->b∈pA::fA::(gm gs++hs.map (·.2))->b≠p:=fun b o h m=>by
  rcases bw.mp m with m |m
  .rw[m];exact iJ pA _ W.pc
  rcases bw.mp m with m |m
  .rw[m];exact iJ fA _ W.fx
  rcases cz.mp m with m |m
  .obtain⟨b',hb⟩:=yd m;exact iJ b _ (W.lt b b' hb)
  obtain⟨x,hx,rfl⟩:=bt.mp m;exact iJ x.2 _ (W.hl x hx)
 have hph:hA≠p:=iJ hA _ W.ho;have hwp:w≠p:=aC e hp;have hpG:G p=none:=D p hp;generalize _L.ae H p (.ag [])=H1 at hh W1 D1 b1 e1 fp Hi⊢;simp![e,wS];refine{_,hh,bf n,rfl,?_,?_}
 .intro v hv;rw[m7]at hv;rcases mK (hs:=hs) (n:=n)with⟨l,h1,h2⟩ |⟨h1,h2⟩
  .rw[h1]at hv;injection hv with hv
   subst hv;have hL:=W1.hl (n,l) h2;have kZ:l≠pA:=((wk W1.nd).2.2.1 l (bt.mpr {(n,l),h2,rfl})).1;refine{.inl {rfl,_,aB.of (aH.of hL)},?_};simp![e1];refine{_,.inl (aB.of (aH.of W1.pc)),l,_,_,rfl,rfl,aH.of hL,?_,?_}
   .rw[vi,bL];exact cx (by have:=BF (ft (n,l).1) gs;lia)
   have hwl:w≠l:=cr e1 (aH.of hL) (by intro z;cases z);simp![aj hwl,e1];have hpl:_L.ae H1 l (.ag (vi (ci (ft n) gs)++[V.int ((gs.map GP.v).length:Int)])) pA=some (.ag (gs.map GP.v)):=by rw[aj kZ.symm];exact aH.of W1.pc
   refine{.inl {rfl,_,aB.of hpl},pA,_,_,rfl,rfl,hpl,?_,?_}
   .rw[bL];exact cx (by lia)
   rw[bL];refine k _ (gs++[GP.hole n]) hs ?_ ((D1.ae).ae) (W1.aga kY h2) (by rw[x8];rfl) (by simp);exact(b1.trans (ah.ae (A:=fun a=>G a=none) (aH.free hL))).trans (ah.ae (A:=fun a=>G a=none) (aH.free W1.pc))
  rw[h1]at hv;cases hv
 intro hv;rw[m7]at hv;rcases mK (hs:=hs) (n:=n)with⟨l,h1,h2⟩ |⟨h1,h2⟩
 .rw[h1]at hv;cases hv
 have tS:iM (hs.map fun x=>(bf x.1,V.ref x.2)) (bf n) (V.ref p)=hs.map (fun x=>(bf x.1,V.ref x.2))++[(bf n,V.ref p)]:=CM _ (by rw[m7,h1];rfl);rw[tS];have hlen:hs.length<=20000:=by have:=W.hc;lia
 have Qy:w≠hA:=cr e1 hh (by intro z;cases z);have hpp:pA≠hA:=cr (aH.of W1.pc) hh (by intro z;cases z);have xV:_L.ae H1 hA (.dK (hs.map (fun x=>(bf x.1,V.ref x.2))++[(bf n,V.ref p)])) p=some (.ag []):=by rwa[aj hph.symm]
 have OM:_L.ae H1 hA (.dK (hs.map (fun x=>(bf x.1,V.ref x.2))++[(bf n,V.ref p)])) pA=some (.ag (gs.map GP.v)):=by rw[aj hpp];exact aH.of W1.pc
 refine{by rw[bL];exact cx (by lia),.inl {rfl,_,aB.of xV},?_};simp![aj Qy,e1];refine{_,.inl (aB.of OM),p,_,_,rfl,rfl,xV,cx (by decide),?_};have agb:pA≠p:=Hi pA _ W1.pc (by simp);simp![aj hwp,aj Qy,e1];have ON:_L.ae (_L.ae H1 hA (.dK (hs.map (fun x=>(bf x.1,V.ref x.2))++[(bf n,V.ref p)]))) p (.ag [V.int ((gs.map GP.v).length:Int)]) pA=some (.ag (gs.map GP.v)):=by rw[aj agb];exact OM
 refine{.inl {rfl,_,aB.of ON},pA,_,_,rfl,rfl,ON,?_,?_}
 .rw[bL];exact cx (by lia)
 rw[bL];refine k _ (gs++[GP.hole n]) (hs++[(n,p)]) ?_ (((D1.ae).ae).ae) (W1.af9 kY h2 hpG Hi hph hwp) (by rw[x8];rfl) (by simp);exact((b1.trans (ah.ae (A:=fun a=>G a=none) (aH.free W1.ho))).trans (ah.ae (A:=fun a=>G a=none) hpG)).trans (ah.ae (A:=fun a=>G a=none) (aH.free W1.pc))
inductive Lz(t:aE)(vs:List V)(H:Hp)(Q:VK)(E:XK):Prop|mk:∀w pA fA hA gs hs,vs=[.ref w]->eX t H w pA fA hA gs hs->Q (.bl ((flat gs).any gC)) H->Lz t vs H Q E
theorem aaG(gs:List GP):(flat gs).any gC=gs.any fun g=>!fG g:=by induction gs with|nil=>rfl|cons g l ih=>have:flat (g::l)=g.flat++flat l:=rfl;rw[this,Mw,ih,pI];congr 1;cases g with|lit a b=>simp[GP.flat,fG,gC]|hole n=>rfl
theorem eX.has{w:U}(W:eX t H w pA fA hA gs hs):(flat gs).any gC=decide (0<hs.length):=by
 rw[aaG];cases hs with
 |nil=>rw[show decide (0<([]:List (aa×U)).length)=false from rfl,DF];intro g hg;cases g with|lit a b=>simp[fG]|hole n=>exact aJ ((W.hn n).mpr hg) (by simp)
 |cons x l=>rw[show decide (0<(x::l).length)=true by simp,sy];exact{.hole x.1,(W.hn x.1).mp (by simp),rfl}
theorem JD(T:Txt K mg t):aQ P w K mg base 1 t.GB Cy (Lz t):=by exists T.acB,amq;obtain⟨w,pA,fA,hA,gs,hs,rfl,W,k⟩:=h;obtain⟨dx,e⟩:=W.ob;refine{_,au (aM (fw gp (cN qU T.cK (pf 0)) bV (bD _))),?_};simp![e];refine{_,W.ho,?_};rw[W.has]at k;simp![e];rwa[bL,show decide ((0:Int)<((hs.length:Nat):Int))=decide (0<hs.length)from oC.mpr (by lia)]
structure RF(t:aE)(G H:Hp)(r R:U)(row:aa)(wh:Bool)(rest:aa):Prop where
 rd:cU t H r R row wh rest
 gr:∃o,G r=some o
 gR:∃o,G R=some o
 keep:∀b o,G b=some o->b≠r->H b=some o
 dn:bI G H
structure RW(t:aE)(G H:Hp)(r R:U)(row:aa)(wh:Bool)(rest:aa)(w:U)(ps:List eF):Prop where
 rf:RF t G H r R row wh rest
 wd:∃pA fA hA gs hs,eX t (aH G H) w pA fA hA gs hs/\flat gs=ps/\gs.length<=ps.length
 sz:ps.length+rest.length<=row.length
theorem RF.cR{row:aa}(h:RF t G H r R row wh rest)(b:ah (· =r) H H')(d:cU t H' r R row wh cy):RF t G H' r R row wh cy:=
 ⟨d,h.gr,h.gR,fun x o e n=>b x o n (h.keep x o e n),fun x e=>by
   cases hx:H x with
   |none=>exact h.dn x hx|some o=>
    by_cases hr:x=r
    .obtain⟨dx,e2⟩:=d.ob;rw[hr,e2]at e;cases e
    rw[b x o hr hx]at e;cases e⟩
theorem RW.cR{w:U}{row:aa}{ps:List eF}(h:RW t G H r R row wh rest w ps)(b:ah (· =r) H H')(d:cU t H' r R row wh cy)(l:cy.length<=rest.length):RW t G H' r R row wh cy w ps:=by obtain⟨pA,fA,hA,gs,hs,W,e1,e2⟩:=h.wd;refine⟨h.rf.cR b d,{pA,fA,hA,gs,hs,W.mono fun x o hx=>?_,e1,e2},by have:=h.sz;lia⟩;rw[fI]at hx⊢;refine{hx.1,b x o (fun z=>?_) hx.2};obtain⟨o',ho⟩:=h.rf.gr;rw[z,ho]at hx;cases hx.1
theorem RF.yg{row:aa}(h:RF t G H r R row wh rest)(b:ah (fun a=>G a=none) H H')(D:bI G H'):RF t G H' r R row wh rest:=by
 obtain⟨dx,e⟩:=h.rd.ob;obtain⟨o1,h1⟩:=h.gr;obtain⟨o2,h2⟩:=h.gR;have n1:¬ G r=none:=by rw[h1];simp
 have n2:¬ G R=none:=by rw[h2];simp
 exact{{{dx,b r _ n1 e},b R _ n2 h.rd.rw,h.rd.ux,h.rd.le},h.gr,h.gR,fun x o e n=>b x o (show ¬ G x=none by rw[e];simp) (h.keep x o e n),D}
theorem RW.obj{w:U}{row:aa}{ps:List eF}(h:RW t G H r R row wh rest w ps):∃dx fs,H w=some (.am t.gv dx fs)/\fs.lookup ("add_byte":ac)=none/\fs.lookup ("add_hole":ac)=none/\fs.lookup ("has_hole":ac)=none:=by obtain⟨pA,fA,hA,gs,hs,W,e1,e2⟩:=h.wd;obtain⟨dx,e⟩:=W.ob;exact{dx,_,aH.of e,aer _ _ _,aes _ _ _,O2 _ _ _}
theorem RW.add{w:U}{row:aa}{ps:List eF}{arg:V}{p:eF}{E:XK}(h:RW t G H r R row wh rest w ps)(hl:(ps++[p]).length+rest.length<=row.length)
  (k:∀H',RW t G H' r R row wh rest w (ps++[p])->Q .aN H'):C7 t arg p [.ref w,arg] H Q E:=by
 obtain⟨pA,fA,hA,gs,hs,W,e1,e2⟩:=h.wd;have le:=h.rf.rd.le;simp?[cw,xj]at hl;refine{G,w,pA,fA,hA,gs,hs,rfl,W,h.rf.dn,by rw[e1];lia,by lia,fun H' gs' HY b D W' e3 e4=>k H' {h.rf.yg b D,{pA,fA,hA,gs',HY,W',by rw[e3,e1],by simp;lia},by simp;lia}}
def No(t:aE)(G:Hp)(r R:U)(row:aa)(wh:Bool)(w:U)(ps:List eF)(Q:VK):Option (eF×aa)->Prop|some (p,z)=>∀H',RW t G H' r R row wh z w (ps++[p])->Q (.bl true) H'|none=>∀H' z,RF t G H' r R row wh z->Q (.bl false) H'
inductive Wl(t:aE)(vs:List V)(H:Hp)(Q:VK)(E:XK):Prop|mk:∀G r R row rest w ps,vs=[.ref r,.ref w]->RW t G H r R row true (123::rest) w ps->No t G r R row true w ps Q (eB true (123::rest))->Wl t vs H Q E
theorem akw(T:Txt K mg t):aQ P w K mg base 6 t.FZ J2 (Wl t):=by
 exists T.ab9,VJ;obtain⟨G,r,R,row,rest,w,ps,rfl,h,k⟩:=h;obtain⟨dx,e⟩:=h.rf.rd.ob;have bG:=hr.mono (show 1<=5 by decide);have dS:=hr.mono (show 3<=5 by decide);refine{_,ak (bA (bW (bY (pv 0) T.cq.cl T.k9 (lc T) dS (aq cM aA))) (ak (cj (bY (pv 1) T.k7.cl T.RA (Sc T) bG (aq (bS T.Io) aA))) (au (aM dX))) bH)
  (ak (b9 (i:=2) VJ.nd rfl (bx rfl) (bY (pv 0) T.cq.cl T.IT (Jy T) hr (aq cM (aq cM aA))))
  (ak (bA (cg cV (pv 2) cM (bD _)) (au (aM dX)) bH)
  (ak (cj (bY (pv 1) T.k7.cl T.ah9 (ajN T) bG (aq (pv 2) aA))) (au (aM dX))))),?_}
 simp![e];refine{r,R,row,true,123::rest,[123,123],rfl,h.rf.rd,by decide,fun H1 b1 d1=>{_,rfl,?_}};have sz:=h.sz;simp?[bJ]at sz;cases hf:front [123,123] (123::rest)with
 |some z=>rw[hf]at d1;rw[kX]at hf;have ez:=lV hf;subst ez;have h1:=h.cR b1 d1 (by simp;lia);obtain⟨EU,fs,ew,oZ,Bs,_⟩:=h1.obj;simp![ew,oZ];refine{123,h1.add (by simp at sz⊢;lia) fun H' h'=>?_};have:eB true (123::([123]++z))=some (.lit 123,z):=S9 z;rw[this]at k;simp![ew,oZ];exact k H' h'|none=>
  rw[hf]at d1;have h1:=h.cR b1 d1 (bR _);obtain⟨jW,e1⟩:=d1.ob;simp![e1];have hq:∀q,rest≠123::q:=fun q z=>by subst z;rw[show(123::123::q)=[123,123]++q from rfl,Hj]at hf;cases hf
  rw[S8 hq]at k;have hk:((nameAt rest).bind fun n=>(front [125] n.2).map fun z=>(Piece.hole n.1,z))=(gx rest).map fun x=>(Piece.hole x.1,x.2):=by unfold gx;cases nameAt rest with|none=>rfl|some n=>show(front [125] n.2).map _=((front [125] n.2).map _).map _;cases front [125] n.2<;>rfl
  rw[hk]at k;refine{r,R,row,true,123::rest,[123],rfl,d1,by decide,?_};rw[kX,show front [] rest=some rest from by simp[front],bM];cases hn:gx rest with
  |none=>rw[hn]at k;intro z H2 b2 d2;simp![kr,kT,fM];exact k H2 z (h1.rf.cR b2 d2)|some x=>
   obtain⟨n,z⟩:=x;rw[hn]at k;obtain⟨sz1,lz1,Bt⟩:=yT hn;intro H2 b2 d2;have hne:¬((⟨n.toArray⟩:ac)=(⟨([]:List Nat).toArray⟩:ac)):=fun zz=>by have:=(sq n []).mp zz;subst this;cases Bt
   simp![kr,kT,hne,jP];have h2:=h1.cR b2 d2 (by simp;lia);obtain⟨EU,fs,ew,oZ,Bs,_⟩:=h2.obj;simp![ew,Bs];refine{n,h2.add (by simp at sz⊢;lia) fun H' h'=>?_};simp![];exact k H' h'
theorem S7{r:aa}(h:¬(wh=true/\c=123)):eB wh (c::r)=(mF (c::r)).map fun x=>(Piece.lit x.1,x.2):=by
 unfold eB mF;dsimp only;rw[ao h];split
 .rfl
 split<;>rfl
theorem EG{b:aa}{v:Nat}(h:mF b=some (v,z)):bB z b/\z.length<b.length:=by
 cases b with
 |nil=>cases h|cons c r=>
  unfold mF at h;dsimp only at h;split at h
  .obtain⟨s,l,_⟩:=OJ h;exact{s.cons,by simp;lia}
  split at h
  .cases h
  injection h with h;injection h with _ h2;subst h2;exact{(bB.refl _).cons,by simp}
inductive W3(t:aE)(vs:List V)(H:Hp)(Q:VK)(E:XK):Prop|mk:∀G r R row wh c rest w ps,vs=[.ref r,.ref w]->RW t G H r R row wh (c::rest) w ps->No t G r R row wh w ps Q (eB wh (c::rest))->W3 t vs H Q E
theorem Sr(T:Txt K mg t):aQ P w K mg base 7 t.Ge J8 (W3 t):=by
 exists T.acg,VO;obtain⟨G,r,R,row,wh,c,rest,w,ps,rfl,h,k⟩:=h;obtain⟨dx,e⟩:=h.rf.rd.ob;have bG:=hr.mono (show 1<=6 by decide);have vV:=hr.mono (show 5<=6 by decide);refine{_,ak (bA (jD (bW (pf 0)) (mh (cg cV (dY eN (pf 0) (pf 0) (fun _ _=>rfl)) (bS T.Io) (bD _)))).pt (au (aM (bY (pv 0) T.cq.cl T.ah0 (akw T) hr (aq (pv 1) aA)))) bH)
  (ak (b9 (i:=2) VO.nd rfl (bx rfl) (cE (pv 0) T.cq.cl T.ah1 (akx T) vV))
  (ak (bA (cg cV (pv 2) (bS T.BA) (bD _)) (au (aM dX)) bH)
  (ak (cj (bY (pv 1) T.k7.cl T.RA (Sc T) bG (aq (pv 2) aA))) (au (aM dX))))),?_}
 simp![e];have sz:=h.sz;simp?[bJ]at sz;have key:∀F:VK,(∀v z H',mF (c::rest)=some (v,z)->RW t G H' r R row wh z w ps->F (.int (v:Int)) H')->(∀z H',mF (c::rest)=none->RF t G H' r R row wh z->F (.int (-1)) H')->Lx t [V.ref r] H F E0:=fun F f1 f2=>by refine{r,R,row,wh,c,rest,rfl,h.rf.rd,?_};cases hv:mF (c::rest)with|none=>exact fun z H' b' d'=>f2 z H' hv (h.rf.cR b' d')|some x=>exact fun H' b' d'=>f1 x.1 x.2 H' hv (h.cR b' d' (gi (EG hv).2))
 cases wh with
 |false=>
  simp![bC];simp![e];rw[S7 (by simp)]at k;refine key _ (fun v z H' hv h'=>?_) (fun z H' hv h'=>?_)
  .rw[hv]at k;have lz:=(EG hv).2;simp?[bJ]at lz;obtain⟨EU,fs,ew,oZ,Bs,_⟩:=h'.obj;simp![];rw[ao (by lia)];simp![ew,oZ];refine{v,h'.add (by simp;lia) fun H2 h2=>?_};simp![];exact k H2 h2
  rw[hv]at k;simp![];exact k H' z h'
 |true=>
  simp![e];refine{R,_,_,_,rfl,rfl,aB.of h.rf.rd.rw,h.rf.rd.at_,?_};simp![e];by_cases hc:c=123
  .rw[az (by lia)];subst hc;simp![e];exact{(G),r,R,row,rest,w,ps,rfl,h,k}
  rw[ao (by lia)];simp![e];rw[S7 (by simp[hc])]at k;refine key _ (fun v z H' hv h'=>?_) (fun z H' hv h'=>?_)
  .rw[hv]at k;have lz:=(EG hv).2;simp?[bJ]at lz;obtain⟨EU,fs,ew,oZ,Bs,_⟩:=h'.obj;simp![];rw[ao (by lia)];simp![ew,oZ];refine{v,h'.add (by simp;lia) fun H2 h2=>?_};simp![];exact k H2 h2
  rw[hv]at k;simp![];exact k H' z h'
noncomputable def lP:List aa:=[[123,63],[123,33],[123,42],[123,47],[123,62]]
theorem aa2(c:Nat)(r:aa):(lP.any fun b=>(front b (c::r)).isSome)=(c==123&&other r):=by
 by_cases hc:c=123
 .subst hc;simp?[lP,pI,aoH,kX,zJ];cases r with
  |nil=>simp[front,other]|cons d q=>
   have h1:∀x:Nat,(front [x] (d::q)).isSome=(d==x):=fun x=>by
    by_cases hx:d=x
    .subst hx;simp[front]
    rw[i9 hx];simp[hx]
   simp?[h1,other,beq_self_eq_true,uE,aop]
 simp[lP,i9 hc,hc]
inductive Wk(t:aE)(vs:List V)(H:Hp)(Q:VK)(E:XK):Prop|mk:∀r R row wh c rest,vs=[.ref r]->cU t H r R row wh (c::rest)->RQ t H r R row wh Q (.bl (wh&&c==123&&other rest)) (c::rest)->Wk t vs H Q E
theorem Sn(T:Txt K mg t):aQ P w K mg base 3 t.FU J0 (Wk t):=by
 exists T.ab5,Lb;obtain⟨r,R,row,wh,c,rest,rfl,d,k⟩:=h;obtain⟨dx,e⟩:=d.ob;refine{_,ak (bA (iN (fe (bW (pf 0))) (jE (cg uo (dY eN (pf 0) (pf 0) (fun _ _=>rfl)) (bS T.Io) (bD _)))).pt (au (aM dX)) bH)
  (au (aM (mU (vk rfl) (by rfl) T.ve vh (aq (qx (own:=[("text",1)]) rfl Lb.nd (S6 (l7 T.alw)) (oO (by rfl)) (fun _ _ _ _ _=>gq (i:=1) Lb.nd rfl (bx rfl)) (fun _ _ _ _ _=>qy)
   (fun _ _ _ _ _=>bY (pv 0) T.cq.cl T.ua (uj T) hr (aq (pv 1) aA))) aA)))),?_}
 simp![e];cases wh with|false=>simp![bC];exact k H (ah.refl H) d|true=>
 simp![e];refine{R,_,_,_,rfl,rfl,aB.of d.rw,d.at_,?_};simp![];by_cases hc:c=123
 .subst hc;rw[ao (by decide)];simp![];refine{t.Ho,rfl,{_,T.Ti H},fun D hD=>aht (K:=K) (xs:=lP.map S) (fun i H'=>ah (· =r) H H'/\cU t H' r R row true (123::rest)/\H' D=some (.ag (((lP.take i).map fun b=>(front b (123::rest)).isSome).map V.bl))) {ah.new hD,d.same (aw.new hD),ay} (fun i H' _ _=>T.Ti H') ?_ ?_}
  .rintro i x H' hi ⟨b1,d1,hl⟩;rw[dQ]at hi;cases hb:lP[i]? with
   |none=>rw[hb]at hi;cases hi|some b=>
    rw[hb]at hi;injection hi with hi
    subst hi;obtain⟨jW,e1⟩:=d1.ob;have lb:b.length<1000:=by have:b∈lP:=fh hb;simp[lP]at this;rcases this with rfl |rfl |rfl |rfl |rfl<;>decide
    simp![cu,je,e1];refine{r,R,row,true,123::rest,b,rfl,d1,lb,fun H2 b2 d2=>?_};have Ps:D≠r:=cr hl e1 (by intro z;cases z);have iK:=b2 D _ Ps hl;have Ay:ah (· =r) H H2:=b1.trans b2;have hRD:R≠D:=aC d.rw hD;refine{_,iK,?_,?_,?_,?_}
    .simp?[bL,nc];exact cx (by simp[lP];lia)
    .intro x o hx ho;rw[aj (aC ho hD)];exact Ay x o hx ho
    .obtain⟨nP,e2⟩:=d2.ob;exact{{nP,by rw[aj Ps.symm];exact e2},by rw[aj hRD];exact d2.rw,d2.ux,d2.le}
    rw[ay,jO,hb,dJ,dJ];rfl
  rintro H' ⟨b1,d1,hl⟩;refine{D,_,rfl,aB.of hl,?_};have:=k H' b1 d1;rw[show(true&&(123==123)&&other rest)=(lP.any fun b=>(front b (123::rest)).isSome) by rw[aa2];rfl]at this;rw[qF];have e5:lP.take (lP.map S).length=lP:=by simp
  rw[e5];exact this
 rw[az (by rw[Bool.not_eq_true',decide_eq_false_iff_not];intro q;injection q with q;lia)];have e5:(true&&(c==123)&&other rest)=false:=by simp[hc]
 rw[e5]at k;exact k H (ah.refl H) d
theorem cU.rf{row:aa}(d:cU t H r R row wh rest):RF t H H r R row wh rest:=by obtain⟨dx,e⟩:=d.ob;exact{d,{_,e},{_,d.rw},fun _ _ h _=>h,bI.refl H}
inductive Xj(t:aE)(vs:List V)(H:Hp)(Q:VK)(E:XK):Prop|mk:∀r R row wh rest,vs=[.ref r]->cU t H r R row wh rest->RQ t H r R row wh Q (.bl (dD wh rest)) rest->Xj t vs H Q E
theorem akq(T:Txt K mg t):aQ P w K mg base 4 t.FV Cn (Xj t):=by
 exists T.ab6,amg;obtain⟨r,R,row,wh,rest,rfl,d,k⟩:=h;obtain⟨dx,e⟩:=d.ob;have bG:=hr.mono (show 1<=3 by decide);refine{_,au (aM (wz (cE (pv 0) T.cq.cl T.qm (qv T) bG) (wz (fw cV (dY eN (pf 0) (pf 0) (fun _ _=>rfl)) (bS T.QG) (bD _)) (oq (cE (pv 0) T.cq.cl T.Ru (Sn T) hr))))),?_};simp![e];refine{r,R,row,wh,rest,rfl,d,_,rfl,?_};cases rest with
 |nil=>simp![fM];exact k H (ah.refl H) d|cons c q=>
  simp![e,jP,reduceCtorEq];refine{R,_,_,_,rfl,rfl,aB.of d.rw,d.at_,rfl,?_};by_cases eK:c=60
  .subst eK;simp![fM];exact k H (ah.refl H) d
  simp![fM];rw[ao (by intro z;injection z with z;lia)];simp![e];refine{r,R,row,wh,c,q,rfl,d,fun H' b' d'=>?_};have:=k H' b' d';rwa[show dD wh (c::q)=(wh&&c==123&&other q) by simp[dD,eK]]at this
inductive Xk(t:aE)(vs:List V)(H:Hp)(Q:VK)(E:XK):Prop|mk:∀r R row wh rest,vs=[.ref r]->cU t H r R row wh rest->RQ t H r R row wh Q (.bl (ff rest)) rest->Xk t vs H Q E
theorem akr(T:Txt K mg t):aQ P w K mg base 4 t.FW Co (Xk t):=by
 exists T.ab7,amh;obtain⟨r,R,row,wh,rest,rfl,d,k⟩:=h;obtain⟨dx,e⟩:=d.ob;have bG:=hr.mono (show 1<=3 by decide);refine{_,au (aM (wz (cE (pv 0) T.cq.cl T.qm (qv T) bG) (oq (fw cV (dY eN (pf 0) (pf 0) (fun _ _=>rfl)) (bS T.QK) (bD _))))),?_};simp![e];refine{r,R,row,wh,rest,rfl,d,_,rfl,?_};cases rest with
 |nil=>simp![fM];exact k H (ah.refl H) d|cons c q=>
  simp![e,jP,reduceCtorEq];refine{R,_,_,_,rfl,rfl,aB.of d.rw,d.at_,rfl,?_};have:=k H (ah.refl H) d;rw[show ff (c::q)=decide (V.int (c:Int)=V.int 34) by
   by_cases mN:c=34
   .subst mN;simp[ff]
   rw[dM (by intro z;injection z with z;lia)];simp[ff,mN]]at this
  exact this
def Nu(t:aE)(G:Hp)(r R:U)(row:aa)(wh:Bool)(Q:VK):Option (List eF×aa)->Prop|none=>∀H' z,RF t G H' r R row wh z->Q .aN H'|some (ps,z)=>∀H' w,RW t G H' r R row wh z w ps->Q (.ref w) H'
inductive Xq(t:aE)(vs:List V)(H:Hp)(Q:VK)(E:XK):Prop|mk:∀r R row wh rest,vs=[.ref r]->cU t H r R row wh rest->Nu t H r R row wh Q (de wh (dD wh) rest)->Xq t vs H Q E
theorem Su(T:Txt K mg t):aQ P w K mg base 8 t.Gg Ka (Xq t):=by
 exists T.aci,VP;obtain⟨r,R,row,wh,rest,rfl,d,k⟩:=h;obtain⟨dx,e⟩:=d.ob;have cD:=hr.mono (show 2<=7 by decide);have lY:=hr.mono (show 4<=7 by decide);refine{_,ak (b9 (i:=1) VP.nd rfl (bx rfl) (wC T.k7 (Sb T) cD))
  (ak (pC PassesOwn.never (fe (bW (cE (pv 0) T.cq.cl T.ahX (akq T) lY)))
   (au (bA (fe (bW (bY (pv 0) T.cq.cl T.Rx (Sr T) hr (aq (pv 1) aA)))) (au (aM oo)) bH)))
  (au (aM (pv 1)))),?_}
 simp![e];intro x nO nx nd wl;refine{x,nO,rfl,ay,fun H1 pA fA hA b1 n1 n2 n3 W1=>{rfl,?_}};have s1:aw H H1:=iq nx nd b1;have free:∀{a:U},_L.ae (_L.ae H nO (.own x)) x (.am t.gv nO []) a=none->H a=none:=fun{a} h=>by cases ha:H a with|none=>rfl|some o=>rw[aj (aC ha nx),aj (aC ha nd),ha]at h;cases h
 have W2:eX t (aH H H1) x pA fA hA [] []:=by obtain⟨dw,ew⟩:=W1.ob;exact{{dw,fI.mpr {(nx),ew}},fI.mpr {free n1,W1.pc},fI.mpr {free n2,W1.fx},fI.mpr {free n3,W1.ho},fun a b m=>(by cases m),fun x m=>(by cases m),W1.hn,W1.nn,W1.nd,W1.le,W1.bl,W1.hc}
 have d1:=d.same s1;have h1:RW t H H1 r R row wh rest x []:=by have f:=d.rf;exact{{d1,f.gr,f.gR,fun b o e _=>s1 b o e,(bI.refl H).same s1},{pA,fA,hA,[],[],W2,rfl,bR _},by simpa using d.lt}
 simp![e];refine su (fun m σ H'=>∃rest1 ps,σ=[some (V.ref r),some (V.ref x)]/\RW t H H' r R row wh rest1 x ps/\m=rest1.length/\de wh (dD wh) rest=(de wh (dD wh) rest1).map fun y=>(ps++y.1,y.2)) {_,rest,[],rfl,h1,rfl,by simp} ?_;intro W X hW hX m σ H2 hw;obtain⟨rest1,ps,rfl,h2,rfl,he⟩:=hw;obtain⟨nP,e2⟩:=h2.rf.rd.ob;simp![e2];refine{r,R,row,wh,rest1,rfl,h2.rf.rd,fun H3 b3 d3=>{_,rfl,?_}};have h3:=h2.cR b3 d3 (bR _);cases hs:dD wh rest1 with|true=>rw[hX];simp![bC];rw[he,zb hs]at k;have:=k H3 x (by simpa using h3);exact this|false=>obtain⟨oQ,e3⟩:=d3.ob;simp![e3];refine{Nx W rest1.length,fun _ _ h=>h,?_};cases rest1 with|nil=>cases hs|cons c q=>refine{H,r,R,row,wh,c,q,x,ps,rfl,h3,?_};cases hp:eB wh (c::q)with|none=>intro H4 z h4;simp![bC];rw[he,y8 hs hp]at k;exact k H4 z h4|some y=>obtain⟨p,z⟩:=y;intro H4 h4;simp![bC];refine{z.length,(uq hp).2,?_};rw[hW];refine{z,ps++[p],rfl,h4,rfl,?_};rw[he,za hs hp,MG];congr 1;funext y;simp
inductive Xv(t:aE)(vs:List V)(H:Hp)(Q:VK)(E:XK):Prop|mk:∀r R row wh rest,vs=[.ref r]->cU t H r R row wh rest->Nu t H r R row wh Q (de wh ff rest)->Xv t vs H Q E
theorem akA(T:Txt K mg t):aQ P w K mg base 8 t.Gh Kb (Xv t):=by
 exists T.acj,VQ;obtain⟨r,R,row,wh,rest,rfl,d,k⟩:=h;obtain⟨dx,e⟩:=d.ob;have cD:=hr.mono (show 2<=7 by decide);have lY:=hr.mono (show 4<=7 by decide);refine{_,ak (b9 (i:=1) VQ.nd rfl (bx rfl) (wC T.k7 (Sb T) cD))
  (ak (pC PassesOwn.never (fe (bW (cE (pv 0) T.cq.cl T.ahY (akr T) lY)))
   (au (bA (fe (bW (bY (pv 0) T.cq.cl T.Rx (Sr T) hr (aq (pv 1) aA)))) (au (aM oo)) bH)))
  (au (aM (pv 1)))),?_}
 simp![e];intro x nO nx nd wl;refine{x,nO,rfl,ay,fun H1 pA fA hA b1 n1 n2 n3 W1=>{rfl,?_}};have s1:aw H H1:=iq nx nd b1;have free:∀{a:U},_L.ae (_L.ae H nO (.own x)) x (.am t.gv nO []) a=none->H a=none:=fun{a} h=>by cases ha:H a with|none=>rfl|some o=>rw[aj (aC ha nx),aj (aC ha nd),ha]at h;cases h
 have W2:eX t (aH H H1) x pA fA hA [] []:=by obtain⟨dw,ew⟩:=W1.ob;exact{{dw,fI.mpr {(nx),ew}},fI.mpr {free n1,W1.pc},fI.mpr {free n2,W1.fx},fI.mpr {free n3,W1.ho},fun a b m=>(by cases m),fun x m=>(by cases m),W1.hn,W1.nn,W1.nd,W1.le,W1.bl,W1.hc}
 have d1:=d.same s1;have h1:RW t H H1 r R row wh rest x []:=by have f:=d.rf;exact{{d1,f.gr,f.gR,fun b o e _=>s1 b o e,(bI.refl H).same s1},{pA,fA,hA,[],[],W2,rfl,bR _},by simpa using d.lt}
 simp![e];refine su (fun m σ H'=>∃rest1 ps,σ=[some (V.ref r),some (V.ref x)]/\RW t H H' r R row wh rest1 x ps/\m=rest1.length/\de wh ff rest=(de wh ff rest1).map fun y=>(ps++y.1,y.2)) {_,rest,[],rfl,h1,rfl,by simp} ?_;intro W X hW hX m σ H2 hw;obtain⟨rest1,ps,rfl,h2,rfl,he⟩:=hw;obtain⟨nP,e2⟩:=h2.rf.rd.ob;simp![e2];refine{r,R,row,wh,rest1,rfl,h2.rf.rd,fun H3 b3 d3=>{_,rfl,?_}};have h3:=h2.cR b3 d3 (bR _);cases hs:ff rest1 with|true=>rw[hX];simp![bC];rw[he,zb hs]at k;have:=k H3 x (by simpa using h3);exact this|false=>obtain⟨oQ,e3⟩:=d3.ob;simp![e3];refine{Nx W rest1.length,fun _ _ h=>h,?_};cases rest1 with|nil=>cases hs|cons c q=>refine{H,r,R,row,wh,c,q,x,ps,rfl,h3,?_};cases hp:eB wh (c::q)with|none=>intro H4 z h4;simp![bC];rw[he,y8 hs hp]at k;exact k H4 z h4|some y=>obtain⟨p,z⟩:=y;intro H4 h4;simp![bC];refine{z.length,(uq hp).2,?_};rw[hW];refine{z,ps++[p],rfl,h4,rfl,?_};rw[he,za hs hp,MG];congr 1;funext y;simp
def qR(t:aE)(G:Hp)(w:U)(ps:List eF):Prop:=∃pA fA hA gs hs,eX t G w pA fA hA gs hs/\flat gs=ps/\gs.length<=ps.length
inductive oE(t:aE)(G:Hp)(a:U)(x:dF):Prop|mk:∀dx w,G a=some (.am t.vj dx (x5 (S x.1) (.ref w)))->qR t G w x.2->oE t G a x
theorem qR.mono{w:U}{ps:List eF}(h:qR t G w ps)(s:aw G G'):qR t G' w ps:=by obtain⟨pA,fA,hA,gs,hs,W,e⟩:=h;exact{pA,fA,hA,gs,hs,W.mono s,e}
theorem oE.mono{x:dF}(h:oE t G a x)(s:aw G G'):oE t G' a x:=by obtain⟨dx,w,e,W⟩:=h;exact{dx,w,s _ _ e,W.mono s}
theorem ajk{G1:Hp}(d:bI G G1):aw (aH G1 H) (aH G H):=fun b o h=>by rw[fI]at h⊢;exact{d b h.1,h.2}
theorem RF.trans{row:aa}(a:RF t G H r R row wh rest)(b:RF t H H' r R row wh cy):RF t G H' r R row wh cy:={b.rd,a.gr,a.gR,fun x o e n=>b.keep x o (a.keep x o e n) n,fun x e=>a.dn x (b.dn x e)}
theorem NK(wh:Bool)(b:aa):gk wh b=if bU b=[]then none else (front [61,34] (b.drop (bU b).length)).bind fun q=>(de wh ff q).bind fun v=>(front [34] v.2).map fun z=>((bU b,v.1),z):=by
 have h:=RN (b:=b) (w:=[34]) (x:=61) (by decide);have e:gk wh b=((nameAt b).bind fun n=>(front [61,34] n.2).map fun z=>(n.1,z)).bind fun p=>(de wh ff p.2).bind fun v=>(front [34] v.2).map fun z=>((p.1,v.1),z):=by unfold gk;cases nameAt b with|none=>rfl|some n=>show(front [61,34] n.2).bind _=((front [61,34] n.2).map _).bind _;cases front [61,34] n.2<;>rfl
 rw[e,h];by_cases h0:bU b=[]
 .rw[az h0,az h0];rfl
 rw[ao h0,ao h0];cases front [61,34] (b.drop (bU b).length)<;>rfl
inductive V8(t:aE)(vs:List V)(H:Hp)(Q:VK)(E:XK):Prop|mk:∀a dx n w,vs=[.ref a,S n,.ref w]->H a=some (.am t.vj dx [])->(∀H',ah (· =a) H H'->H' a=some (.am t.vj dx (x5 (S n) (.ref w)))->bI H H'->Q .aN H')->V8 t vs H Q E
theorem ajB(T:Txt K mg t):aQ P w K mg base 1 t.E7 BW (V8 t):=by exists T.abn,alQ;obtain⟨a,dx,n,w,rfl,e,k⟩:=h;refine{_,ak (bT (pv 0) (pv 1) rfl) (au (bT (pv 0) (pv 2) rfl)),?_};simp![e,ay,gT,aeg,eT];exact k _ ah.here ay (bI.refl H).ae
def Zw(t:aE)(G:Hp)(r R:U)(row:aa)(wh:Bool)(Q:VK):Option (dF×aa)->Prop|none=>∀H' z,RF t G H' r R row wh z->Q .aN H'|some (x,z)=>∀H' a,RF t G H' r R row wh z->oE t (aH G H') a x->Q (.ref a) H'
inductive Wd(t:aE)(vs:List V)(H:Hp)(Q:VK)(E:XK):Prop|mk:∀r R row wh rest,vs=[.ref r]->cU t H r R row wh rest->Zw t H r R row wh Q (gk wh rest)->Wd t vs H Q E
theorem akv(T:Txt K mg t):aQ P w K mg base 9 t.FY J1 (Wd t):=by
 exists T.ab8,Lc;obtain⟨r,R,row,wh,rest,rfl,d,k⟩:=h;obtain⟨dx,e⟩:=d.ob;have cD:=hr.mono (show 2<=8 by decide);have dS:=hr.mono (show 3<=8 by decide);have lY:=hr.mono (show 4<=8 by decide);refine{_,ak (b9 (i:=1) Lc.nd rfl (bx rfl) (cE (pv 0) T.cq.cl T.yH (y0 T) lY))
  (ak (bA (iN (cg cV (pv 1) cM (bD _)) (jE (fe (bW (bY (pv 0) T.cq.cl T.k9 (lc T) dS (aq cM aA)))))).pt (au (aM oo)) bH)
  (ak (b9 (i:=2) Lc.nd rfl (bx rfl) (cE (pv 0) T.cq.cl T.ah3 (akA T) hr))
  (ak (bA (iN (ot (wt (pv 2))) (jE (fe (bW (bY (pv 0) T.cq.cl T.k9 (lc T) dS (aq cM aA)))))).pt (au (aM oo)) bH)
  (au (aM (iu T.Q1 (ajB T) cD (aq (pv 1) (aq (pv 2) aA)))))))),?_}
 simp![e];refine{r,R,row,wh,rest,rfl,d,fun H1 b1 d1=>?_};rw[NK]at k;have f1:=d.rf.cR b1 d1;simp![kT,kr,sq];by_cases hn:bU rest=[]
 .rw[az hn]at k;rw[az hn];exact k H1 _ f1
 rw[ao hn]at k;rw[ao hn];obtain⟨jW,e1⟩:=d1.ob;simp![e1];refine{r,R,row,wh,_,[61,34],rfl,d1,by decide,fun H2 b2 d2=>{_,rfl,?_}};have f2:=f1.cR b2 d2;cases hf:front [61,34] (rest.drop (bU rest).length)with
 |none=>rw[hf]at k;simp![bC];exact k H2 _ f2|some q=>
  rw[hf]at k d2 f2;simp?[bM,oy]at k d2 f2;obtain⟨nP,e2⟩:=d2.ob;simp![e2];refine{r,R,row,wh,q,rfl,d2,?_};cases hv:de wh ff q with
  |none=>rw[hv]at k;intro H3 z f3;simp![fM];exact k H3 z (f2.trans f3)|some x=>
   obtain⟨ps,q2⟩:=x;rw[hv]at k;simp?[bM]at k;intro H3 wa h3;obtain⟨oQ,e3⟩:=h3.rf.rd.ob;simp![e3,jP,reduceCtorEq];refine{r,R,row,wh,q2,[34],rfl,h3.rf.rd,by decide,fun H4 b4 d4=>{_,rfl,?_}};have f4:=(f2.trans h3.rf).cR b4 d4;cases jA:front [34] q2 with
   |none=>rw[jA]at k;simp![bC];exact k H4 _ f4|some z=>
    rw[jA]at k d4 f4;simp?[oy]at d4 f4;have h4:=h3.cR b4 d4 (gi (rB jA));simp![bC];intro a Oy na nda nxa;refine{a,Oy,bU rest,wa,rfl,ay,fun H5 b5 e5 D5=>{rfl,?_}};have s5:aw H4 H5:=iq na nda b5;have hG:H a=none:=f4.dn a na;refine k H5 a ?_ {Oy,wa,fI.mpr {(hG),e5},?_}
    .obtain⟨ET,e4⟩:=d4.ob;exact{d4.same s5,f4.gr,f4.gR,fun b o hb hne=>s5 b o (f4.keep b o hb hne),f4.dn.same s5}
    have w4:qR t (aH H2 H4) wa ps:=h4.wd;refine(w4.mono (ajk f2.dn)).mono fun b o hb=>?_;rw[fI]at hb⊢;exact{hb.1,s5 b o hb.2}
def mn(N M:Hp):Hp:=fun b=>(N b).elim (M b) some
theorem Yk(N M:Hp):aw N (mn N M):=fun b o h=>by unfold mn;rw[h];rfl
theorem Yl{M:Hp}(d:∀b o,M b=some o->N b=none):aw M (mn N M):=fun b o h=>by unfold mn;rwa[d b o h]
theorem wX{M:Hp}(h1:N b=none)(h2:M b=none):mn N M b=none:=by unfold mn;rwa[h1]
theorem Dt{M:Hp}(h:mn N M b=some o):N b=some o∨M b=some o:=by unfold mn at h;cases hn:N b with|none=>rw[hn]at h;exact .inr h|some u=>rw[hn]at h;exact .inl h
structure pS(G N H:Hp):Prop where
 sub:aw N H
 new:∀b o,N b=some o->G b=none
theorem pS.aH(h:pS G N H):aw N (aH G H):=fun b o e=>fI.mpr {h.new b o e,h.sub b o e}
theorem pS.ae(h:pS G N H)(n:N a=none):pS G N (_L.ae H a o):={fun b u e=>by rw[aj (fun z=>by rw[z,n]at e;cases e)];exact h.sub b u e,h.new}
theorem pS.more(h:pS G N H')(hs:aw N H)(d:bI G H):pS G (mn N (_S.aH H H')) H'/\aw (_S.aH H H') (mn N (_S.aH H H')):=by
 refine{{fun b o e=>?_,fun b o e=>?_},Yl fun b o e=>?_}
 .rcases Dt e with e |e
  .exact h.sub b o e
  exact aH.of e
 .rcases Dt e with e |e
  .exact h.new b o e
  exact d b (aH.free e)
 cases hn:N b with|none=>rfl|some u=>have:=hs b u hn;rw[aH.free e]at this;cases this
def fO(t:aE)(G:Hp):List U->List dF->Prop
 |[],[]=>True|a::l,x::m=>oE t G a x/\fO t G l m
 |_,_=>False
theorem fO.mono(s:aw G G'):∀{l:List U} {m:List dF},fO t G l m->fO t G' l m
 |[],[],_=>trivial|a::l,x::m,h=>{h.1.mono s,fO.mono s h.2}
 |[],_::_,h=>h.elim|_::_,[],h=>h.elim
theorem fO.snoc{x:dF}(hx:oE t G a x):∀{l:List U} {m:List dF},fO t G l m->fO t G (l++[a]) (m++[x])
 |[],[],_=>{(hx),trivial}|b::l,y::m,h=>{h.1,fO.snoc hx h.2}
 |[],_::_,h=>h.elim|_::_,[],h=>h.elim
theorem fO.bu:∀{l:List U} {m:List dF},fO t G l m->l.length=m.length
 |[],[],_=>rfl|a::l,x::m,h=>by simp[h.2.bu]
 |[],_::_,h=>h.elim|_::_,[],h=>h.elim
inductive Wp(t:aE)(vs:List V)(H:Hp)(Q:VK)(E:XK):Prop|mk:∀r R row wh rest,vs=[.ref r]->cU t H r R row wh rest->(match (front [60,47] rest).bind ending with|some (n,z)=>RQ t H r R row wh Q (S n) z|none=>∀z,RQ t H r R row wh Q (S []) z)->Wp t vs H Q E
theorem So(T:Txt K mg t):aQ P w K mg base 5 t.F9 J4 (Wp t):=by
 exists T.acb,VM;obtain⟨r,R,row,wh,rest,rfl,d,k⟩:=h;obtain⟨dx,e⟩:=d.ob;have dS:=hr.mono (show 3<=4 by decide);refine{_,ak (bA (fe (bW (bY (pv 0) T.cq.cl T.k9 (lc T) dS (aq cM aA)))) (au (aM cM)) bH)
  (ak (b9 (i:=1) VM.nd rfl (bx rfl) (cE (pv 0) T.cq.cl T.yH (y0 T) hr))
  (ak (cj (cE (pv 0) T.cq.cl T.Rs (Sm T) dS))
  (au (aM (mV (bW (bY (pv 0) T.cq.cl T.k9 (lc T) dS (aq cM aA))) (pv 1) cM))))),?_}
 simp![e];refine{r,R,row,wh,rest,[60,47],rfl,d,by decide,fun H1 b1 d1=>{_,rfl,?_}};cases hf:front [60,47] rest with
 |none=>rw[hf]at k d1;simp![kr];exact k _ H1 b1 d1|some q=>
  rw[hf]at k d1;simp?[oy,bM]at k d1;obtain⟨jW,e1⟩:=d1.ob;simp![e1];refine{r,R,row,wh,q,rfl,d1,fun H2 b2 d2=>?_};obtain⟨nP,e2⟩:=d2.ob;simp![e2];refine{r,R,row,wh,_,rfl,d2,fun H3 b3 d3=>?_};obtain⟨oQ,e3⟩:=d3.ob;simp![e3];refine{r,R,row,wh,_,[62],rfl,d3,by decide,fun H4 b4 d4=>{_,rfl,?_}};have Ew:=((b1.trans b2).trans b3).trans b4;rw[OI]at k;cases jA:front [62] ((q.drop (bU q).length).dropWhile blank)with
  |none=>rw[jA]at k;simp![kr];simp?[MH,ite_self]at k;exact k _ H4 Ew d4|some z=>
   rw[jA]at k d4;simp![bC];by_cases hn:bU q=[]
   .rw[az hn]at k;rw[hn];exact k z H4 Ew d4
   rw[ao hn]at k;exact k H4 Ew d4
inductive Xm(t:aE)(vs:List V)(H:Hp)(Q:VK)(E:XK):Prop|mk:∀a dx n,vs=[.ref a,S n]->H a=some (.am t.lQ dx [])->(∀H' l,ah (· =a) H H'->H l=none->H' a=some (.am t.lQ dx (ju (S n) (.ref l) (.bl false)))->H' l=some (.ag [])->Q .aN H')->Xm t vs H Q E
theorem ajL(T:Txt K mg t):aQ P w K mg base 1 t.Gq Cr (Xm t):=by
 exists T.acq,amk;obtain⟨a,dx,n,rfl,e,k⟩:=h;refine{_,ak (bT (pv 0) (pv 1) rfl) (ak (bT (pv 0) (fc aA) rfl) (au (bT (pv 0) dX rfl))),?_};simp![e,ay,OY,eT,dE];intro l hl;have ea:_L.ae H a (.am t.lQ dx [("name",S n)]) a=some (.am t.lQ dx [("name",S n)]):=ay;have n1:a≠l:=aC ea hl;have HK:H l=none:=by rwa[aj n1.symm]at hl
 simp![aj n1,ea,ay,gT,OY,eT];refine k _ l ((ah.here.trans (ah.new hl)).trans ah.here) HK ay ?_;rw[aj n1.symm,ay]
structure jR(t:aE)(G N H:Hp)(tg lA:U)(n:aa)(as:List dF)(al:Bool)(adr:List U):Prop where
 ob:∃dx,H tg=some (.am t.lQ dx (ju (S n) (.ref lA) (.bl al)))
 ls:H lA=some (.ag (adr.map V.ref))
 g1:G tg=none
 g2:G lA=none
 rg:pS G N H
 n1:N tg=none
 n2:N lA=none
 at_:fO t N adr as
inductive El(t:aE)(G:Hp)(tg:U)(n:aa)(as:List dF)(al:Bool):Prop|mk:∀dx lA adr,G tg=some (.am t.lQ dx (ju (S n) (.ref lA) (.bl al)))->G lA=some (.ag (adr.map V.ref))->fO t G adr as->El t G tg n as al
theorem jR.tag(h:jR t G N H tg lA n as al adr):El t (aH G H) tg n as al:=by obtain⟨dx,e⟩:=h.ob;exact{dx,lA,adr,fI.mpr {(h.g1),e},fI.mpr {(h.g2),h.ls},fO.mono h.rg.aH h.at_}
theorem jR.ne(h:jR t G N H tg lA n as al adr):tg≠lA:=by obtain⟨dx,e⟩:=h.ob;exact cr e h.ls (by intro z;cases z)
theorem jR.aP(h:jR t G N H tg lA n as al adr)(b:∀x o,x≠r->H x=some o->H' x=some o)(hr:∃o,G r=some o):jR t G N H' tg lA n as al adr:=by
 obtain⟨dx,e⟩:=h.ob;obtain⟨o,ho⟩:=hr;have m1:tg≠r:=fun z=>by have:=h.g1;rw[z,ho]at this;cases this
 have m2:lA≠r:=fun z=>by have:=h.g2;rw[z,ho]at this;cases this
 refine{{dx,b _ _ m1 e},b _ _ m2 h.ls,h.g1,h.g2,{fun x u hx=>b x u (fun z=>?_) (h.rg.sub x u hx),h.rg.new},h.n1,h.n2,h.at_};have:=h.rg.new x u hx;rw[z,ho]at this;cases this
theorem jR.Es(h:jR t G N H tg lA n as al adr)(b:Bool):jR t G N (_L.ae H tg (.am t.lQ dx (ju (S n) (.ref lA) (.bl b)))) tg lA n as b adr:={{(dx),ay},by rw[aj h.ne.symm];exact h.ls,h.g1,h.g2,h.rg.ae h.n1,h.n1,h.n2,h.at_}
theorem jR.add{row:aa}{x:dF}(h:jR t G N H tg lA n as al adr)(f:RF t H H' r R row wh rest)(hr:∃o,G r=some o)(hx:oE t (aH H H') a x)(D:bI G H):
  ∃N',jR t G N' (_L.ae H' lA (.ag (adr.map V.ref++[V.ref a]))) tg lA n (as++[x]) al (adr++[a]):=by
 have h':=h.aP (r:=r) (fun b o e hb=>f.keep b o hb e) hr;obtain⟨m1,m2⟩:=h'.rg.more h.rg.sub D;obtain⟨dx,e⟩:=h'.ob;obtain⟨dx0,e0⟩:=h.ob;have z1:aH H H' tg=none:=by cases hz:aH H H' tg with|none=>rfl|some o=>have:=aH.free hz;rw[e0]at this;cases this
 have z2:aH H H' lA=none:=by cases hz:aH H H' lA with|none=>rfl|some o=>have:=aH.free hz;rw[h.ls]at this;cases this
 refine{mn N (aH H H'),{dx,by rw[aj h.ne];exact e},?_,h.g1,h.g2,m1.ae (wX h.n2 z2),wX h.n1 z1,wX h.n2 z2,?_}
 .rw[ay,dJ];rfl
 exact fO.snoc (hx.mono m2) (fO.mono (Yk _ _) h.at_)
theorem RF.new{row:aa}(h:RF t G H r R row wh rest)(ha:G a=none):RF t G (_L.ae H a o) r R row wh rest:=h.yg (ah.ae (A:=fun a=>G a=none) ha) h.dn.ae
def ZO(t:aE)(G:Hp)(r R:U)(row:aa)(wh:Bool)(Q:VK):Option (aa×List dF×Bool×aa)->Prop|none=>∀H' z,RF t G H' r R row wh z->Q .aN H'|some (n,as,al,z)=>∀H' tg,RF t G H' r R row wh z->El t (aH G H') tg n as al->Q (.ref tg) H'
inductive WX(t:aE)(vs:List V)(H:Hp)(Q:VK)(E:XK):Prop|mk:∀r R row wh rest,vs=[.ref r]->cU t H r R row wh rest->ZO t H r R row wh Q ((front [60] rest).bind (gS wh))->WX t vs H Q E
theorem Sq(T:Txt K mg t):aQ P w K mg base 10 t.Gc J7 (WX t):=by
 exists T.acf,CZ;obtain⟨r,R,row,wh,rest,rfl,d,k⟩:=h;obtain⟨dx,e⟩:=d.ob;have cD:=hr.mono (show 2<=9 by decide);have dS:=hr.mono (show 3<=9 by decide);have lY:=hr.mono (show 4<=9 by decide);refine{_,ak (bA (fe (bW (bY (pv 0) T.cq.cl T.k9 (lc T) dS (aq cM aA)))) (au (aM oo)) bH)
  (ak (b9 (i:=1) CZ.nd rfl (bx rfl) (iu T.Q3 (ajL T) cD (aq (cE (pv 0) T.cq.cl T.yH (y0 T) lY) aA)))
  (ak (bA (cg cV (pf 1) cM (bD _)) (au (aM oo)) bH)
  (au (pC PassesOwn.never (bW dX)
   (ak (b9 (i:=2) CZ.nd rfl (bx rfl) (cE (pv 0) T.cq.cl T.Rs (Sm T) dS))
   (ak (bT (pv 1) (bY (pv 0) T.cq.cl T.k9 (lc T) dS (aq cM aA)) rfl)
   (ak (bA (iN (bW (pf 1)) (jE (bW (bY (pv 0) T.cq.cl T.k9 (lc T) dS (aq cM aA))))).pt (au (aM (pv 1))) bH)
   (ak (b9 (i:=3) CZ.nd rfl (bx rfl) (mV (bW (pv 2)) (cE (pv 0) T.cq.cl T.ahZ (akv T) hr) oo))
   (ak (bA (ot (wt (pv 3))) (au (aM oo)) bH)
   (au (cj (fb ej iE iF h9 (pf 1) (aq (pv 3) aA))))))))))))),?_}
 simp![e];refine{r,R,row,wh,rest,[60],rfl,d,by decide,fun H1 b1 d1=>{_,rfl,?_}};have f1:=d.rf.cR b1 d1;cases hf:front [60] rest with
 |none=>rw[hf]at k;simp![bC];exact k H1 _ f1|some q=>
  rw[hf]at k d1 f1;simp?[oy,bM]at k d1 f1;obtain⟨jW,e1⟩:=d1.ob;simp![e1];refine{r,R,row,wh,q,rfl,d1,fun H2 b2 d2=>?_};have f2:=f1.cR b2 d2;intro tg dt nt yQ nxt;refine{tg,dt,bU q,rfl,ay,fun H3 lA b3 nl e3 l3=>{rfl,?_}};have s3:aw H2 H3:=iq nt yQ b3;have hlA:H2 lA=none:=by cases ha:H2 lA with|none=>rfl|some o=>rw[aj (aC ha nt),aj (aC ha yQ),ha]at nl;cases nl
  have f3:RF t H H3 r R row wh (q.drop (bU q).length):={d2.same s3,f2.gr,f2.gR,fun b o hb hne=>s3 b o (f2.keep b o hb hne),f2.dn.same s3};rw[L4]at k;simp![e3,kT,kr,sq];by_cases hn:bU q=[]
  .rw[az hn]at k;rw[az hn];exact k H3 _ f3
  rw[ao hn]at k;rw[ao hn];have M0:jR t H (fun _=>none) H3 tg lA (bU q) [] false []:={{(dt),e3},l3,f2.dn tg nt,f2.dn lA hlA,{fun _ _ h=>(by cases h),fun _ _ h=>(by cases h)},rfl,rfl,trivial};simp![e3,kT,kr,sq];refine su (fun m σ H'=>∃rest1 as1 adr N al v2 v3,σ=[some (V.ref r),some (V.ref tg),v2,v3]/\RF t H H' r R row wh rest1/\jR t H N H' tg lA (bU q) as1 al adr/\m=rest1.length/\as1.length<=row.length-rest1.length/\gh wh (q.drop (bU q).length)=(gh wh rest1).map fun y=>(as1++y.1,y.2))
   {_,_,[],[],_,false,none,none,rfl,f3,M0,rfl,by simp,by simp} ?_
  intro W X hW hX m σ H4 hw;obtain⟨rest1,as1,adr,N,al,v2,v3,rfl,f4,M4,rfl,hlen,he⟩:=hw;obtain⟨ET,e4⟩:=f4.rd.ob;simp![e4];refine{Nx W rest1.length,fun _ _ h=>h,r,R,row,wh,rest1,rfl,f4.rd,fun H5 b5 d5=>?_};have f5:=f4.cR b5 d5;have M5:=M4.aP (r:=r) (fun x o hx hh=>b5 x o hx hh) f4.gr;obtain⟨dx5,e5⟩:=d5.ob;simp![e5];refine{r,R,row,wh,_,[47,62],rfl,d5,by decide,fun H6 b6 d6=>?_};have f6:=f5.cR b6 d6;have M6:=M5.aP (r:=r) (fun x o hx hh=>b6 x o hx hh) f4.gr;obtain⟨ES,e6⟩:=M6.ob;simp![e6,ay];have M7:=M6.Es (dx:=ES) (front [47,62] (rest1.dropWhile blank)).isSome;have f7:=f6.new (o:=.am t.lQ ES (ju (S (bU q)) (.ref lA) (.bl (front [47,62] (rest1.dropWhile blank)).isSome))) M6.g1;generalize _L.ae H6 tg (.am t.lQ ES (ju (S (bU q)) (.ref lA) (.bl (front [47,62] (rest1.dropWhile blank)).isSome)))=H7 at M7 f7⊢;cases hfa:front [47,62] (rest1.dropWhile blank)with
  |some z=>rw[hfa]at M7 f7;simp![bC];rw[he,L6 hfa]at k;have:=k H7 tg f7 (by simpa using M7.tag);exact this|none=>
   rw[hfa]at M7 f7;simp?[zX,Y0]at M7 f7;obtain⟨dx7,e7⟩:=f7.rd.ob;simp![e7];refine{r,R,row,wh,_,[62],rfl,f7.rd,by decide,fun H8 b8 d8=>{_,rfl,?_}};have f8:=f7.cR b8 d8;have M8:=M7.aP (r:=r) (fun x o hx hh=>b8 x o hx hh) f4.gr;cases vO:front [62] (rest1.dropWhile blank)with
   |some z=>rw[vO]at f8;simp![bC];rw[he,L9 hfa vO]at k;have:=k H8 tg f8 (by simpa using M8.tag);exact this|none=>
    rw[vO]at f8 d8;simp?[zX]at f8 d8;simp![bC];by_cases jz:(rest1.dropWhile blank).length=rest1.length
    .rw[ao (fun z=>z jz)];simp![fM];rw[he,wU hfa vO jz]at k;exact k H8 _ f8
    rw[az jz];obtain⟨dx8,e8⟩:=d8.ob;simp![e8];refine{r,R,row,wh,_,rfl,d8,?_};cases hat:gk wh (rest1.dropWhile blank)with|none=>rw[he,L7 hfa vO hat]at k;intro H9 z f9;simp![fM];exact k H9 z (f8.trans f9)|some y=>obtain⟨x,z⟩:=y;intro H9 a f9 ha;have f89:=f8.trans f9;obtain⟨N',M9⟩:=M8.add f9 f4.gr ha f8.dn;have Ef:=M8.aP (r:=r) (fun b o hb hh=>f9.keep b o hh hb) f4.gr;obtain⟨dt9,e9⟩:=Ef.ob;simp![jP,reduceCtorEq,e9];have lz:=(xH hat).2.1;have lb:=(bB.dropWhile blank rest1).bu;have lr:=f4.rd.lt;have ll:=f4.rd.le;have la:=M8.at_.bu;refine{.inl {rfl,_,aB.of Ef.ls},lA,_,_,rfl,rfl,Ef.ls,by rw[bL];exact cx (by lia),z.length,by lia,?_};rw[hW];refine{z,as1++[x],adr++[a],N',_,_,_,rfl,f89.new M8.g2,M9,rfl,by simp;lia,?_};rw[he,L8 hfa vO jz hat,MG];congr 1;funext y;simp
section
noncomputable def xN(l:List ac)(v:ac):List ac:=if l.any (· ==v)=true then l else l++[v]
def gb(val:Nat->ac):Nat->List ac|0=>[]|i+1=>xN (gb val i) (val i)
theorem Oj(l:List ac)(v k:ac):(xN l v).any (· ==k)=(l.any (· ==k) ||decide (k=v)):=by
 unfold xN;by_cases h:l.any (· ==v)=true
 .rw[az h];by_cases e:k=v
  .rw[e,h];simp
  simp[e]
 rw[ao h,Mw];by_cases e:k=v
 .rw[e];simp
 have:(v==k)=false:=kO.mpr (pJ e);simp[this,e]
theorem EK(l:List ac)(v:ac):(xN l v).length=if l.any (· ==v)then l.length else l.length+1:=by unfold xN;split<;>simp
theorem BK(val:Nat->ac):∀i,(gb val i).length<=i|0=>bR _|i+1=>by have:=BK val i;rw[gb,EK];split<;>lia
section
variable{prog:cA}{w:ck}{A:cO}{R:DT->ax->Prop}{J:U}{fp wr:List U}{G:Array MJ->Array MJ->Prop}{n:Nat}{Pi:Nat->af->Prop}{Nr:Nat->ax->Prop}
abbrev oK(prog:cA)(w:ck)(h:bP)(Z:U)(l:List ac):Prop:=h.SetOf (strKind prog w) Z (fun k=>l.any (· ==k)) l.length
theorem oK.at_{h h':bP}{Z:U}{l:List ac}(s:oK prog w h Z l)(k:∀o,h.get? Z=some o->h'.get? Z=some o):oK prog w h' Z l:=by obtain⟨o,es,ep,tb,ho,rest⟩:=s;exact{o,es,ep,tb,k o ho,rest}
theorem ahB(V:WalksS prog w A.in1 J fp wr G n Pi Nr)(Z:U)(hZ:Z ∉ fp)(val:Nat->ac)(hv:∀i u,Pi i u->∃t,u=.str (val i) t)(hb:n+1<D0):
  ∀(k i:Nat) (s:ax),n-i=k->i<=n->Nr i s->oK prog w s.heap Z (gb val i)->
   (∀s',Moved (Z::wr) G s s'->oK prog w s'.heap Z (gb val n)->R (.ok (.ret .none)) s')->
   sI (bp prog w) A (.builtin "set.update.loop" {[.ref Z,.ref J],[]}) R s:=by
 have Py:Z ∉ wr:=fun q=>hZ (V.sub _ q);have sub:∀b∈wr,b∈Z::wr:=fun b q=>dq _ q;intro k;induction k with
 |zero=>
  intro i s e1 e2 st sz fin;obtain rfl:i=n:=by lia
  refine Zl apc ?_;rw[Around.under_plainId Y6 _];show aY _ A.in1 (sJ (.ref J)>>=_) _ _ s;refine bN (V.done s _ _ st fun s' mv=>?_);exact cJ (fin s' (mv.mono sub) (sz.at_ fun o q=>mv.heap Z o Py q))
 |succ k ih=>
  intro i s e1 e2 st sz fin;refine Zl apc ?_;rw[Around.under_plainId Y6 _];show aY _ A.in1 (sJ (.ref J)>>=_) _ _ s;refine bN (V.item i s _ _ (by lia) st fun u s' hp gz mv=>?_);obtain⟨t,rfl⟩:=hv i u hp;have sz':oK prog w s'.heap Z (gb val i):=sz.at_ fun o q=>mv.heap Z o Py q;show aY _ A.in1 (holding [Value.str (val i) t] (setAdd Z (.str (val i) t))>>=_) _ _ s';refine bN (Zu ?_);unfold setAdd;refine Zu ?_;refine bN ((strKind prog w).pyHash (k:=val i) (strKind_is _ _ _ _) ?_);have room:(gb val i).length+1<D0:=by have:=BK val i;lia
  refine wpAny_setAddHashed_of (knd:=strKind prog w) (s:={s' with toks:=s'.toks+1}) (strKind_is _ _ _ _) rfl sz' room fun h' sb s2=>?_;have s3:oK prog w h' Z (gb val (i+1)):=SetOf_congr s2 (fun k'=>by rw[gb,Oj]) (by rw[gb,EK]);refine cJ {plainId_quiet Y6 _,ih (i+1) _ (by lia) (by lia) (V.frame _ s' _ _ gz (uM _) fun b q o e=>?_) s3 fun zj mv2 s4=>?_}
  .rwa[sb.2 b (fun z:b=Z=>hZ (z▸q))]
  refine fin zj (Moved.trans V.gtrans ((mv.mono sub).then_heap (uM _) fun b o q e=>?_) mv2) s4;rw[sb.2 b (fun z:b=Z=>q (by rw[z];exact eS))];exact e
theorem aeB{A:cO}{E:af->ax->Prop}{s:ax}(a:af){Q:af->ax->Prop}
  (k:∀led:Bool,Q (.ref s.heap.objs.size) {s with heap:=s.heap.push {cls:=.type "set",dict:=none,data:=.set #[] 0 (.fresh 0 0 led)}}):
  sI (bp prog w) A (.call (.builtin "set.__new__") {[.type "set",a],[]}) (wants Q E) s:=code_set_new_1 a k
noncomputable abbrev oj(led:Bool):ba:={cls:=.type "set",dict:=none,data:=.set #[] 0 (.fresh 0 0 led)}
set_option maxRecDepth 100000 in
theorem alz{A:cO}{E:af->ax->Prop}{s:ax}{l:U}{its:Array af}{val:Nat->ac}{Q:af->ax->Prop}(hh:A.handled=none)(hl:s.heap.IsList l its)(hv:∀i u,its[i]?=some u->∃t,u=Value.str (val i) t)(hb:its.size+1<D0)
  (k:∀(h':bP) (tk:Nat),oK prog w h' s.heap.objs.size (gb val its.size)->(∀b o,b<s.heap.objs.size->s.heap.get? b=some o->h'.get? b=some o)->Q (.ref s.heap.objs.size) {s with heap:=h',toks:=tk}):
  aY (bp prog w) A (call (.type "set") [.ref l]) Q E s:=by
 obtain⟨c,tl,apP⟩:=uP.mro;have apO:=uP.made;have apQ:=uP.sub;refine Zr (codeAny_of_tree (show aY _ _ (callAny (.type "set") _) _ _ _ from ?_));refine cJ {Code.quiet_builtin _ (by decide+kernel),Zl PySem.F.entry_type_call ?_};rw[Around.under_plain (PySem.weight_type_call_type "set" [.ref l] []) rfl];have c1:=uP.notType;have c2:=uP.canCreate;have c3:=PySem.F.typeCall_set_1 (.ref l);repeat (any_goals first |assumption |wp_step)
 refine Ab (aeB (.ref l) (E:=E) (Q:=fun ob s1=>∃led:Bool,ob=.ref s.heap.objs.size/\s1={s with heap:=s.heap.push (oj led)}) fun led=>{(led),rfl,rfl}) fun r s1 hr=>?_;cases r with
 |error e=>exact hr|ok fl=>
  cases fl with
  |ret ob=>
   obtain⟨led,rfl,rfl⟩:=hr;have hS:(s.heap.push (oj led)).get? s.heap.objs.size=some (oj led):=Heap.get?_push_size _ rfl;have hT:Shared.TypeIs {s with heap:=s.heap.push (oj led)} (.ref s.heap.objs.size) "set":={_,hS,rfl};have c4:=uP.init.lookup;have c5:=uP.init.bind (.ref s.heap.objs.size);repeat (any_goals first |assumption |wp_step)
   refine Ab (codeAny_call_builtin (R:=wants (fun r s2=>r=.none/\∃h' tk,s2={s with heap:=h',toks:=tk}/\oK prog w h' s.heap.objs.size (gb val its.size)/\(∀b o,b<s.heap.objs.size->s.heap.get? b=some o->h'.get? b=some o)) E) uP.init.plain PySem.F.entry_set_init (PySem.check_set_init_1 hT ?_)) fun r2 s2 cD=>?_
   .obtain⟨ol,Qh,mO,nl,mP⟩:=hl;obtain⟨ap0,ajx,ap1,akN⟩:=ol;simp only at mO mP;subst mO mP;have af8:(s.heap.push (oj led)).get? l=some {cls:=.type "list",dict:=ajx,data:=.seq its nl,slots:=akN}:=Heap.get?_push_of_some _ Qh;have d1:=PySem.F.sub_list_set;have d2:=PySem.F.sub_list_frozenset;have d3:(Value.type "list"==Value.type "dict")=false:=by decide
    have hl1:(s.heap.push (oj led)).IsList l its:={_,af8,rfl,nl,rfl};unfold Builtin.«set.__init__» noKeywords;unfold Builtin.Frozenset.updateFrom;generalize hPI:Af=PI
    wp_walk
    subst hPI;refine Zv hl1 (bN (wpAny_runValue ?_));have P5:l<s.heap.objs.size:=Heap.lt_size Qh;have h3:A.in1.in1.in1.handled=none:=by simp[hh]
    have af6:l≠(s.heap.push (oj led)).objs.size:=by rw[Heap.size_push];exact jl (MD P5)
    have hSf:s.heap.objs.size ∉[(s.heap.push (oj led)).objs.size,l]:=by
     rw[Heap.size_push];intro z;rcases bw.mp z with z |z
     .exact aJ z (jl (gF _))
     have:s.heap.objs.size=l:=by simpa using z
     exact aJ this (ao4 P5)
    refine ahB ((Walks.list h3 _ l af6 its).toS) s.heap.objs.size hSf val hv hb (its.size-0) 0 _ (by lia) (dE _) {{_,Heap.get?_push_size _ rfl,rfl,rfl},(hl1.push _)} ?g0 ?gR;case g0=>have g:((s.heap.push (oj led)).push {cls:=.type "list_iterator",data:=.fields #[.ref l,.int 0 0]}).get? s.heap.objs.size=some (oj led):=Heap.get?_push_of_some _ hS;exact SetOf_congr ((setObjOf_fresh (knd:=strKind prog w) led).setOf g (by unfold D0;lia)) (fun _=>rfl) rfl
    case gR=>
     intro s' hm Hv;obtain⟨h',g',d',tk',JI⟩:=s';have eg:g'=s.gens:=hm.gens;have ed:d'=s.drawn:=hm.drawn;have eo:JI=s.os:=hm.os;subst eg ed eo;show aY _ _ _ _ _ _;refine cJ (show aY _ _ (ret Value.none) _ _ _ from cJ {rfl,h',tk',rfl,Hv,fun b o hb e=>?_});refine hm.heap b o ?_ (Heap.get?_push_of_some _ (Heap.get?_push_of_some _ e));intro z;rcases bw.mp z with z |z
     .exact aJ z (jl hb)
     have:b=(s.heap.push (oj led)).objs.size:=by simpa using z
     rw[Heap.size_push]at this;lia
   cases r2 with
   |error e=>exact cD|ok fl2=>
    cases fl2 with
    |ret r=>
     obtain⟨rfl,h',tk,rfl,Hv,yq⟩:=cD;repeat (any_goals first |assumption |wp_step)
     exact k _ _ Hv yq
    |_=>exact cD.elim
  |_=>exact hr.elim
end
def Ao(prog:cA)(w:ck)(p:U)(l:List ac):HO:=.ext fun h=>oK prog w h p l
def rQ(ns:List ac):List ac:=gb (fun i=>ns.getD i ⟨#[]⟩) ns.length
theorem am0:∀{ns:List ac} {us:List af} (i:Nat) (u:af),StrsAre us ns->us[i]?=some u->∃t,u=Value.str (ns.getD i ⟨#[]⟩) t:=by
 intro ns us i u h e;induction h generalizing i with
 |nil=>cases i<;>cases e|cons x t hs ih=>
  cases i with
  |zero=>injection e with e;subst e;exact{(t),rfl}
  |succ i=>exact ih i e
theorem abh{X:Cx}(hc:X.calm=true):kQ X (.type "set") (fun vs H Q=>∃(a:U) (ns:List ac),vs=[V.ref a]/\aB X.K H a (ns.map V.str)/\ns.length<4000/\∀p,H p=none->Q (.ref p) (_L.ae H p (Ao X.prog X.w p (rQ ns)))):=by
 intro pins s σ H vs us Q I r h;obtain⟨a,ns,rfl,hs,hn,q⟩:=h;obtain⟨its,rv,hl,hz⟩:=I.list hs;rw[bF.CU r];have hlen:its.length=ns.length:=by rw[←rv.length];simp
 have hsz:its.toArray.size=ns.length:=by simpa using hlen
 refine alz (its:=its.toArray) (val:=fun i=>ns.getD i ⟨#[]⟩) (I.ok.hd hc) hl.isList (fun i u e=>am0 i u rv.strs (by simpa using e)) (by rw[hsz];unfold D0;lia) fun h' tk hS hk=>?_;rw[hsz]at hS;refine{.ref _,_L.ae H s.heap.objs.size (Ao X.prog X.w s.heap.objs.size (rQ ns)),I.j8 (t':=tk) (fun b o e=>hk b o (Heap.lt_size e) e) (bR _) {hS,?_,fun h1 h2 p1 k1=>p1.at_ k1},rfl,q _ (I.aO.fresh (bR _))};obtain⟨o,es,ep,tb,ho,rest⟩:=hS;exact{(o),ho}
theorem abg{X:Cx}:kQ X (.builtin "len") (fun vs H Q=>∃(a:U) (l:List ac),vs=[V.ref a]/\H a=some (Ao X.prog X.w a l)/\l.length<4096/\Q (.int (l.length:Int)) H):=by intro pins s σ H vs us Q I r h;obtain⟨a,l,rfl,hs,hn,q⟩:=h;rw[bF.CU r];obtain⟨o,es,ep,tb,ho,hex,hd,e1,e2,e3,hf,e4⟩:=(I.aO a _ hs).1;have e4:es.size=l.length:=e4;refine PySem.call_len_set ho hex hd hf (by lia) ?_;rw[e4];exact{.int (l.length:Int),H,I.dZ _,{_,rfl},q}
end
theorem Jg(val:Nat->ac)(k:ac):∀i,(gb val i).any (· ==k)=true↔k∈(xl i).map val|0=>by simp[gb]|i+1=>by rw[gb,Oj,YV,dJ,cz,Mo,Jg val k i];simp
theorem RG(val:Nat->ac):∀i,(gb val i).length=i↔((xl i).map val).Nodup
 |0=>by simp[gb]|i+1=>by
  have ih:=RG val i;have le:=BK val i;rw[gb,EK,YV,dJ,jj];by_cases h:(gb val i).any (· ==val i)=true
  .rw[az h];have m:=(Jg val (val i) i).mp h;constructor
   .intro z;lia
   rintro ⟨_,_,q⟩;exact aJ rfl (q _ m _ (by simp))
  rw[ao h];have m:val i ∉(xl i).map val:=fun z=>h ((Jg val (val i) i).mpr z);constructor
  .intro z;refine{ih.mp (by lia),by simp,fun a ha b hb=>?_};have:b=val i:=by simpa using hb
   subst this;intro e;subst e;exact m ha
  rintro ⟨q,_,_⟩;have:=ih.mpr q;lia
theorem range_getD(ns:List ac):(xl ns.length).map (fun i=>ns.getD i ⟨#[]⟩)=ns:=by
 apply aoM;intro i;by_cases h:i<ns.length
 .simp[h]
 simp[h]
theorem aig(ns:List ac):(rQ ns).length=ns.length↔ns.Nodup:=by have:=RG (fun i=>ns.getD i ⟨#[]⟩) ns.length;rwa[range_getD]at this
theorem RE(ns:List ac):(rQ ns).length<=ns.length:=BK _ _
theorem yG{g:TG}{tt:TT}{te:TE}{vs:List Nat}{σ:_L.St}{H:Hp}{Qd:Hp->Prop}(ys:List V)(hD:H D=none)(hl:H a=some (.ag xs))(hn:xs.length=ys.length)(hz:ys.length<cp)
  (hs:∀(i:Nat) (x y:V) (H':Hp) (F:VK) (Z:Hp->Prop),xs[i]?=some x->ys[i]?=some y->aw H H'->(∀oI,aw H' oI->F y oI)->g x (cu σ vs) H' fun σ2 H2=>cu σ2 vs=cu σ vs/\tt σ2 H2 fun b H3=>if b=true then te σ2 H3 F else Z H3)
  (hd:∀H',aw H H'->H' D=some (.ag ys)->Qd H'):
  ∃W:Nat->Nat->Hp->Prop,(∃m,W 0 m (_L.ae H D (.ag [])))/\∀i m H,W i m H->((nE K a).cF i H/\Qd H)∨((nE K a).go i H/\∃Nx:Hp->Prop,(∀H',Nx H'->∃m',m'<m/\W (i+1) m' H')/\∀x H',(nE K a).lC i H x H'->g x (cu σ vs) H' fun σ2 H2=>cu σ2 vs=cu σ vs/\tt σ2 H2 fun b H3=>if b=true then te σ2 H3 fun y H4=>∃acc,H4 D=some (.ag acc)/\acc.length<cp/\Nx (_L.ae H4 D (.ag (acc++[y])))else Nx H3):=by
 refine Q8 (xs:=xs) (fun i H'=>aw H H'/\H' D=some (.ag (ys.take i))) {aw.new hD,by rw[ay];rfl} (fun i H' _ h=>aB.of (h.1 _ _ hl)) ?_ ?_
 .rintro i x H' hi ⟨s1,h1⟩;have bX:i<ys.length:=by rw[←hn];exact(fB.mp hi).1
  have hy:ys[i]?=some ys[i]:=gU bX;refine hs i x ys[i] H' _ _ hi hy s1 fun oI s2=>{_,s2 _ _ h1,by rw[nc];lia,fun b o e=>?_,?_}
  .rw[aj (aC e hD)];exact s2 b o (s1 b o e)
  rw[ay,jO,hy];rfl
 rintro H' ⟨s1,h1⟩;rw[hn,kJ]at h1;exact hd H' s1 h1
theorem Oo:∀l:List aa,distinct l=true↔l.Nodup|[]=>by simp[distinct]|x::l=>by rw[distinct,jJ,Oo l,gE];simp
theorem NL{b:aa}{a:dF}(h:gk wh b=some (a,z)):z.length+4<=b.length:=by
 rw[NK]at h;by_cases h0:bU b=[]
 .rw[az h0]at h;cases h
 rw[ao h0]at h;have l0:0<(bU b).length:=aoX.mpr h0;have l0':∀q,front [61,34] (b.drop (bU b).length)=some q->(bU b).length<=b.length:=fun q hq=>by have:=eU kE (lV hq);simp at this;lia
 cases hf:front [61,34] (b.drop (bU b).length)with
 |none=>rw[hf]at h;cases h|some q=>
  rw[hf]at h;simp?[bM]at h;have l1:=eU kE (lV hf);have l2:=l0' q hf;simp?[zS,cw,bJ,ox]at l1;cases hp:de wh ff q with
  |none=>rw[hp]at h;cases h|some v=>
   rw[hp]at h;simp?[bM]at h;cases hg:front [34] v.2 with
   |none=>rw[hg]at h;cases h|some z'=>
    rw[hg]at h;injection h with h
    injection h with _ h;subst h;have l3:=eU kE (lV hg);simp?[cw,bJ,ox]at l3;have l4:v.2.length<=q.length:=by
     by_cases hs:ff q=true
     .rw[zb hs]at hp;injection hp with hp;rw[←hp];exact bR _
     have hs:ff q=false:=by simpa using hs
     exact gi (KJ (ps:=v.1) (q:=v.2) hs hp)
    lia
theorem X4:∀(n:Nat) {b z:aa} {as:List dF} {e:Bool},b.length<=n->gh wh b=some (as,e,z)->5*as.length+z.length+1<=b.length
 |0,b,z,as,e,hn,h=>by have:b=[]:=jN.mp (by lia);subst this;rw[wU (by simp[front]) (by simp[front]) (by simp)]at h;cases h|n+1,b,z,as,e,hn,h=>by
  have ld:=(bB.dropWhile blank b).bu;cases h1:front [47,62] (b.dropWhile blank)with
  |some q=>
   rw[L6 h1]at h;injection h with h;injection h with h2 h3;injection h3 with _ h4
   subst h2 h4;have l:=eU kE (lV h1);simp at l⊢;lia
  |none=>
   cases h2:front [62] (b.dropWhile blank)with
   |some q=>
    rw[L9 h1 h2]at h;injection h with h;injection h with Hs h3;injection h3 with _ h4
    subst Hs h4;have l:=eU kE (lV h2);simp at l⊢;lia
   |none=>
    by_cases h3:(b.dropWhile blank).length=b.length
    .rw[wU h1 h2 h3]at h;cases h
    cases h4:gk wh (b.dropWhile blank)with
    |none=>rw[L7 h1 h2 h4]at h;cases h|some y=>
     obtain⟨x,q⟩:=y;rw[L8 h1 h2 h3 h4]at h;have l4:=NL h4;cases h5:gh wh q with
     |none=>rw[h5]at h;cases h|some y=>
      rw[h5]at h;have ih:=X4 n (b:=q) (z:=y.2.2) (as:=y.1) (e:=y.2.1) (by lia) h5;injection h with h;injection h with h6 h7
      injection h7 with _ h8;subst h6 h8;simp?[bJ];lia
theorem X0{b:aa}{e:Bool}(h:gS wh b=some (n,as,e,z)):5*as.length+z.length+2<=b.length:=by
 rw[L4]at h;by_cases h0:bU b=[]
 .rw[az h0]at h;cases h
 rw[ao h0]at h;have l0:0<(bU b).length:=aoX.mpr h0;cases h1:gh wh (b.drop (bU b).length)with
 |none=>rw[h1]at h;cases h|some y=>
  rw[h1]at h;have l:=X4 _ (b:=b.drop (bU b).length) (z:=y.2.2) (as:=y.1) (e:=y.2.1) (bR _) h1;injection h with h;injection h with _ h
  subst h;simp?[zS]at l;lia
theorem fO.gN:∀{l:List U} {m:List dF} {i:Nat} {a:U} {x:dF},fO t G l m->l[i]?=some a->m[i]?=some x->oE t G a x
 |a::l,x::m,0,_,_,h,e1,e2=>by injection e1 with e1;injection e2 with e2;subst e1 e2;exact h.1
 |a::l,x::m,i+1,_,_,h,e1,e2=>fO.gN h.2 e1 e2|[],[],i,_,_,_,e1,_=>by cases e1
 |[],_::_,_,_,_,h,_,_=>h.elim|_::_,[],_,_,_,h,_,_=>h.elim
theorem ajq{l:List aa}:(l.map fun b=>(⟨b.toArray⟩:ac)).Nodup↔l.Nodup:=by
 rw[aoG,YU];constructor<;>intro h<;>refine h.imp fun{a b} q z=>q ?_
 .rw[z]
 exact(sq a b).mp z
inductive LA(t:aE)(vs:List V)(H:Hp)(Q:VK)(E:XK):Prop|mk:∀lA adr as,vs=[.ref lA]->H lA=some (.ag (adr.map V.ref))->fO t H adr as->as.length<4000->(∀H',aw H H'->Q (.bl (!distinct (as.map oz))) H')->LA t vs H Q E
theorem Sw(T:Txt K mg t):aQ P w K mg base 1 t.GO Kq (LA t):=by
 exists T.acO,Li;obtain⟨lA,adr,as,rfl,hl,ha,hn,k⟩:=h;refine{_,au (aM (fw y4 (cN abg T.cK (SU (abh rfl) (by rfl) T.aaU aa6 (aq
  (qx (own:=[("attribute",1)]) (te:=kt K (dz 1) "name") rfl Li.nd (l8 (pv 0)) (oO (by rfl)) (fun _ _ _ _ _=>gq (i:=1) Li.nd rfl (bx rfl)) (fun _ _ _ _ _=>qy)
   (fun _ _ _ _ _=>pf 1)) aA))) (cN dH T.cK (pv 0)) (bD _))),?_}
 simp![bC];have la:=ha.bu;refine{_,rfl,lA,rfl,{_,aB.of hl},fun D hD=>yG (K:=K) (xs:=adr.map V.ref) ((as.map fun x=>(⟨x.1.toArray⟩:ac)).map V.str) hD hl (by simp[la]) (by simp?[bL];exact cx (by lia)) ?_ ?_}
 .intro i x y H' F Z hx hy s1 kF;rw[dQ]at hx;rw[ic,dQ]at hy;cases Ii:adr[i]? with
  |none=>rw[Ii]at hx;cases hx|some a=>
   cases Ij:as[i]? with
   |none=>rw[Ij]at hy;cases hy|some z=>
    rw[Ii]at hx;rw[Ij]at hy;injection hx with hx;injection hy with hy
    subst hx hy;obtain⟨dx,wA,e,_⟩:=fO.gN ha Ii Ij;simp![cu,je,s1 _ _ e];exact kF H' (aw.refl _)
 intro H' s1 qd;refine{_,rfl,as.map fun x=>(⟨x.1.toArray⟩:ac),aB.of qd,by simp?[bL];exact hn,fun p hp=>{_,rQ (as.map fun x=>(⟨x.1.toArray⟩:ac)),rfl,ay,?_,?_}}
 .have:=RE (as.map fun x=>(⟨x.1.toArray⟩:ac));simp?[bL]at this;lia
 have s2:=s1.trans (aw.new (o:=Ao P w p (rQ (as.map fun x=>(⟨x.1.toArray⟩:ac)))) hp);simp![];refine{_,.inl (aB.of (s2 _ _ hl)),?_};have:=k _ s2;have e:decide (((rQ (as.map fun x=>(⟨x.1.toArray⟩:ac))).length:Int)<((adr.map V.ref).length:Int))=!distinct (as.map oz):=by
  have h1:=aig (as.map fun x=>(⟨x.1.toArray⟩:ac));have h2:=RE (as.map fun x=>(⟨x.1.toArray⟩:ac));have h3:=Oo (as.map oz);have h4:(as.map fun x=>(⟨x.1.toArray⟩:ac)).Nodup↔(as.map oz).Nodup:=by have:=ajq (l:=as.map oz);rwa[ic]at this
  rw[bL]at h1 h2⊢;rw[la];cases PP:distinct (as.map oz)with
  |true=>have:=h1.mpr (h4.mpr (h3.mp PP));simp;lia|false=>
   have:¬(rQ (as.map fun x=>(⟨x.1.toArray⟩:ac))).length=as.length:=fun z=>by have:=h3.mpr (h4.mp (h1.mp z));rw[PP]at this;cases this
   simp;lia
 simp![];rw[e];exact this
inductive WY(t:aE)(vs:List V)(H:Hp)(Q:VK)(E:XK):Prop|mk:∀a dx k n,vs=[.ref a,S k,S n]->H a=some (.am t.cW dx [])->(∀H' l,ah (· =a) H H'->H l=none->H' a=some (.am t.cW dx (cG (S k) (S n) (.ref l) .aN (.int 0)))->H' l=some (.ag [])->Q .aN H')->WY t vs H Q E
theorem uh(T:Txt K mg t):aQ P w K mg base 1 t.FM Ch (WY t):=by
 exists T.abZ,amb;obtain⟨a,dx,kd,n,rfl,e,k⟩:=h;refine{_,ak (bT (pv 0) (pv 1) rfl) (ak (bT (pv 0) (pv 2) rfl) (ak (bT (pv 0) (fc aA) rfl) (ak (bT (pv 0) oo rfl) (au (bT (pv 0) bV rfl))))),?_};simp![e,ay,gT,OW,eT,dE];intro l hl;have ea:_L.ae H a (.am t.cW dx [("kind",S kd),("name",S n)]) a=some (.am t.cW dx [("kind",S kd),("name",S n)]):=ay;have n1:a≠l:=aC ea hl;have HK:H l=none:=by rwa[aj n1.symm]at hl
 simp![aj n1,ea,ay,gT,OW,eT];refine k _ l ((ah.here.trans (ah.new hl)).trans ah.here) HK ay ?_;rw[aj n1.symm,ay]
inductive Xl(t:aE)(vs:List V)(H:Hp)(Q:VK)(E:XK):Prop|mk:∀a dx,vs=[.ref a]->H a=some (.am t.g9 dx [])->(∀H' p u,ah (· =a) H H'->H p=none->H u=none->p≠u->H' a=some (.am t.g9 dx (gl (.ref p) (.int 0) (.ref u)))->H' p=some (.ag [])->H' u=some (.ag [])->Q .aN H')->Xl t vs H Q E
theorem ajK(T:Txt K mg t):aQ P w K mg base 1 t.Gu Ct (Xl t):=by
 exists T.acu,amm;obtain⟨a,dx,rfl,e,k⟩:=h;refine{_,ak (bT (pv 0) (fc aA) rfl) (ak (bT (pv 0) bV rfl) (au (bT (pv 0) (fc aA) rfl))),?_};simp![e,dE];intro p hp;have n1:a≠p:=aC e hp;simp![aj n1,e,ay,gT,OZ,eT,dE];intro u hu;generalize lW:_L.ae (_L.ae H p (HO.ag [])) a (HO.am t.g9 dx [(Str.ofString "parts",V.ref p),(Str.ofString "depth",V.int 0)])=H2 at hu⊢;have ea:H2 a=some (HO.am t.g9 dx [(Str.ofString "parts",V.ref p),(Str.ofString "depth",V.int 0)]):=by rw[←lW,ay]
 have ep:H2 p=some (HO.ag []):=by rw[←lW,aj n1.symm,ay]
 have b2:ah (· =a) H H2:=by rw[←lW];exact(ah.new hp).trans ah.here
 have n2:a≠u:=aC ea hu;have hun:H u=none:=by cases hx:H u with|none=>rfl|some o=>rw[b2 u o n2.symm hx]at hu;cases hu
 simp![aj n2,ea,OZ,eT];refine k _ p u ((b2.trans (ah.new hu)).trans ah.here) hp hun (aC ep hu) ay ?_ ?_
 .rw[aj n1.symm,aj (aC ep hu),ep]
 rw[aj n2.symm,ay]
section
noncomputable def kindOf:MP->aa
 |.aS _ _=>[111,112,101,110,105,110,103]|.cls _=>[99,108,111,115,105,110,103]
 |.bE _=>[116,101,120,116]|.aU h _=>[123,h]
 |.fin=>[123,47]|.use _=>[123,62]
def dI:MP->aa
 |.aS n _=>n|.cls n=>n
 |.bE _=>[]|.aU _ n=>n
 |.fin=>[]|.use n=>n
def iW:MP->List dF|.aS _ a=>a|_=>[]
def Dy:MP->Option (List eF)|.bE l=>some l|_=>none
def told:MP->Bool
 |.aU _ _=>true|.fin=>true
 |_=>false
open Classical in
noncomputable def br(G H:Hp)(M:U->Prop):Hp:=fun b=>if G b=none/\¬ M b then H b else none
theorem A5{M:U->Prop}:br G H M b=some o↔G b=none/\¬ M b/\H b=some o:=by
 unfold br;split
 .rename_i h;exact{fun e=>{(h.1),h.2,e},fun e=>e.2.2}
 rename_i h;exact{fun e=>(by cases e),fun e=>aJ {(e.1),e.2.1} h}
theorem vI{M M':U->Prop}(h:∀b o,G b=none->¬ M b->H b=some o->¬ M' b/\H' b=some o):aw (br G H M) (br G H' M'):=fun b o e=>by rw[A5]at e⊢;obtain⟨h1,h2⟩:=h b o e.1 e.2.1 e.2.2;exact{(e.1),h1,h2}
theorem tL{M:U->Prop}(h:ah M H H'):aw (br G H M) (br G H' M):=vI fun b o _ m e=>{m,h b o m e}
def Mu(tp pl ul:U)(ps:List U):U->Prop:=fun b=>b=tp∨b=pl∨b=ul∨b∈ps
def WV(t:aE)(N:Hp)(wv:V):Option (List eF)->Prop|none=>wv=.aN|some l=>∃w,wv=.ref w/\qR t N w l
theorem WV.mono{wv:V}(s:aw N N'):∀{o:Option (List eF)},WV t N wv o->WV t N' wv o|none,h=>h|some l,⟨w,e,h⟩=>{w,e,h.mono s}
inductive sT(t:aE)(N:Hp)(o:HO)(x:MP×Nat):Prop|mk:∀dx lA adr wv,∀(pk:Nat),o=.am t.cW dx (cG (S (kindOf x.1)) (S (dI x.1)) (.ref lA) wv (.int (pk:Int)))->N lA=some (.ag (adr.map V.ref))->fO t N adr (iW x.1)->WV t N wv (Dy x.1)->(told x.1=true->pk=x.2)->sT t N o x
theorem sT.mono{x:MP×Nat}(h:sT t N o x)(s:aw N N'):sT t N' o x:=by obtain⟨dx,lA,adr,wv,pk,e,h1,h2,h3,h4⟩:=h;exact{dx,lA,adr,wv,pk,e,s _ _ h1,h2.mono s,h3.mono s,h4}
inductive fS(t:aE)(N H:Hp)(a:U)(x:MP×Nat):Prop|mk:∀o,H a=some o->sT t N o x->fS t N H a x
structure cQ(t:aE)(G H:Hp)(tp pA uA:U)(ts:TS)(pa ps:List U):Prop where
 ob:∃dx,H tp=some (.am t.g9 dx (gl (.ref pA) (.int (ts.depth:Int)) (.ref uA)))
 pl:H pA=some (.ag (pa.map V.ref))
 ul:H uA=some (.ag (vi ts.un.reverse))
 ne:pA≠uA
 bu:pa.length=ts.parts.length
 at_:∀(i:Nat) (a:U) (x:MP×Nat),pa[i]?=some a->ts.parts[i]?=some x->fS t (br G H (Mu tp pA uA ps)) H a x
 nd:pa.Nodup
 sub:∀a∈pa,a∈ps
 fr:∀b,Mu tp pA uA ps b->G b=none
 dn:bI G H
 lv:∀b∈ps,∃dx v0 v1 v2 v3 v4,H b=some (.am t.cW dx (cG v0 v1 v2 v3 v4))
 un:∀u∈ts.un,u<ts.parts.length
theorem cQ.kj(h:cQ t G H tp pl ul ts pa ps)(m:b∈ps):b≠tp/\b≠pl/\b≠ul:=by obtain⟨dx,v0,v1,v2,v3,v4,e⟩:=h.lv b m;obtain⟨dt,et⟩:=h.ob;refine{cr e et (by intro z;injection z with _ _ z;have:=eU kE z;simp[cG,gl]at this),cr e h.pl (by intro z;cases z),cr e h.ul (by intro z;cases z)}
theorem cQ.yR(h:cQ t G H tp pl ul ts pa ps):tp≠pl/\tp≠ul:=by obtain⟨dt,et⟩:=h.ob;exact{cr et h.pl (by intro z;cases z),cr et h.ul (by intro z;cases z)}
theorem cQ.step(h:cQ t G H tp pl ul ts pa ps)(k:∀b o,G b=none->H b=some o->H' b=some o)(D:bI G H'):cQ t G H' tp pl ul ts pa ps:=by
 obtain⟨dt,et⟩:=h.ob;have s:aw (br G H (Mu tp pl ul ps)) (br G H' (Mu tp pl ul ps)):=vI fun b o g m e=>{m,k b o g e};refine{{dt,k _ _ (h.fr _ (.inl rfl)) et},k _ _ (h.fr _ (.inr (.inl rfl))) h.pl,k _ _ (h.fr _ (.inr (.inr (.inl rfl)))) h.ul,h.ne,h.bu,fun i a x e1 e2=>?_,h.nd,h.sub,h.fr,D,fun b m=>?_,h.un}
 .obtain⟨o,e,p⟩:=h.at_ i a x e1 e2;exact{o,k _ _ (h.fr _ (.inr (.inr (.inr (h.sub a (fh e1)))))) e,p.mono s}
 obtain⟨dx,v0,v1,v2,v3,v4,e⟩:=h.lv b m;exact{dx,v0,v1,v2,v3,v4,k _ _ (h.fr _ (.inr (.inr (.inr m)))) e}
theorem cQ.more(h:cQ t G H tp pl ul ts pa ps)(s:aw H H')(D:bI G H')(na:H a=none)(ea:∃dx v0 v1 v2 v3 v4,H' a=some (.am t.cW dx (cG v0 v1 v2 v3 v4))):cQ t G H' tp pl ul ts pa (a::ps):=by
 have h':=h.step (fun b o _ e=>s b o e) D;have sm:aw (br G H (Mu tp pl ul ps)) (br G H' (Mu tp pl ul (a::ps))):=vI fun b o g m e=>⟨fun z=>by
  rcases z with z |z |z |z
  .exact m (.inl z)
  .exact m (.inr (.inl z))
  .exact m (.inr (.inr (.inl z)))
  rcases bw.mp z with z |z
  .rw[z,na]at e;cases e
  exact m (.inr (.inr (.inr z))),s b o e⟩
 refine{h'.ob,h'.pl,h'.ul,h'.ne,h'.bu,fun i b x e1 e2=>?_,h'.nd,fun b m=>dq _ (h'.sub b m),fun b z=>?_,D,fun b m=>?_,h'.un}
 .obtain⟨o,e,p⟩:=h.at_ i b x e1 e2;exact{o,s _ _ e,p.mono sm}
 .rcases z with z |z |z |z
  .exact h.fr b (.inl z)
  .exact h.fr b (.inr (.inl z))
  .exact h.fr b (.inr (.inr (.inl z)))
  rcases bw.mp z with z |z
  .rw[z];exact h.dn a na
  exact h.fr b (.inr (.inr (.inr z)))
 rcases bw.mp m with z |z
 .rwa[z]
 exact h'.lv b z
theorem cQ.write{v0 v1 v2 v3 v4:V}(h:cQ t G H tp pl ul ts pa ps)(ma:a∈ps)(na:a ∉ pa):cQ t G (_L.ae H a (.am t.cW dx (cG v0 v1 v2 v3 v4))) tp pl ul ts pa ps:=by
 obtain⟨n1,n2,n3⟩:=h.kj ma;have b:ah (Mu tp pl ul ps) H (_L.ae H a (.am t.cW dx (cG v0 v1 v2 v3 v4))):=ah.ae (.inr (.inr (.inr ma)));obtain⟨dt,et⟩:=h.ob;refine{{dt,by rw[aj n1.symm];exact et},by rw[aj n2.symm];exact h.pl,by rw[aj n3.symm];exact h.ul,h.ne,h.bu,fun i c x e1 e2=>?_,h.nd,h.sub,h.fr,h.dn.ae,fun c m=>?_,h.un}
 .obtain⟨o,e,p⟩:=h.at_ i c x e1 e2;have hne:c≠a:=fun z=>by subst z;exact na (fh e1)
  exact{o,by rw[aj hne];exact e,p.mono (tL b)}
 by_cases hc:c=a
 .subst hc;exact{(dx),v0,v1,v2,v3,v4,ay}
 obtain⟨d',w0,w1,w2,w3,w4,e⟩:=h.lv c m;exact{d',w0,w1,w2,w3,w4,by rw[aj hc];exact e}
theorem fS.ae{M:U->Prop}{c:U}{x:MP×Nat}(h:fS t (br G H M) H a x)(m:M c)(n:a≠c):fS t (br G (_L.ae H c o) M) (_L.ae H c o) a x:=by obtain⟨u,e,p⟩:=h;exact{u,by rw[aj n];exact e,p.mono (tL (ah.ae m))}
theorem cQ.zA{un:List Nat}(h:cQ t G H tp pl ul ts pa ps)(hu:∀u∈un,u<ts.parts.length):cQ t G (_L.ae H ul (.ag (vi un.reverse))) tp pl ul {ts with un:=un} pa ps:=by
 obtain⟨m1,m2⟩:=h.yR;obtain⟨dt,et⟩:=h.ob;refine{{dt,by rw[aj m2];exact et},by rw[aj h.ne];exact h.pl,ay,h.ne,h.bu,fun i c y e1 e2=>?_,h.nd,h.sub,h.fr,h.dn.ae,fun c m=>?_,hu}
 .exact(h.at_ i c y e1 e2).ae (.inr (.inr (.inl rfl))) (h.kj (h.sub c (fh e1))).2.2
 obtain⟨dx,v0,v1,v2,v3,v4,e⟩:=h.lv c m;exact{dx,v0,v1,v2,v3,v4,by rw[aj (h.kj m).2.2];exact e}
theorem cQ.tq{dt:U}{d:Nat}(h:cQ t G H tp pl ul ts pa ps):cQ t G (_L.ae H tp (.am t.g9 dt (gl (.ref pl) (.int (d:Int)) (.ref ul)))) tp pl ul {ts with depth:=d} pa ps:=by
 obtain⟨m1,m2⟩:=h.yR;refine{{(dt),ay},by rw[aj m1.symm];exact h.pl,by rw[aj m2.symm];exact h.ul,h.ne,h.bu,fun i c y e1 e2=>?_,h.nd,h.sub,h.fr,h.dn.ae,fun c m=>?_,h.un}
 .exact(h.at_ i c y e1 e2).ae (.inl rfl) (h.kj (h.sub c (fh e1))).1
 obtain⟨dx,v0,v1,v2,v3,v4,e⟩:=h.lv c m;exact{dx,v0,v1,v2,v3,v4,by rw[aj (h.kj m).1];exact e}
theorem cQ.push{x:MP×Nat}(h:cQ t G H tp pl ul ts pa ps)(ma:a∈ps)(na:a ∉ pa)(p:fS t (br G H (Mu tp pl ul ps)) H a x):
  cQ t G (_L.ae H pl (.ag (pa.map V.ref++[V.ref a]))) tp pl ul {ts with parts:=ts.parts++[x]} (pa++[a]) ps:=by
 obtain⟨m1,m2⟩:=h.yR;obtain⟨dt,et⟩:=h.ob;refine{{dt,by rw[aj m1];exact et},?_,by rw[aj h.ne.symm];exact h.ul,h.ne,by simp[h.bu],fun i c y e1 e2=>?_,?_,fun c m=>?_,h.fr,h.dn.ae,fun c m=>?_,fun u m=>?_}
 .rw[ay,dJ];rfl
 .have e2:(ts.parts++[x])[i]?=some y:=e2;by_cases hi:i<pa.length
  .rw[xg hi]at e1;rw[xg (by rwa[←h.bu])]at e2;exact(h.at_ i c y e1 e2).ae (.inr (.inl rfl)) (h.kj (h.sub c (fh e1))).2.1
  have HH:i=pa.length:=by have:=(fB.mp e1).1;simp at this;lia
  subst HH;rw[h.bu]at e2;have e3:c=a:=by simpa using e1.symm
  have e4:y=x:=by simpa using e2.symm
  subst e3 e4;exact p.ae (.inr (.inl rfl)) (h.kj ma).2.1
 .rw[jj];refine{h.nd,by simp,fun c hc e he=>?_};have:e=a:=by simpa using he
  rw[this];exact fun z=>na (z▸hc)
 .rcases cz.mp m with m |m
  .exact h.sub c m
  have:c=a:=by simpa using m
  rwa[this]
 .obtain⟨dx,v0,v1,v2,v3,v4,e⟩:=h.lv c m;exact{dx,v0,v1,v2,v3,v4,by rw[aj (h.kj m).2.1];exact e}
 have:=h.un u m;simp;lia
theorem cQ.am8{u:Nat}{x:MP×Nat}(h:cQ t G H tp pl ul ts pa ps)(ea:pa[u]?=some a)(ex:ts.parts[u]?=some x):
  ∃dx v0 v1 v2 v3 v4,H a=some (.am t.cW dx (cG v0 v1 v2 v3 v4))/\cQ t G (_L.ae H a (.am t.cW dx (cG v0 v1 v2 v3 (.int (k:Int))))) tp pl ul {ts with parts:=gg ts.parts u k} pa ps:=by
 have ma:=h.sub a (fh ea);obtain⟨n1,n2,n3⟩:=h.kj ma;obtain⟨o,e,dx,lA,adr,wv,pk,rfl,h1,h2,h3,h4⟩:=h.at_ u a x ea ex;refine{dx,_,_,_,_,_,e,?_};have b:ah (Mu tp pl ul ps) H (_L.ae H a (.am t.cW dx (cG (S (kindOf x.1)) (S (dI x.1)) (.ref lA) wv (.int (k:Int))))):=ah.ae (.inr (.inr (.inr ma)));obtain⟨dt,et⟩:=h.ob;obtain⟨g1,g2,g3⟩:=Ls (k:=k) ex;refine⟨{dt,by rw[aj n1.symm];exact et},by rw[aj n2.symm];exact h.pl,by rw[aj n3.symm];exact h.ul,h.ne,by rw[h.bu];exact g3.symm,fun i c y e1 e2=>?_,h.nd,h.sub,h.fr,h.dn.ae,fun c m=>?_,fun v m=>by have:=h.un v m;show v<(gg ts.parts u k).length;lia⟩
 .by_cases hi:i=u
  .subst hi;rw[ea]at e1;injection e1 with e1;subst e1
   have e2:(gg ts.parts i k)[i]?=some y:=e2;rw[g1]at e2;injection e2 with e2;subst e2
   exact{_,ay,sT.mono {dx,lA,adr,wv,k,rfl,h1,h2,h3,fun _=>rfl} (tL b)}
  have e2:(gg ts.parts u k)[i]?=some y:=e2;rw[g2 i hi]at e2;obtain⟨o,e',q⟩:=h.at_ i c y e1 e2;refine{o,?_,q.mono (tL b)};rw[aj (fun z=>hi ?_)]
  .exact e'
  subst z;obtain⟨l1,q1⟩:=fB.mp e1;obtain⟨l2,q2⟩:=fB.mp ea;exact(aoV h.nd).mp (q1.trans q2.symm)
 by_cases hc:c=a
 .subst hc;exact{dx,_,_,_,_,_,ay}
 obtain⟨d',w0,w1,w2,w3,w4,e'⟩:=h.lv c m;exact{d',w0,w1,w2,w3,w4,by rw[aj hc];exact e'}
end
def TQ(t:aE)(G H:Hp)(tp pA uA:U)(pa ps:List U)(Q:VK)(v:V)(ts:TS):Prop:=∀H',ah (Mu tp pA uA ps) H H'->cQ t G H' tp pA uA ts pa ps->Q v H'
inductive Wf(t:aE)(vs:List V)(H:Hp)(Q:VK)(E:XK):Prop|mk:∀G tp pA uA ts pa ps a mp,vs=[.ref tp,.ref a]->cQ t G H tp pA uA ts pa ps->a∈ps->a ∉ pa->fS t (br G H (Mu tp pA uA ps)) H a (mp,0)->ts.parts.length<100000->ts.un.length<100000->TQ t G H tp pA uA (pa++[a]) ps Q .aN (gJ ts mp)->Wf t vs H Q E
theorem Sd(T:Txt K mg t):aQ P w K mg base 1 t.Gr Cs (Wf t):=by
 exists T.acr,aml;obtain⟨G,tp,pA,uA,ts,pa,ps,a,mp,rfl,M,ma,na,hp,hl,hu,k⟩:=h;obtain⟨dt,e⟩:=M.ob;refine{_,ak (cj (fb ej iE iF h9 (pf 0) (aq (cN dH T.cK (pf 0)) aA)))
  (ak (cj (fb ej iE iF h9 (pf 0) (aq (pv 1) aA)))
  (au (bT (pv 0) (mU (abb rfl) (by rfl) T.aaS aa4 (aq (pf 0) (aq (cN dH T.cK (pf 0)) aA))) rfl))),?_}
 obtain⟨m1,m2⟩:=M.yR;simp![e];refine{.inl {rfl,_,aB.of M.ul},_,.inl (aB.of M.pl),uA,_,_,rfl,rfl,M.ul,by rw[vi,bL,zT];exact cx (by lia),?_};have e1:=e;simp![aj m2,e];have hpl:_L.ae H uA (.ag (vi ts.un.reverse++[V.int ((pa.map V.ref).length:Int)])) pA=some (.ag (pa.map V.ref)):=by rw[aj M.ne];exact M.pl
 refine{.inl {rfl,_,aB.of hpl},pA,_,_,rfl,rfl,hpl,by rw[bL,M.bu];exact cx (by lia),?_};simp![aj m1,aj m2,e];refine{_,.inl (aB.of (by rw[aj M.ne.symm,ay])),?_};simp![aj m1,aj m2,e];have j:=((M.zA (un:=ts.un) M.un).push ma na (x:=(mp,0)) (hp.ae (.inr (.inr (.inl rfl))) (M.kj ma).2.2));have j2:cQ t G (_L.ae (_L.ae (_L.ae H uA (.ag (vi ts.un.reverse))) pA (.ag (pa.map V.ref++[V.ref a]))) uA (.ag (vi (ts.parts.length::ts.un).reverse))) tp pA uA {ts.parts++[(mp,0)],ts.parts.length::ts.un,ts.depth} (pa++[a]) ps:=by
  refine j.zA (un:=ts.parts.length::ts.un) fun u m=>?_;rcases bw.mp m with m |m
  .rw[m];simp
  have:=M.un u m;simp;lia
 have j3:=j2.tq (dt:=dt) (d:=max ts.depth (ts.un.length+1));have eh:_L.ae (_L.ae (_L.ae H uA (.ag (vi ts.un.reverse))) pA (.ag (pa.map V.ref++[V.ref a]))) uA (.ag (vi (ts.parts.length::ts.un).reverse))=_L.ae (_L.ae H uA (.ag (vi ts.un.reverse++[V.int ((pa.map V.ref).length:Int)]))) pA (.ag (pa.map V.ref++[V.ref a])):=by
  funext b;by_cases h1:b=uA
  .subst h1;rw[ay,aj M.ne.symm,ay];simp[vi,M.bu]
  rw[aj h1];by_cases h2:b=pA
  .subst h2;rw[ay,ay]
  rw[aj h2,aj h2,aj h1,aj h1]
 rw[eh]at j3;have ed:(if (((vi ts.un.reverse++[V.int ((pa.map V.ref).length:Int)]).length:Nat):Int)>(ts.depth:Int)then (((vi ts.un.reverse++[V.int ((pa.map V.ref).length:Int)]).length:Nat):Int)else (ts.depth:Int))=((max ts.depth (ts.un.length+1):Nat):Int):=by
  have:(vi ts.un.reverse++[V.int ((pa.map V.ref).length:Int)]).length=ts.un.length+1:=by simp[vi]
  rw[this];split<;>lia
 rw[ed];exact k _ (((ah.ae (.inr (.inr (.inl rfl)))).trans (ah.ae (.inr (.inl rfl)))).trans (ah.ae (.inl rfl))) j3
def vw(ts:TS)(mp:MP)(u:Nat)(us:List Nat):TS:={gg ts.parts u ts.parts.length++[(mp,u)],us,ts.depth}
inductive Wx(t:aE)(vs:List V)(H:Hp)(Q:VK)(E:XK):Prop|mk:∀G tp pA uA ts pa ps a mp u us,vs=[.ref tp,.ref a]->cQ t G H tp pA uA ts pa ps->a∈ps->a ∉ pa->fS t (br G H (Mu tp pA uA ps)) H a (mp,0)->ts.parts.length<100000->(ts.un=u::us)->TQ t G H tp pA uA (pa++[a]) ps Q .aN (vw ts mp u us)->Wx t vs H Q E
theorem JB(T:Txt K mg t):aQ P w K mg base 1 t.Gs Kg (Wx t):=by
 exists T.acs,VV;obtain⟨G,tp,pA,uA,ts,pa,ps,a,mp,u,us,rfl,M,ma,na,hp,hl,hu,k⟩:=h;obtain⟨dt,e⟩:=M.ob;refine{_,ak (bT (pv 1) (zc ej DO DP yJ (pf 0)) rfl)
  (ak (b9 (i:=2) VV.nd rfl (bx rfl) (dY eN (pf 0) (pf 1) (fun _ _=>rfl)))
  (ak (bT (pv 2) (cN dH T.cK (pf 0)) rfl)
  (au (cj (fb ej iE iF h9 (pf 0) (aq (pv 1) aA)))))),?_}
 obtain⟨m1,m2⟩:=M.yR;obtain⟨n1,n2,n3⟩:=M.kj ma;have n9:=M.ul;rw[hu]at n9;have rH:(vi (u::us).reverse)[(vi (u::us).reverse).length-1]?=some (V.int (u:Int)):=by simp[vi]
 have mP:(vi (u::us).reverse).dropLast=vi us.reverse:=by simp[vi]
 have bX:u<ts.parts.length:=M.un u (by rw[hu];simp);obtain⟨b,hb⟩:∃b,pa[u]?=some b:={pa[u]'(by rwa[M.bu]),gU _};obtain⟨x,hx⟩:∃x,ts.parts[u]?=some x:={ts.parts[u],gU bX};obtain⟨o,ea,dx,lA,adr,wv,pk,rfl,h1,h2,h3,h4⟩:=hp;simp![e];refine{.inl {rfl,_,aB.of n9},uA,_,_,rfl,rfl,n9,rH,?_};rw[mP];simp![aj n3,ea];have M1:=(M.zA (un:=us) fun v m=>M.un v (by rw[hu];simp[m]));have M2:=M1.write (dx:=dx) (v0:=S (kindOf mp)) (v1:=S (dI mp)) (v2:=.ref lA) (v3:=wv) (v4:=.int (u:Int)) ma na;have b2:ah (Mu tp pA uA ps) H _:=(ah.ae (H:=H) (o:=.ag (vi us.reverse)) (.inr (.inr (.inl rfl)))).trans (ah.ae (a:=a) (o:=.am t.cW dx (cG (S (kindOf mp)) (S (dI mp)) (.ref lA) wv (.int (u:Int)))) (.inr (.inr (.inr ma))));generalize lW:_L.ae (_L.ae H uA (.ag (vi us.reverse))) a (.am t.cW dx (cG (S (kindOf mp)) (S (dI mp)) (.ref lA) wv (.int (u:Int))))=H2 at M2 b2⊢;have tF:H2 a=some (.am t.cW dx (cG (S (kindOf mp)) (S (dI mp)) (.ref lA) wv (.int (u:Int)))):=by rw[←lW,ay]
 have p2:fS t (br G H2 (Mu tp pA uA ps)) H2 a (mp,u):={_,tF,sT.mono {dx,lA,adr,wv,u,rfl,h1,h2,h3,fun _=>rfl} (tL b2)};have vL:a≠b:=fun z=>na (by rw[z];exact fh hb);have HA:=M.sub b (fh hb);obtain⟨r1,r2,r3⟩:=M.kj HA;obtain⟨oQ,w0,w1,w2,w3,w4,eb,M3⟩:=M2.am8 (k:=ts.parts.length) hb hx;obtain⟨dt2,e2⟩:=M2.ob;simp![e2,tF];refine{pA,_,_,_,rfl,rfl,aB.of M2.pl,lO (by rw[dQ,hb];rfl),?_};simp![e2];refine{_,.inl (aB.of M2.pl),?_};have el:(pa.map V.ref).length=ts.parts.length:=by rw[bL,M.bu]
 rw[el];simp![eb];have b3:ah (Mu tp pA uA ps) H2 _:=ah.ae (a:=b) (o:=.am t.cW oQ (cG w0 w1 w2 w3 (.int (ts.parts.length:Int)))) (.inr (.inr (.inr HA)));have p3:=p2.ae (o:=.am t.cW oQ (cG w0 w1 w2 w3 (.int (ts.parts.length:Int)))) (.inr (.inr (.inr HA))) vL;generalize _L.ae H2 b (.am t.cW oQ (cG w0 w1 w2 w3 (.int (ts.parts.length:Int))))=H3 at M3 b3 p3⊢;obtain⟨Ox,e3⟩:=M3.ob;simp![e3];refine{.inl {rfl,_,aB.of M3.pl},pA,_,_,rfl,rfl,M3.pl,by rw[bL,M.bu];exact cx (by lia),?_};exact k _ ((b2.trans b3).trans (ah.ae (.inr (.inl rfl)))) (M3.push ma na p3)
theorem Yd{u:Nat}{us:List Nat}(M:cQ t G H tp pA uA ts pa ps)(hu:ts.un=u::us):∃a x,pa[u]?=some a/\ts.parts[u]?=some x/\ts.aX=some x.1/\fS t (br G H (Mu tp pA uA ps)) H a x:=by have bX:u<ts.parts.length:=M.un u (by rw[hu];simp);have hb:pa[u]?=some (pa[u]'(by rwa[M.bu])):=gU _;have hx:ts.parts[u]?=some ts.parts[u]:=gU bX;exact{_,_,hb,hx,by simp[TS.aX,hu,hx],M.at_ u _ _ hb hx}
inductive WN(t:aE)(vs:List V)(H:Hp)(Q:VK)(E:XK):Prop|mk:∀G tp pA uA ts pa ps n,vs=[.ref tp,S n]->cQ t G H tp pA uA ts pa ps->Q (.bl (j6 ts n)) H->WN t vs H Q E
theorem ahk(mp:MP)(n:aa):decide (S (kindOf mp)=V.str "opening")=(match mp with |.aS _ _=>true |_=>false):=by have:V.str "opening"=S [111,112,101,110,105,110,103]:=rfl;rw[this];cases mp with|aS n a=>simp[kindOf]|_=>exact dM fun z=>aJ (lL z) (by simp[kindOf])
theorem aj8(T:Txt K mg t):aQ P w K mg base 1 t.Gw Kh (WN t):=by
 exists T.acw,VW;obtain⟨G,tp,pA,uA,ts,pa,ps,n,rfl,M,k⟩:=h;obtain⟨dt,e⟩:=M.ob;refine{_,ak (bA (cg cV (cN dH T.cK (pf 0)) bV (bD _)) (au (aM dX)) bH)
  (ak (b9 (i:=2) VW.nd rfl (bx rfl) (dY eN (pf 0) (dY eN (pf 0) (r6 sr bV) (fun _ _=>rfl)) (fun _ _=>rfl)))
  (au (aM (wu (fw cV (pf 2) (gf T.CY) (bD _)) (oq (fw cV (pf 2) (pv 1) (bD _))))))),?_}
 simp![e];refine{_,.inl (aB.of M.ul),?_};cases hu:ts.un with
 |nil=>
  simp![e];rw[az (by simp[vi])];have:j6 ts n=false:=by simp[j6,TS.aX,hu]
  rwa[this]at k
 |cons u us=>
  simp![e];rw[ao (by simp[vi];lia)];have n9:=M.ul;rw[hu]at n9;obtain⟨a,x,ha,hx,Ic,o,ea,dx,lA,adr,wv,pk,rfl,_⟩:=Yd M hu;have HL:iV (vi (u::us).reverse) (-1)=some (V.int (u:Int)):=by
   have:vi (u::us).reverse=vi us.reverse++[V.int (u:Int)]:=by simp[vi]
   rw[this];exact vd _ _
  simp![e];refine{uA,_,_,_,rfl,rfl,aB.of n9,HL,pA,_,_,_,rfl,rfl,aB.of M.pl,lO (by rw[dQ,ha];rfl),?_};simp![ea];refine{rfl,?_};simp![ea];have hk:=ahk x.1 n;have fq:j6 ts n=(match x.1 with |.aS m _=>m==n |_=>false):=by unfold j6;rw[Ic];cases x.1<;>rfl
  rw[fq]at k;generalize x.1=mp at hk k ea⊢;cases mp with
  |aS m as=>
   rw[az (of_decide_eq_true hk)];simp![ea];refine{rfl,?_};have:decide (S m=S n)=(m==n):=by
    by_cases h:m=n
    .subst h;simp
    rw[dM (fun z=>h (lL z))];simp[h]
   rwa[show dI (.aS m as)=m from rfl,this]
  |_=>rwa[ao (of_decide_eq_false hk)]
inductive WM(t:aE)(vs:List V)(H:Hp)(Q:VK)(E:XK):Prop|mk:∀G tp pA uA ts pa ps,vs=[.ref tp]->cQ t G H tp pA uA ts pa ps->(∀x∈ts.parts,∀h n,x.1=.aU h n->h=63∨h=33∨h=42)->Q (.bl (j5 ts)) H->WM t vs H Q E
def BD:MP->Bool|.aU _ _=>true|_=>false
theorem QM(mp:MP)(hb:∀h n,mp=.aU h n->h=63∨h=33∨h=42):qj (S (kindOf mp)) [V.str "{?",V.str "{!",V.str "{*"]=BD mp:=by
 cases mp with
 |aU h n=>rcases hb h n rfl with rfl |rfl |rfl<;>rfl
 |_=>rfl
theorem aj7(T:Txt K mg t):aQ P w K mg base 1 t.Gv Cu (WM t):=by
 exists T.acv,amn;obtain⟨G,tp,pA,uA,ts,pa,ps,rfl,M,hbk,k⟩:=h;obtain⟨dt,e⟩:=M.ob;refine{_,au (aM (wu (fw gp (cN dH T.cK (pf 0)) bV (bD _)) (oq (fw rZ (om (dY eN (pf 0) (dY eN (pf 0) (r6 sr bV) (fun _ _=>rfl)) (fun _ _=>rfl)) rfl) (l7 T.KS) (by rfl))))),?_};simp![e];refine{_,.inl (aB.of M.ul),?_};cases hu:ts.un with
 |nil=>
  have:j5 ts=false:=by simp[j5,TS.aX,hu]
  rw[this]at k;simp[vi];simp![e];exact k
 |cons u us=>
  have n9:=M.ul;rw[hu]at n9;obtain⟨a,x,ha,hx,Ic,o,ea,dx,lA,adr,wv,pk,rfl,_⟩:=Yd M hu;have HL:iV (vi (u::us).reverse) (-1)=some (V.int (u:Int)):=by
   have:vi (u::us).reverse=vi us.reverse++[V.int (u:Int)]:=by simp[vi]
   rw[this];exact vd _ _
  simp![e];rw[az (by simp[vi])];simp![e];refine{uA,_,_,_,rfl,rfl,aB.of n9,HL,pA,_,_,_,rfl,rfl,aB.of M.pl,lO (by rw[dQ,ha];rfl),?_};simp![ea];refine{_,_,rfl,.inr (T.CN H),rfl,rfl,?_};rw[QM x.1 (hbk x (fh hx))];have fq:j5 ts=BD x.1:=by unfold j5;rw[Ic];cases x.1<;>rfl
  rwa[fq]at k
section
structure RT(t:aE)(G H:Hp)(r R:U)(row rest:aa)(tp pA uA:U)(ts:TS)(pa ps:List U):Prop where
 rf:RF t G H r R row true rest
 tm:cQ t G H tp pA uA ts pa ps
section
variable{t:aE}{G H H':Hp}{r R tp pA uA:U}{row rest cy:aa}{ts:TS}{pa ps:List U}
theorem RT.cR(h:RT t G H r R row rest tp pA uA ts pa ps)(b:ah (· =r) H H')(d:cU t H' r R row true cy):RT t G H' r R row cy tp pA uA ts pa ps:=by have f:=h.rf.cR b d;refine{f,h.tm.step (fun c o g e=>b c o (fun z=>?_) e) f.dn};obtain⟨o',ho⟩:=h.rf.gr;rw[z,ho]at g;cases g
theorem RT.read(h:RT t G H r R row rest tp pA uA ts pa ps)(f:RF t H H' r R row true cy):RT t G H' r R row cy tp pA uA ts pa ps:=by have f':=h.rf.trans f;refine{f',h.tm.step (fun c o g e=>f.keep c o e (fun z=>?_)) f'.dn};obtain⟨o',ho⟩:=h.rf.gr;rw[z,ho]at g;cases g
theorem RF.R9(h:RF t G H r R row wh rest)(s:aw H H'):RF t G H' r R row wh rest:=h.yg (aw.aP s) (h.dn.same s)
theorem RT.more(h:RT t G H r R row rest tp pA uA ts pa ps)(s:aw H H')(na:H a=none)(ea:∃dx v0 v1 v2 v3 v4,H' a=some (.am t.cW dx (cG v0 v1 v2 v3 v4))):RT t G H' r R row rest tp pA uA ts pa (a::ps):={h.rf.R9 s,h.tm.more s (h.rf.dn.same s) na ea}
theorem RT.write{v0 v1 v2 v3 v4:V}(h:RT t G H r R row rest tp pA uA ts pa ps)(ma:a∈ps)(na:a ∉ pa):RT t G (_L.ae H a (.am t.cW dx (cG v0 v1 v2 v3 v4))) r R row rest tp pA uA ts pa ps:={h.rf.new (h.tm.fr _ (.inr (.inr (.inr ma)))),h.tm.write ma na}
theorem RT.new{kq:List U}(h:RT t G H r R row rest tp pA uA ts pa ps)(b:ah (Mu tp pA uA ps) H H')(m:cQ t G H' tp pA uA ts' kq ps):RT t G H' r R row rest tp pA uA ts' kq ps:={h.rf.yg (b.mono h.tm.fr) m.dn,m}
theorem RT.out(h:RT t G H r R row rest tp pA uA ts pa ps)(na:H a=none):a ∉ pa/\¬ Mu tp pA uA ps a:=by
 have hp:a ∉ ps:=fun m=>by obtain⟨dx,v0,v1,v2,v3,v4,e⟩:=h.tm.lv a m;rw[na]at e;cases e
 refine{fun m=>hp (h.tm.sub a m),fun z=>?_};rcases z with z |z |z |z
 .obtain⟨dt,e⟩:=h.tm.ob;rw[←z,na]at e;cases e
 .have e:=h.tm.pl;rw[←z,na]at e;cases e
 .have e:=h.tm.ul;rw[←z,na]at e;cases e
 exact hp z
structure Made(t:aE)(H H':Hp)(a l:U)(k n:aa):Prop where
 same:aw H H'
 na:H a=none
 nl:H l=none
 ne:l≠a
 ob:∃dx,H' a=some (.am t.cW dx (cG (S k) (S n) (.ref l) .aN (.int 0)))
 ls:H' l=some (.ag [])
theorem Made.of{l:U}{k:aa}(nx:H a=none)(nd:H dx=none)(b:ah (· =a) (_L.ae (_L.ae H dx (.own a)) a (.am t.cW dx [])) H')(hl:_L.ae (_L.ae H dx (.own a)) a (.am t.cW dx []) l=none)
  (e:H' a=some (.am t.cW dx (cG (S k) (S n) (.ref l) .aN (.int 0))))(e2:H' l=some (.ag [])):Made t H H' a l k n:=by
 refine{iq nx nd b,nx,?_,cr e2 e (by intro z;cases z),{(dx),e},e2};cases ha:H l with|none=>rfl|some o=>rw[aj (aC ha nx),aj (aC ha nd),ha]at hl;cases hl
theorem RT.made{l:U}{k:aa}(h:RT t G H r R row rest tp pA uA ts pa ps)(m:Made t H H' a l k n):RT t G H' r R row rest tp pA uA ts pa (a::ps):=by obtain⟨dx,e⟩:=m.ob;exact h.more m.same m.na {dx,_,_,_,_,_,e}
theorem yb{M:U->Prop}(g:G a=none)(m:¬ M a)(e:H a=some o):br G H M a=some o:=A5.mpr {(g),m,e}
theorem Jt{c:U}(h:¬ Mu tp pA uA ps c)(n:c≠a):¬ Mu tp pA uA (a::ps) c:=fun z=>by
 rcases z with z |z |z |z
 .exact h (.inl z)
 .exact h (.inr (.inl z))
 .exact h (.inr (.inr (.inl z)))
 rcases bw.mp z with z |z
 .exact n z
 exact h (.inr (.inr (.inr z)))
theorem RT.plain{l:U}(h:RT t G H r R row rest tp pA uA ts pa ps)(m:Made t H H' a l (kindOf mp) (dI mp))(e1:iW mp=[])(e2:Dy mp=none):fS t (br G H' (Mu tp pA uA (a::ps))) H' a (mp,0):=by
 obtain⟨dx,e⟩:=m.ob;refine{_,e,dx,l,[],.aN,0,rfl,yb (h.rf.dn l m.nl) (Jt (h.out m.nl).2 m.ne) m.ls,?_,?_,fun _=>rfl}
 .show fO t _ [] (iW mp);rw[e1];trivial
 show WV t _ .aN (Dy mp);rw[e2];rfl
end
theorem cQ.anz{t:aE}{G H:Hp}{tp pA uA:U}{ts:TS}{pa ps:List U}(h:cQ t G H tp pA uA ts pa ps)(e1:ts'.un=ts.un)(e2:ts'.depth=ts.depth)(e3:ts'.parts.length=ts.parts.length)
  (e4:∀(i:Nat) x,ts'.parts[i]?=some x->∃k,ts.parts[i]?=some (x.1,k)/\(told x.1=true->k=x.2)):cQ t G H tp pA uA ts' pa ps:=by
 refine{by rw[e2];exact h.ob,h.pl,by rw[e1];exact h.ul,h.ne,by rw[e3];exact h.bu,fun i a x q1 q2=>?_,h.nd,h.sub,h.fr,h.dn,h.lv,fun u m=>by rw[e3];exact h.un u (e1▸m)};obtain⟨k,q3,q4⟩:=e4 i x q2;obtain⟨o,eo,dx,lA,adr,wv,pk,z1,z2,z3,z4,z5⟩:=h.at_ i a _ q1 q3;exact{o,eo,dx,lA,adr,wv,pk,z1,z2,z3,z4,fun u=>(z5 u).trans (q4 u)}
theorem cQ.iI{t:aE}{G H:Hp}{tp pA uA:U}{ts:TS}{pa ps:List U}{u:Nat}{us:List Nat}{m:aa}(hu:ts.un=u::us)(hx:ts.parts[u]?=some (.aS m as,k))(h:cQ t G H tp pA uA (vw ts (.cls n) u us) pa ps):cQ t G H tp pA uA (_S.iI ts n) pa ps:=by
 obtain⟨g1,g2,g3⟩:=Ls (k:=ts.parts.length) hx;refine h.anz (by simp[_S.iI,vw,hu]) rfl (by simp[_S.iI,vw,g3]) fun i x e=>?_;have e:(ts.parts++[(MP.cls n,0)])[i]?=some x:=e;show∃k,(gg ts.parts u ts.parts.length++[(MP.cls n,u)])[i]?=some (x.1,k)/\(told x.1=true->k=x.2);by_cases hi:i<ts.parts.length
 .rw[xg hi]at e;rw[xg (by rwa[g3])];by_cases P2:i=u
  .subst P2;rw[hx]at e;injection e with e;subst e
   exact{_,g1,fun z=>by cases z}
  rw[g2 i P2];exact{x.2,e,fun _=>rfl}
 have HH:i=ts.parts.length:=by have:=(fB.mp e).1;simp at this;lia
 subst HH;have e4:x=(MP.cls n,0):=by simpa using e.symm
 subst e4;refine{u,?_,fun z=>by cases z};have:=pV (P:=gg ts.parts u ts.parts.length) (x:=(MP.cls n,u));rwa[g3]at this
section
variable{P:cA}{w:ck}{K:bn}{mg:ac->Option af}{base:bP}{t:aE}
def PQ(t:aE)(G:Hp)(r R:U)(row:aa)(tp pA uA:U)(Q:VK):Option (TS×aa)->Prop|none=>∀H' z,RF t G H' r R row true z->Q (.bl false) H'|some (ts',z)=>∀H' kq mX,RT t G H' r R row z tp pA uA ts' kq mX->Q (.bl true) H'
inductive C8(t:aE)(f:TS->aa->Option (TS×aa))(vs:List V)(H:Hp)(Q:VK)(E:XK):Prop|mk:∀G r R row rest tp pA uA ts pa ps,vs=[.ref r,.ref tp]->RT t G H r R row rest tp pA uA ts pa ps->(∀x∈ts.parts,∀h n,x.1=.aU h n->h=63∨h=33∨h=42)->ts.parts.length<50000->ts.un.length<50000->PQ t G r R row tp pA uA Q (f ts rest)->C8 t f vs H Q E
def AY(ts:TS)(rest:aa):Option (TS×aa):=((front [60] rest).bind (gS true)).bind fun x=>(app ts (.aS x.1 x.2.1 x.2.2.1)).map fun ts'=>(ts',x.2.2.2)
theorem aki(T:Txt K mg t):aQ P w K mg base 11 t.G6 Kx (C8 t AY):=by
 exists T.adh,Ll;obtain⟨G,r,R,row,rest,tp,pA,uA,ts,pa,ps,rfl,h,hbk,hl,hu,k⟩:=h;obtain⟨dx,e⟩:=h.rf.rd.ob;have bG:=hr.mono (show 1<=10 by decide);have cD:=hr.mono (show 2<=10 by decide);refine{_,ak (b9 (i:=2) Ll.nd rfl (bx rfl) (cE (pv 0) T.cq.cl T.Rw (Sq T) hr))
  (ak (bA (ot (wt (pv 2))) (au (aM dX)) bH)
  (ak (b9 (i:=3) Ll.nd rfl (bx rfl) (iu T.og (uh T) cD (aq (gf T.CY) (aq (pf 2) aA))))
  (ak (bT (pv 3) (pf 2) rfl)
  (ak (cj (bY (pv 1) T.j7.cl T.Rz (Sd T) bG (aq (pv 3) aA)))
  (ak (bA (bW (pf 2)) (au (cj (bY (pv 1) T.j7.cl T.IW (JB T) bG (aq (iu T.og (uh T) cD (aq (gf T.CW) (aq (pf 2) aA))) aA)))) bH)
  (au (aM dX))))))),?_}
 simp![e];refine{r,R,row,true,rest,rfl,h.rf.rd,?_};unfold AY at k;cases ht:(front [60] rest).bind (gS true)with|none=>rw[ht]at k;intro H1 z f1;simp![fM];exact k H1 z (h.rf.trans f1)|some x=>obtain⟨n,as,al,z⟩:=x;rw[ht]at k;simp?[bM]at k;intro H1 tg f1 Ia;have h1:=h.read f1;obtain⟨dg,lA,adr,eg,el,hat⟩:=Ia;have vq:=aH.of eg;simp![jP,reduceCtorEq,vq];intro a da nx nd wl;refine{a,da,kindOf (.aS n as),n,rfl,ay,fun H2 l b2 nl e2 l2=>{rfl,?_}};have m2:Made t H1 H2 a l (kindOf (.aS n as)) (dI (.aS n as)):=Made.of nx nd b2 nl e2 l2;have h2:=h1.made m2;have na:=(h1.out nx).1;simp![m2.same _ _ vq,e2];have h3:=h2.write (dx:=da) (v0:=S (kindOf (.aS n as))) (v1:=S n) (v2:=.ref lA) (v3:=.aN) (v4:=.int 0) (eS) na;have bb:ah (Mu tp pA uA (a::ps)) H2 (_L.ae H2 a (.am t.cW da (cG (S (kindOf (.aS n as))) (S n) (.ref lA) .aN (.int 0)))):=ah.ae (.inr (.inr (.inr eS)));have nm:∀b o,aH H H1 b=some o->¬ Mu tp pA uA (a::ps) b:=fun b o hb=>Jt (h.out (aH.free hb)).2 (aC (aH.of hb) nx);have sN:aw (aH H H1) (br G (_L.ae H2 a (.am t.cW da (cG (S (kindOf (.aS n as))) (S n) (.ref lA) .aN (.int 0)))) (Mu tp pA uA (a::ps))):=fun b o hb=>yb (h.rf.dn b (aH.free hb)) (nm b o hb) (bb b o (nm b o hb) (m2.same b o (aH.of hb)));have p3:fS t (br G (_L.ae H2 a (.am t.cW da (cG (S (kindOf (.aS n as))) (S n) (.ref lA) .aN (.int 0)))) (Mu tp pA uA (a::ps))) (_L.ae H2 a (.am t.cW da (cG (S (kindOf (.aS n as))) (S n) (.ref lA) .aN (.int 0)))) a (.aS n as,0):={_,ay,da,lA,adr,.aN,0,rfl,sN _ _ el,hat.mono sN,rfl,fun _=>rfl};have p0:=bb tg _ (nm _ _ eg) (m2.same _ _ vq);have ntg:=nm _ _ eg;generalize _L.ae H2 a (.am t.cW da (cG (S (kindOf (.aS n as))) (S n) (.ref lA) .aN (.int 0)))=H3 at h3 bb p3 p0 sN⊢;obtain⟨Ox,re⟩:=h3.tm.ob;simp![re];refine{G,tp,pA,uA,ts,pa,a::ps,a,.aS n as,rfl,h3.tm,eS,na,p3,by lia,by lia,fun H4 b4 M4=>?_};have h4:=h3.new b4 M4;have AO:=b4 _ _ ntg p0;cases al with|false=>simp![AO];exact k H4 _ _ h4|true=>obtain⟨dt4,xY⟩:=h4.tm.ob;simp![AO,xY];intro c dc rW yO R7;refine{c,dc,kindOf (.cls n),n,rfl,ay,fun H5 l' b5 qt e5 l5=>{rfl,?_}};have m5:Made t H4 H5 c l' (kindOf (.cls n)) (dI (.cls n)):=Made.of rW yO b5 qt e5 l5;have h5:=h4.made m5;have p5:=h4.plain (mp:=.cls n) m5 rfl rfl;refine{G,tp,pA,uA,_,_,c::a::ps,c,.cls n,ts.parts.length,ts.un,rfl,h5.tm,eS,(h4.out rW).1,p5,by simp[gJ];lia,rfl,fun H6 b6 M6=>?_};have h6:=h5.new b6 M6;simp![xY];exact k H6 _ _ {h6.rf,cQ.iI (ts:=gJ ts (.aS n as)) (m:=n) (as:=as) (k:=0) rfl pV M6}
def AX(ts:TS)(rest:aa):Option (TS×aa):=((front [60,47] rest).bind ending).bind fun x=>(app ts (.cls x.1)).map fun ts'=>(ts',x.2)
theorem ag3{ts:TS}(h:j6 ts n=true):∃u us as k,ts.un=u::us/\ts.parts[u]?=some (.aS n as,k):=by
 unfold j6 TS.aX at h;cases hu:ts.un with
 |nil=>rw[hu]at h;cases h|cons u us=>
  rw[hu]at h;simp?[YQ,bM]at h;cases hx:ts.parts[u]? with
  |none=>rw[hx]at h;cases h|some x=>
   rw[hx]at h;obtain⟨mp,k⟩:=x;cases mp with
   |aS m as=>
    have:m=n:=by simpa using h
    subst this;exact{(u),us,as,k,rfl,hx}
   |_=>cases h
theorem ag2{ts:TS}(h:j5 ts=true):∃u us hw n k,ts.un=u::us/\ts.parts[u]?=some (.aU hw n,k):=by unfold j5 TS.aX at h;cases hu:ts.un with|nil=>rw[hu]at h;cases h|cons u us=>rw[hu]at h;simp?[YQ,bM]at h;cases hx:ts.parts[u]? with|none=>rw[hx]at h;cases h|some x=>rw[hx]at h;obtain⟨mp,k⟩:=x;cases mp with|aU hw n=>exact{(u),us,hw,n,k,rfl,hx}|_=>cases h
theorem ake(T:Txt K mg t):aQ P w K mg base 6 t.G2 Ku (C8 t AX):=by
 exists T.adc,VY;obtain⟨G,r,R,row,rest,tp,pA,uA,ts,pa,ps,rfl,h,hbk,hl,hu,k⟩:=h;obtain⟨dx,e⟩:=h.rf.rd.ob;have bG:=hr.mono (show 1<=5 by decide);have cD:=hr.mono (show 2<=5 by decide);refine{_,ak (b9 (i:=2) VY.nd rfl (bx rfl) (cE (pv 0) T.cq.cl T.Rv (So T) hr))
  (ak (bA (iN (cg cV (pv 2) cM (bD _)) (jE (fe (bW (bY (pv 1) T.j7.cl T.ah7 (aj8 T) bG (aq (pv 2) aA)))))).pt (au (aM dX)) bH)
  (ak (cj (bY (pv 1) T.j7.cl T.IW (JB T) bG (aq (iu T.og (uh T) cD (aq (gf T.CW) (aq (pv 2) aA))) aA)))
  (au (aM dX)))),?_}
 simp![e];unfold AX at k;refine{r,R,row,true,rest,rfl,h.rf.rd,?_};cases ht:(front [60,47] rest).bind ending with
 |none=>rw[ht]at k;intro z H1 b1 d1;simp![kr,kT,fM];exact k H1 z (h.rf.cR b1 d1)|some x=>
  obtain⟨n,z⟩:=x;rw[ht]at k;simp?[bM]at k;intro H1 b1 d1;have h1:=h.cR b1 d1;have hne:n≠[]:=by
   cases hf:front [60,47] rest with
   |none=>rw[hf]at ht;cases ht|some q=>
    rw[hf,bM,OI]at ht;by_cases h0:bU q=[]
    .rw[az h0]at ht;cases ht
    rw[ao h0]at ht;cases hq:front [62] ((q.drop (bU q).length).dropWhile blank)with|none=>rw[hq]at ht;cases ht|some y=>rw[hq]at ht;injection ht with ht;injection ht with ht _;rwa[←ht]
  have af5:¬((⟨n.toArray⟩:ac)=(⟨([]:List Nat).toArray⟩:ac)):=fun zz=>hne ((sq n []).mp zz);obtain⟨dt,et⟩:=h1.tm.ob;simp![kr,kT,af5,et];refine{G,tp,pA,uA,ts,pa,ps,n,rfl,h1.tm,_,rfl,?_};cases fq:j6 ts n with|false=>simp![bC];simp?[app,fq]at k;exact k H1 z h1.rf|true=>simp![et];simp?[app,fq,du,iD]at k;intro c dc rW yO R7;refine{c,dc,kindOf (.cls n),n,rfl,ay,fun H5 l' b5 qt e5 l5=>{rfl,?_}};have m5:Made t H1 H5 c l' (kindOf (.cls n)) (dI (.cls n)):=Made.of rW yO b5 qt e5 l5;have h5:=h1.made m5;have p5:=h1.plain (mp:=.cls n) m5 rfl rfl;obtain⟨u,us,as,kk,q1,q2⟩:=ag3 fq;refine{G,tp,pA,uA,ts,pa,c::ps,c,.cls n,u,us,rfl,h5.tm,eS,(h1.out rW).1,p5,by lia,q1,fun H6 b6 M6=>?_};have h6:=h5.new b6 M6;simp![et];exact k H6 _ _ {h6.rf,cQ.iI (m:=n) (as:=as) (k:=kk) q1 q2 M6}
end
end
def AZ(ts:TS)(rest:aa):Option (TS×aa):=(de true (dD true) rest).bind fun x=>(app ts (.bE x.1)).map fun ts'=>(ts',x.2)
theorem akm(T:Txt K mg t):aQ P w K mg base 9 t.Ha KA (C8 t AZ):=by
 exists T.adl,V0;obtain⟨G,r,R,row,rest,tp,pA,uA,ts,pa,ps,rfl,h,hbk,hl,hu,k⟩:=h;have cD:=hr.mono (show 2<=8 by decide);refine{_,ak (b9 (i:=2) V0.nd rfl (bx rfl) (iu T.og (uh T) cD (aq (gf T.UR) (aq cM aA))))
  (ak (bT (pv 2) (cE (pv 0) T.cq.cl T.Ry (Su T) hr) rfl)
  (ak (cj (fb ej iE iF h9 (pf 1) (aq (pv 2) aA)))
  (au (aM (SV (akU (pf 2))))))),?_}
 simp![bC];intro a da nx nd wl;refine{a,da,kindOf (.bE []),[],rfl,ay,fun H1 l b1 nl e1 l1=>{rfl,?_}};have m1:Made t H H1 a l (kindOf (.bE [])) (dI (.bE [])):=Made.of nx nd b1 nl e1 l1;have h1:=h.made m1;have na:=(h.out nx).1;have ma:a∈a::ps:=eS;obtain⟨dr,er⟩:=h1.rf.rd.ob;simp![er];unfold AZ at k;refine{r,R,row,true,rest,rfl,h1.rf.rd,?_};obtain⟨d0,e0⟩:=h.rf.rd.ob;have Qn:a≠r:=(aC e0 nx).symm;have rJ:=Jt (h.out m1.nl).2 m1.ne;cases hp:de true (dD true) rest with|none=>rw[hp]at k;intro H2 z f2;have h2:=h1.read f2;have e2:=f2.keep a _ e1 Qn;simp![e2];have h3:=h2.write (dx:=da) (v0:=S (kindOf (.bE []))) (v1:=S []) (v2:=.ref l) (v3:=.aN) (v4:=.int 0) ma na;have e3:_L.ae H2 a (.am t.cW da (cG (S (kindOf (.bE []))) (S []) (.ref l) .aN (.int 0))) a=some (.am t.cW da (cG (S (kindOf (.bE []))) (S []) (.ref l) .aN (.int 0))):=ay;generalize _L.ae H2 a (.am t.cW da (cG (S (kindOf (.bE []))) (S []) (.ref l) .aN (.int 0)))=H3 at h3 e3⊢;obtain⟨dt,et⟩:=h3.tm.ob;simp![et];refine{.inl {rfl,_,aB.of h3.tm.pl},pA,_,_,rfl,rfl,h3.tm.pl,by rw[bL,h3.tm.bu];exact cx (by lia),?_};simp![aj (h3.tm.kj ma).2.1,e3,fM];exact k _ z (h3.rf.new (h3.tm.fr _ (.inr (.inl rfl))))|some x=>obtain⟨l0,z⟩:=x;rw[hp]at k;intro H2 wA w2;have f2:=w2.rf;have h2:=h1.read f2;have e2:=f2.keep a _ e1 Qn;simp![e2];have h3:=h2.write (dx:=da) (v0:=S (kindOf (.bE []))) (v1:=S []) (v2:=.ref l) (v3:=.ref wA) (v4:=.int 0) ma na;have e3:_L.ae H2 a (.am t.cW da (cG (S (kindOf (.bE []))) (S []) (.ref l) (.ref wA) (.int 0))) a=some (.am t.cW da (cG (S (kindOf (.bE []))) (S []) (.ref l) (.ref wA) (.int 0))):=ay;have bb:ah (Mu tp pA uA (a::ps)) H2 (_L.ae H2 a (.am t.cW da (cG (S (kindOf (.bE []))) (S []) (.ref l) (.ref wA) (.int 0)))):=ah.ae (.inr (.inr (.inr ma)));generalize _L.ae H2 a (.am t.cW da (cG (S (kindOf (.bE []))) (S []) (.ref l) (.ref wA) (.int 0)))=H3 at h3 e3 bb⊢;have sN:aw (aH H1 H2) (br G H3 (Mu tp pA uA (a::ps))):=fun b o hb=>yb (h1.rf.dn b (aH.free hb)) (h1.out (aH.free hb)).2 (bb b o (h1.out (aH.free hb)).2 (aH.of hb));have hJ:l≠r:=(aC e0 m1.nl).symm;have p3:fS t (br G H3 (Mu tp pA uA (a::ps))) H3 a (.bE l0,0):={_,e3,da,l,[],.ref wA,0,rfl,yb (h.rf.dn l m1.nl) rJ (bb l _ rJ (f2.keep l _ m1.ls hJ)),trivial,{wA,rfl,qR.mono w2.wd sN},fun _=>rfl};obtain⟨dt,et⟩:=h3.tm.ob;simp![et];refine{.inl {rfl,_,aB.of h3.tm.pl},pA,_,_,rfl,rfl,h3.tm.pl,by rw[bL,h3.tm.bu];exact cx (by lia),?_};simp![aj (h3.tm.kj ma).2.1,e3,jP,reduceCtorEq];exact k _ _ _ (h3.new (ah.ae (.inr (.inl rfl))) (h3.tm.push ma na p3))
def p6(ts:TS)(rest:aa):Option (TS×aa):=match rest with|123::q=>(jS q).bind fun x=>(app ts x.1).map fun ts'=>(ts',x.2)|_=>none
noncomputable def sZ:List aa:=[[123,63],[123,33],[123,42]]
theorem aaZ{v:V}(h:(sZ.map S)[i]?=some v):∃c,(c=63∨c=33∨c=42)/\v=S [123,c]/\sZ[i]?=some [123,c]:=by
 match i,h with
 |0,h=>injection h with h;exact{63,by simp,h.symm,rfl}
 |1,h=>injection h with h;exact{33,by simp,h.symm,rfl}
 |2,h=>injection h with h;exact{42,by simp,h.symm,rfl}
 |i+3,h=>simp[sZ]at h
theorem ya(c:Nat)(q:aa):front [123,c] (123::q)=front [c] q:=kX 123 [c] q
theorem AF(h:c≠47):jS (c::z)=(gx z).map fun x=>(if c=62 then Ev.use x.1 else .aU c x.1,x.2):=by
 unfold jS;split
 .rename_i e;injection e with e;exact aJ e.symm (fun z=>h z.symm)
 .rename_i e;injection e with e1 e2;subst e1 e2;rfl
 rename_i e;cases e
inductive W6(t:aE)(vs:List V)(H:Hp)(Q:VK)(E:XK):Prop|mk:∀G r R row q tp pA uA ts pa ps,vs=[.ref r,.ref tp]->RT t G H r R row (123::q) tp pA uA ts pa ps->(∀x∈ts.parts,∀h n,x.1=.aU h n->h=63∨h=33∨h=42)->ts.parts.length<50000->ts.un.length<50000->other q=true->PQ t G r R row tp pA uA Q (p6 ts (123::q))->W6 t vs H Q E
theorem akd(T:Txt K mg t):aQ P w K mg base 6 t.GY Ks (W6 t):=by
 exists T.ac9,C2;obtain⟨G,r,R,row,q,tp,pA,uA,ts,pa,ps,rfl,h,hbk,hl,hu,ho,k⟩:=h;obtain⟨dr,er⟩:=h.rf.rd.ob;have bG:=hr.mono (show 1<=5 by decide);have cD:=hr.mono (show 2<=5 by decide);have dS:=hr.mono (show 3<=5 by decide)
 refine{_,ak (bA (bW (bY (pv 0) T.cq.cl T.k9 (lc T) dS (aq cM aA)))
   (ak (bA (fe (bW (cE (pv 1) T.j7.cl T.ah6 (aj7 T) bG))) (au (aM dX)) bH)
   (ak (cj (bY (pv 1) T.j7.cl T.IW (JB T) bG (aq (iu T.og (uh T) cD (aq (gf T.TH) (aq cM aA))) aA)))
   (au (aM dX)))) bH)
  (ak (mY PassesOwn.never rfl (S6 (l7 T.KS)) (gq (i:=2) C2.nd rfl (bx rfl))
   (au (bA (bW (bY (pv 0) T.cq.cl T.ua (uj T) cD (aq (pv 2) aA)))
    (ak (b9 (i:=3) C2.nd rfl (bx rfl) (iu T.og (uh T) cD (aq (pv 2) (aq (bY (pv 0) T.cq.cl T.IT (Jy T) hr (aq (pv 2) (aq cM aA))) aA))))
    (ak (cj (bY (pv 1) T.j7.cl T.Rz (Sd T) bG (aq (pv 3) aA)))
    (au (aM (fw uo (pf 3) cM (bD _)))))) bH)))
  (ak (b9 (i:=3) C2.nd rfl (bx rfl) (iu T.og (uh T) cD (aq (gf T.wJ) (aq (bY (pv 0) T.cq.cl T.IT (Jy T) hr (aq (gf T.wJ) (aq cM aA))) aA))))
  (ak (cj (fb ej iE iF h9 (pf 1) (aq (pv 3) aA)))
  (au (aM (fw uo (pf 3) cM (bD _))))))),?_}
 simp![er];refine{r,R,row,true,123::q,[123,47,125],rfl,h.rf.rd,by decide,fun H1 b1 d1=>{_,rfl,?_}};have h1:=h.cR b1 d1;rw[kX]at d1 h1;rw[show front [123,47,125] (123::q)=front [47,125] q from kX _ _ _];have Bt:∀n:aa,decide (¬(V.str ⟨n.toArray⟩=V.str ⟨([]:List Nat).toArray⟩))=!decide (n=[]):=fun n=>by
  by_cases hn:n=[]
  .subst hn;simp
  have:¬(V.str ⟨n.toArray⟩=V.str ⟨([]:List Nat).toArray⟩):=fun z=>hn (lL z);simp[hn,this]
 cases hf:front [47,125] q with
 |some z=>
  rw[hf]at d1 h1;simp?[oy]at d1 h1;have eq:=lV hf;have kc:p6 ts (123::q)=(app ts .fin).map fun ts'=>(ts',z):=by rw[eq];simp[p6,jS,front]
  rw[kc]at k;obtain⟨dt,et⟩:=h1.tm.ob;simp![et];refine{G,tp,pA,uA,ts,pa,ps,rfl,h1.tm,hbk,_,rfl,?_};cases hb:j5 ts with
  |false=>simp?[app,hb]at k;simp![bC];exact k H1 z h1.rf|true=>
   simp?[app,hb,du,iD]at k;simp![et];intro c dc rW yO R7;refine{c,dc,kindOf .fin,[],rfl,ay,fun H5 l' b5 qt e5 l5=>{rfl,?_}};have m5:Made t H1 H5 c l' (kindOf .fin) (dI .fin):=Made.of rW yO b5 qt e5 l5;have h5:=h1.made m5;have p5:=h1.plain (mp:=.fin) m5 rfl rfl;obtain⟨u,us,hw,n,kk,q1,q2⟩:=ag2 hb;refine{G,tp,pA,uA,ts,pa,c::ps,c,.fin,u,us,rfl,h5.tm,eS,(h1.out rW).1,p5,by lia,q1,fun H6 b6 M6=>?_};have h6:=h5.new b6 M6;have e7:vw ts .fin u us=jX ts:=by simp[vw,jX,q1]
   rw[e7]at h6;simp![et];exact k H6 _ _ h6
 |none=>
  rw[hf]at d1 h1;simp?[zX]at d1 h1;simp![bC];refine{t.Hn,rfl,{_,T.CN H1},aez (K:=K) (xs:=sZ.map S) (fun i σ H'=>(∃v2,σ=[some (V.ref r),some (V.ref tp),v2,none])/\RT t G H' r R row (123::q) tp pA uA ts pa ps/\∀b∈sZ.take i,front b (123::q)=none) {{(none),rfl},h1,fun b m=>by cases m} (fun i σ H' _ _=>T.CN H') ?_ ?_}
  .rintro i v σ H2 hi ⟨⟨v2,rfl⟩,h2,hno⟩;obtain⟨c,hc,rfl,hbi⟩:=aaZ hi;obtain⟨xQ,kW⟩:=h2.rf.rd.ob;simp![kW];refine{r,R,row,true,123::q,[123,c],rfl,h2.rf.rd,(by show 2<1000;decide),fun H3 b3 d3=>{_,rfl,?_}};have h3:=h2.cR b3 d3;rw[ya];cases jA:front [c] q with
   |none=>
    simp![bC];refine{{_,rfl},h3,fun b m=>?_};rw[jO,hbi]at m;rcases cz.mp m with m |m
    .exact hno b m
    have:b=[123,c]:=by simpa using m
    rwa[this,ya]
   |some z=>
    obtain⟨ER,tG⟩:=h3.rf.rd.ob;simp![tG];have eq:=lV jA;have c47:c≠47:=by rcases hc with rfl |rfl |rfl<;>decide
    have c62:c≠62:=by rcases hc with rfl |rfl |rfl<;>decide
    have kc:p6 ts (123::q)=(gx z).bind fun x=>(app ts (.aU c x.1)).map fun ts'=>(ts',x.2):=by rw[eq];show(jS (c::z)).bind _=_;rw[AF c47];cases gx z with|none=>rfl|some x=>simp[c62]
    rw[kc]at k;refine Xy fun F hF=>?_;refine{r,R,row,true,123::q,[123,c],rfl,h3.rf.rd,(by show 2<1000;decide),?_};rw[ya,jA,bM]
    have go:∀(n z':aa) (H4:Hp),RT t G H4 r R row z' tp pA uA ts pa ps->(∀H' kq mX,RT t G H' r R row z' tp pA uA (gJ ts (.aU c n)) kq mX->Q (V.bl (!decide (n=[]))) H')->
      F (S n) H4:=by
     intro n z' H4 h4 kk;apply hF;simp![];intro x dx nx nd wl;refine{x,dx,kindOf (.aU c n),n,rfl,ay,fun H5 l' b5 qt e5 l5=>{rfl,?_}};have m5:Made t H4 H5 x l' (kindOf (.aU c n)) (dI (.aU c n)):=Made.of nx nd b5 qt e5 l5;have h5:=h4.made m5;have p5:=h4.plain (mp:=.aU c n) m5 rfl rfl;obtain⟨dt,et⟩:=h5.tm.ob;simp![et];refine{G,tp,pA,uA,ts,pa,x::ps,x,.aU c n,rfl,h5.tm,eS,(h4.out nx).1,p5,by lia,by lia,fun H6 b6 M6=>?_};have h6:=h5.new b6 M6;obtain⟨o,eo,dxo,lA,adr,wv,pk,rfl,_⟩:=M6.at_ pa.length x (.aU c n,0) (by simp) (by rw[h4.tm.bu];exact pV);simp![eo];refine{rfl,?_};have:=kk H6 _ _ h6;have e9:(!decide (S (dI (MP.aU c n))=V.str (Str.ofString "")))=!decide (n=[]):=by
      by_cases hn:n=[]
      .subst hn;rfl
      have hq:¬(S (dI (MP.aU c n))=V.str (Str.ofString "")):=fun z=>hn (lL z);rw[dM hn,dM hq]
     rw[e9];exact this
    cases hn:gx z with
    |none=>rw[hn]at k;intro z' H4 b4 d4;have h4:=h3.cR b4 d4;exact go [] z' H4 h4 fun H' kq mX h'=>k H' z' h'.rf|some y=>
     obtain⟨n,z'⟩:=y;rw[hn]at k;intro H4 b4 d4;have h4:=h3.cR b4 d4;have HP:n≠[]:=by intro zz;subst zz;obtain⟨_,_,q⟩:=yT hn;cases q
     refine go n z' H4 h4 fun H' kq mX h'=>?_;rw[dM HP];exact k H' _ _ h'
  rintro σ H2 ⟨⟨v2,rfl⟩,h2,hno⟩;obtain⟨xQ,kW⟩:=h2.rf.rd.ob;simp![kW];have HQ:∀b∈sZ,front b (123::q)=none:=fun b m=>hno b (by simpa[sZ]using m);refine Xy fun F hF=>?_;refine{r,R,row,true,123::q,[123,62],rfl,h2.rf.rd,by decide,?_};rw[ya]
  have go:∀(n z':aa) (H4:Hp),RT t G H4 r R row z' tp pA uA ts pa ps->(∀H' kq mX,RT t G H' r R row z' tp pA uA (oN ts (.use n)) kq mX->Q (V.bl (!decide (n=[]))) H')->
    F (S n) H4:=by
   intro n z' H4 h4 kk;apply hF;simp![];intro x dx nx nd wl;refine{x,dx,kindOf (.use n),n,rfl,ay,fun H5 l' b5 qt e5 l5=>{rfl,?_}};have m5:Made t H4 H5 x l' (kindOf (.use n)) (dI (.use n)):=Made.of nx nd b5 qt e5 l5;have h5:=h4.made m5;have p5:=h4.plain (mp:=.use n) m5 rfl rfl;obtain⟨dt,et⟩:=h5.tm.ob;have ma:x∈x::ps:=eS;simp![et];refine{.inl {rfl,_,aB.of h5.tm.pl},pA,_,_,rfl,rfl,h5.tm.pl,by rw[bL,h5.tm.bu];exact cx (by lia),?_};simp![aj (h5.tm.kj ma).2.1,e5];refine{rfl,?_};have:=kk _ _ _ (h5.new (ah.ae (.inr (.inl rfl))) (h5.tm.push ma (h4.out nx).1 p5));have e9:(!decide (S n=V.str (Str.ofString "")))=!decide (n=[]):=by
    by_cases hn:n=[]
    .subst hn;rfl
    have hq:¬(S n=V.str (Str.ofString "")):=fun z=>hn (lL z);rw[dM hn,dM hq]
   rw[e9];exact this
  cases q with
  |nil=>cases ho|cons c z=>
   by_cases hc:c=62
   .subst hc;have kc:p6 ts (123::62::z)=(gx z).bind fun x=>(app ts (.use x.1)).map fun ts'=>(ts',x.2):=by show(jS (62::z)).bind _=_;rw[AF (by decide)];cases gx z with|none=>rfl|some x=>rfl
    rw[kc]at k;rw[show front [62] (62::z)=some z by simp[front],bM];cases hn:gx z with
    |none=>rw[hn]at k;intro z' H4 b4 d4;exact go [] z' H4 (h2.cR b4 d4) fun H' kq mX h'=>k H' z' h'.rf|some y=>
     obtain⟨n,z'⟩:=y;rw[hn]at k;intro H4 b4 d4;have HP:n≠[]:=by intro zz;subst zz;obtain⟨_,_,q⟩:=yT hn;cases q
     refine go n z' H4 (h2.cR b4 d4) fun H' kq mX h'=>?_;rw[dM HP];exact k H' _ _ h'
   have rD:c=47:=by
    have a1:=HQ [123,63] (by decide);have a2:=HQ [123,33] (by decide);have a3:=HQ [123,42] (by decide);rw[ya]at a1 a2 a3;have b1:c≠63:=fun e=>by rw[e]at a1;simp[front]at a1
    have b2:c≠33:=fun e=>by rw[e]at a2;simp[front]at a2
    have b3:c≠42:=fun e=>by rw[e]at a3;simp[front]at a3
    simpa[other,b1,b2,b3,hc]using ho
   subst rD;have kc:p6 ts (123::47::z)=none:=by rw[kX]at hf;simp[p6,jS,hf]
   rw[kc]at k;rw[show front [62] (47::z)=none from i9 (by decide)];intro z' H4 b4 d4;exact go [] z' H4 (h2.cR b4 d4) fun H' kq mX h'=>k H' z' h'.rf
def oY(ts:TS)(rest:aa):Option (TS×aa):=(ev rest).bind fun x=>(app ts x.1).map fun ts'=>(ts',x.2)
theorem adW(h:(front [60,47] rest).isSome=true):oY ts rest=AX ts rest:=by
 cases hf:front [60,47] rest with
 |none=>rw[hf]at h;cases h|some z=>
  have e:=lV hf;unfold oY AX;rw[hf];subst e;simp?[bM];show(ev (60::47::z)).bind _=_;have:ev (60::47::z)=(ending z).map fun x=>(Ev.cls x.1,x.2):=by unfold ev;simp[front]
  rw[this];cases ending z<;>rfl
theorem adX(h:front [60,47] (60::q)=none):oY ts (60::q)=AY ts (60::q):=by
 rw[kX]at h;unfold oY AY;have:ev (60::q)=(gS true q).map fun x=>(.aS x.1 x.2.1 x.2.2.1,x.2.2.2):=by unfold ev;simp[h]
 rw[this,show front [60] (60::q)=some q by simp[front]];simp only[bM];cases gS true q<;>rfl
theorem adV(h:other q=true):oY ts (123::q)=p6 ts (123::q):=by unfold oY p6 ev;simp[h]
theorem adY(h1:c≠60)(h2:¬(c=123/\other q=true)):oY ts (c::q)=AZ ts (c::q):=by
 unfold oY AZ;have:ev (c::q)=(de true (dD true) (c::q)).map fun x=>(Ev.bE x.1,x.2):=by show(if c=123/\other q=true then jS q else if c≠60 then _ else _)=_;rw[ao h2,az h1]
 rw[this];cases de true (dD true) (c::q)<;>rfl
def pN(ts:TS):Prop:=∀x∈ts.parts,∀h n,x.1=.aU h n->h=63∨h=33∨h=42
theorem OR(c:Nat)(r:aa):ev (c::r)=if c=123/\other r=true then jS r
  else if c≠60 then (de true (dD true) (c::r)).map fun x=>(.bE x.1,x.2)
  else (front [47] r).elim ((gS true r).map fun x=>(.aS x.1 x.2.1 x.2.2.1,x.2.2.2)) fun q=>(ending q).map fun x=>(.cls x.1,x.2):=rfl
theorem OQ{h:Nat}(e:ev rest=some (.aU h n,z)):h=63∨h=33∨h=42:=by
 cases rest with
 |nil=>cases e|cons c q=>
  rw[OR]at e;split at e
  .rename_i hc;obtain⟨hc1,tO⟩:=hc;cases q with
   |nil=>cases tO|cons d r=>
    by_cases rD:d=47
    .subst rD;have e:(front [125] r).map (fun q=>(Ev.fin,q))=some (.aU h n,z):=e;cases hf:front [125] r with|none=>rw[hf]at e;cases e|some y=>rw[hf]at e;injection e with e;injection e with e;cases e
    rw[AF rD]at e;cases hn:gx r with
    |none=>rw[hn]at e;cases e|some y=>
     rw[hn]at e;injection e with e;injection e with e _
     by_cases qc:d=62
     .rw[az qc]at e;cases e
     rw[ao qc]at e;injection e with e1 e2
     subst e1;simpa[other,rD,qc,or_assoc]using tO
  split at e
  .cases hp:de true (dD true) (c::q)with|none=>rw[hp]at e;cases e|some y=>rw[hp]at e;injection e with e;injection e with e;cases e
  cases hf:front [47] q with
  |none=>rw[hf]at e;simp?[jm]at e;cases ht:gS true q with|none=>rw[ht]at e;cases e|some y=>rw[ht]at e;injection e with e;injection e with e;cases e
  |some y=>rw[hf]at e;simp?[iR]at e;cases ht:ending y with|none=>rw[ht]at e;cases e|some y=>rw[ht]at e;injection e with e;injection e with e;cases e
theorem V5{P:PL}{u:Nat}{x:MP×Nat}(h:x∈gg P u k):∃k',(x.1,k')∈P:=by have:x.1∈(gg P u k).map (·.1):=bt.mpr {(x),h,rfl};rw[Lu]at this;obtain⟨y,hy,e⟩:=bt.mp this;exact{y.2,by rw[←e];exact hy}
theorem pN.snoc{P:PL}{x:MP×Nat}{un:List Nat}{d:Nat}(h:pN ts)(e:P=ts.parts++[x])(hx:∀h n,x.1=.aU h n->h=63∨h=33∨h=42):pN {(P),un,d}:=fun y m=>by
 have m:y∈P:=m;rw[e]at m;rcases cz.mp m with m |m
 .exact h y m
 have:y=x:=by simpa using m
 rwa[this]
theorem Au{e:Ev}(he:ev rest=some (e,z))(ha:app ts e=some ts')(h:pN ts):pN ts'/\ts'.parts.length<=ts.parts.length+2/\ts'.un.length<=ts.un.length+1:=by
 cases e with
 |aS n a al=>
  cases al with
  |false=>injection ha with ha;subst ha;exact{h.snoc rfl (fun h n z=>by cases z),by simp[gJ],by simp[gJ]}
  |true=>injection ha with ha;subst ha;refine{?_,by simp[gJ,iI],by simp[gJ,iI]};have h1:pN (gJ ts (.aS n a)):=h.snoc rfl (fun h n z=>by cases z);exact h1.snoc rfl (fun h n z=>by cases z)
 |cls n=>
  have ha:(if j6 ts n=true then some (iI ts n)else none)=some ts':=ha;split at ha
  .injection ha with ha;subst ha;exact{h.snoc rfl (fun h n z=>by cases z),by simp[iI],by simp[iI];lia}
  cases ha
 |bE l=>injection ha with ha;subst ha;exact{h.snoc rfl (fun h n z=>by cases z),by simp[oN],by simp[oN]}
 |aU w n=>injection ha with ha;subst ha;exact{h.snoc rfl (fun h' n' z=>by injection z with z1 _;rw[←z1];exact OQ he),by simp[gJ],by simp[gJ]}
 |fin=>
  have ha:(if j5 ts=true then some (jX ts)else none)=some ts':=ha;split at ha
  .injection ha with ha;subst ha;have hl:(gg ts.parts (ts.un.headD 0) ts.parts.length).length=ts.parts.length:=by have:=eU kE (Lu ts.parts (ts.un.headD 0) ts.parts.length);simpa using this
   refine{fun y m=>?_,by show(gg ts.parts (ts.un.headD 0) ts.parts.length++[(MP.fin,ts.un.headD 0)]).length<=_;rw[cw,hl];simp,by simp[jX];lia};rcases cz.mp m with m |m
   .obtain⟨k',hm⟩:=V5 m;exact fun h' n' z=>h _ hm h' n' z
   have:y=(.fin,ts.un.headD 0):=by simpa using m
   rw[this];exact fun h n z=>by cases z
  cases ha
 |use n=>injection ha with ha;subst ha;exact{h.snoc rfl (fun h n z=>by cases z),by simp[oN],by simp[oN]}
inductive W7(t:aE)(vs:List V)(H:Hp)(Q:VK)(E:XK):Prop|mk:∀G r R row c q tp pA uA ts pa ps,vs=[.ref r,.ref tp]->RT t G H r R row (c::q) tp pA uA ts pa ps->pN ts->ts.parts.length<50000->ts.un.length<50000->PQ t G r R row tp pA uA Q (oY ts (c::q))->W7 t vs H Q E
theorem akk(T:Txt K mg t):aQ P w K mg base 12 t.G7 CJ (W7 t):=by
 exists T.adi,amA;obtain⟨G,r,R,row,c,q,tp,pA,uA,ts,pa,ps,rfl,h,hbk,hl,hu,k⟩:=h;obtain⟨dr,er⟩:=h.rf.rd.ob;have cD:=hr.mono (show 2<=11 by decide);have dS:=hr.mono (show 3<=11 by decide);have Bw:=hr.mono (show 6<=11 by decide);have HV:=hr.mono (show 9<=11 by decide);refine{_,ak (bA (bW (bY (pv 0) T.cq.cl T.ua (uj T) cD (aq cM aA))) (au (aM (dh (ake T) T.aeZ Bw (aq (pv 0) (aq (pv 1) aA))))) bH)
  (ak (bA (bW (bY (pv 0) T.cq.cl T.ua (uj T) cD (aq cM aA))) (au (aM (dh (aki T) T.ae3 hr (aq (pv 0) (aq (pv 1) aA))))) bH)
  (ak (bA (bW (cE (pv 0) T.cq.cl T.Ru (Sn T) dS)) (au (aM (dh (akd T) T.aeX Bw (aq (pv 0) (aq (pv 1) aA))))) bH)
  (au (aM (dh (akm T) T.ae7 HV (aq (pv 0) (aq (pv 1) aA))))))),?_}
 simp![er];refine{r,R,row,true,c::q,[60,47],rfl,h.rf.rd,by decide,fun H1 b1 d1=>{_,rfl,?_}};have h1:=h.cR b1 d1;cases hf:front [60,47] (c::q)with
 |some z=>simp![bC];rw[adW (by rw[hf];rfl)]at k;exact{G,r,R,row,c::q,tp,pA,uA,ts,pa,ps,rfl,h1,hbk,hl,hu,k}|none=>
  obtain⟨Op,nT⟩:=h1.rf.rd.ob;simp![nT];refine{r,R,row,true,c::q,[60],rfl,h1.rf.rd,by decide,fun H2 b2 d2=>{_,rfl,?_}};have h2:=h1.cR b2 d2;by_cases hc:c=60
  .subst hc;rw[show front [60] (60::q)=some q by simp[front]];simp![bC];rw[adX hf]at k;exact{G,r,R,row,_,tp,pA,uA,ts,pa,ps,rfl,h2,hbk,hl,hu,k}
  rw[i9 hc];obtain⟨xQ,kW⟩:=h2.rf.rd.ob;simp![kW];refine{r,R,row,true,c,q,rfl,h2.rf.rd,fun H3 b3 d3=>{_,rfl,?_}};have h3:=h2.cR b3 d3;by_cases hb:c=123/\other q=true
  .obtain⟨rfl,ho⟩:=hb;rw[show(true&&(123==123)&&other q)=true by simp[ho]];simp![bC];rw[adV ho]at k;exact{(G),r,R,row,q,tp,pA,uA,ts,pa,ps,rfl,h3,hbk,hl,hu,ho,k}
  rw[show(true&&(c==123)&&other q)=false by
   cases ho:other q
   .simp
   simp;intro z;exact hb {(z),ho}]
  simp![bC];rw[adY hc hb]at k;exact{G,r,R,row,_,tp,pA,uA,ts,pa,ps,rfl,h3,hbk,hl,hu,k}
section
inductive oM(t:aE)(N:Hp)(tp:U)(ts:TS):Prop|mk:∀dx pA uA,∀(pa:List U),N tp=some (.am t.g9 dx (gl (.ref pA) (.int (ts.depth:Int)) (.ref uA)))->N pA=some (.ag (pa.map V.ref))->pa.length=ts.parts.length->(∀(i:Nat) a x,pa[i]?=some a->ts.parts[i]?=some x->fS t N N a x)->oM t N tp ts
theorem oM.mono(h:oM t N tp ts)(s:aw N N'):oM t N' tp ts:=by obtain⟨dx,pA,uA,pa,e1,e2,e3,e4⟩:=h;refine{dx,pA,uA,pa,s _ _ e1,s _ _ e2,e3,fun i a x q1 q2=>?_};obtain⟨o,eo,p⟩:=e4 i a x q1 q2;exact{o,s _ _ eo,p.mono s}
theorem cQ.anf{G0:Hp}(h:cQ t G H tp pA uA ts pa ps)(d:∀b,G b=none->G0 b=none):oM t (aH G0 H) tp ts:=by
 obtain⟨dx,e⟩:=h.ob;have s:aw (br G H (Mu tp pA uA ps)) (aH G0 H):=fun b o hb=>by rw[A5]at hb;exact fI.mpr {d b hb.1,hb.2.2}
 refine{dx,pA,uA,pa,fI.mpr {d _ (h.fr _ (.inl rfl)),e},fI.mpr {d _ (h.fr _ (.inr (.inl rfl))),h.pl},h.bu,fun i a x q1 q2=>?_};obtain⟨o,eo,p⟩:=h.at_ i a x q1 q2;exact{o,fI.mpr {d _ (h.fr _ (.inr (.inr (.inr (h.sub a (fh q1)))))),eo},p.mono s}
open Classical in
noncomputable def AG(H:Hp)(M:U->Prop):Hp:=fun b=>if M b then none else H b
theorem AH{M:U->Prop}(h:M b):AG H M b=none:=az h
theorem pZ{M:U->Prop}(h:¬ M b):AG H M b=H b:=ao h
def ZP(t:aE)(H:Hp)(Q:VK):Option TS->Prop|none=>∀H',aw H H'->Q .aN H'|some ts=>∀H' tp,aw H H'->oM t (aH H H') tp ts->Q (.ref tp) H'
inductive Xu(t:aE)(vs:List V)(H:Hp)(Q:VK)(E:XK):Prop|mk:∀R row,vs=[.ref R]->H R=some (.ag (vb row))->row.length<=20000->ZP t H Q (ib row)->Xu t vs H Q E
theorem akl(T:Txt K mg t):aQ P w K mg base 13 t.G8 Ky (Xu t):=by
 exists T.adj,Lm;obtain⟨R,row,rfl,hR,hl,k⟩:=h;have bG:=hr.mono (show 1<=12 by decide);have cD:=hr.mono (show 2<=12 by decide);refine{_,ak (b9 (i:=1) Lm.nd rfl (bx rfl) (wC T.j7 (ajK T) cD))
  (ak (b9 (i:=2) Lm.nd rfl (bx rfl) (iu T.cq (Jw T) cD (aq (pv 0) (aq dX aA))))
  (ak (pC PassesOwn.never (fe (bW (cE (pv 2) T.cq.cl T.qm (qv T) bG)))
   (au (bA (fe (bW (dh (akk T) T.ae4 hr (aq (pv 2) (aq (pv 1) aA))))) (au (aM oo)) bH)))
  (au (aM (mV (cg cV (cN dH T.cK (pf 1)) bV (bD _)) (pv 1) oo))))),?_}
 simp![bC];intro tp dt nt yQ nxt;refine{tp,dt,rfl,ay,fun H1 pA uA b1 np nu npu e1 p1 u1=>{rfl,?_}};have s1:aw H H1:=iq nt yQ b1;have free:∀{a:U},_L.ae (_L.ae H dt (.own tp)) tp (.am t.g9 dt []) a=none->H a=none:=fun{a} h=>by cases ha:H a with|none=>rfl|some o=>rw[aj (aC ha nt),aj (aC ha yQ),ha]at h;cases h
 simp![bC];intro r dr nr kh nxr;have rF:=s1 _ _ hR;have yh:_L.ae (_L.ae H1 dr (.own r)) r (.am t.eY dr []) R=some (.ag (vb row)):=by rwa[aj (aC rF nr),aj (aC rF kh)]
 refine{r,R,row,true,dr,rfl,ay,yh,hl,fun H2 b2 d2=>{rfl,?_}};have s2:aw H1 H2:=iq nr kh b2;have s02:=s1.trans s2;have nR:∀{o:HO},H R=some o->¬ Mu tp pA uA [] R:=fun hR z=>by
  rcases z with z |z |z |z
  .rw[z,nt]at hR;cases hR
  .rw[z,free np]at hR;cases hR
  .rw[z,free nu]at hR;cases hR
  cases z
 have nr':¬ Mu tp pA uA [] r:=fun z=>by
  rcases z with z |z |z |z
  .rw[z,e1]at nr;cases nr
  .rw[z,p1]at nr;cases nr
  .rw[z,u1]at nr;cases nr
  cases z
 obtain⟨G,hG⟩:∃G,G=AG H2 (Mu tp pA uA []):={_,rfl};have gn:∀b,G b=none->H b=none:=fun b hb=>by
  cases hx:H b with
  |none=>rfl|some o=>
   have:¬ Mu tp pA uA [] b:=fun z=>by
    rcases z with z |z |z |z
    .rw[z,nt]at hx;cases hx
    .rw[z,free np]at hx;cases hx
    .rw[z,free nu]at hx;cases hx
    cases z
   rw[hG,pZ this,s02 b o hx]at hb;cases hb
 have gs:∀b o,G b=some o->H2 b=some o:=fun b o hb=>by
  by_cases hm:Mu tp pA uA [] b
  .rw[hG,AH hm]at hb;cases hb
  rwa[hG,pZ hm]at hb
 have D2:bI G H2:=fun b hb=>by cases hx:G b with|none=>rfl|some o=>rw[gs b o hx]at hb;cases hb
 obtain⟨xQ,kW⟩:=d2.ob;have gr:∃o,G r=some o:={_,by rw[hG,pZ nr'];exact kW};have gR:∃o,G R=some o:={_,by rw[hG,pZ (nR hR)];exact d2.rw};have f2:RF t G H2 r R row true row:={d2,gr,gR,fun b o hb _=>gs b o hb,D2};have M2:cQ t G H2 tp pA uA jG [] []:=by refine{{dt,s2 _ _ e1},s2 _ _ p1,s2 _ _ u1,npu,rfl,fun i a x q _=>by simp at q,uL,fun a m=>(by cases m),fun b z=>by rw[hG];exact AH z,D2,fun b m=>(by cases m),fun u m=>(by cases m)}
 have fin:∀H' z,RF t G H' r R row true z->aw H H':=fun H' z f b o hb=>by
  have hbr:b≠r:=fun zz=>by have:=s1 _ _ hb;rw[zz,nr]at this;cases this
  have:¬ Mu tp pA uA [] b:=fun z=>by
   rcases z with z |z |z |z
   .rw[z,nt]at hb;cases hb
   .rw[z,free np]at hb;cases hb
   .rw[z,free nu]at hb;cases hb
   cases z
  exact f.keep b o (by rw[hG,pZ this];exact s02 b o hb) hbr
 simp![bC];refine su (fun m σ H'=>∃rest1 mj pa ps f,σ=[some (V.ref R),some (V.ref tp),some (V.ref r)]/\RT t G H' r R row rest1 tp pA uA mj pa ps/\m=rest1.length/\pN mj/\mj.parts.length<=2*(row.length-rest1.length)/\mj.un.length<=row.length-rest1.length/\rest1.length<f/\iC (row.length+1) jG row=iC f mj rest1) {_,row,jG,[],[],row.length+1,rfl,{(f2),M2},rfl,fun x m=>(by cases m),by simp[jG],by simp[jG],by lia,rfl} ?_;intro W X hW hX m σ H3 hw;obtain⟨rest1,mj,pa,ps,f,rfl,h3,rfl,hbk,hpl,n9,hf,mQ⟩:=hw;obtain⟨ER,tG⟩:=h3.rf.rd.ob;simp![tG];refine{r,R,row,true,rest1,rfl,h3.rf.rd,_,rfl,?_};cases rest1 with
 |nil=>
  rw[hX];obtain⟨Ox,re⟩:=h3.tm.ob;simp![fM,re];refine{_,.inl (aB.of h3.tm.ul),?_};have e5:ib row=if mj.un=[]then some mj else none:=by unfold ib;rw[mQ];cases f with|zero=>lia|succ f=>rfl
  rw[e5]at k;by_cases hun:mj.un=[]
  .rw[az hun]at k;simp![fM,re];rw[az (by simp[vi,hun])];simp![fM,re];exact k H3 tp (fin H3 _ h3.rf) (h3.tm.anf gn)
  rw[ao hun]at k;simp![fM,re];rw[ao (by have:mj.un.length≠0:=fun z=>hun (jN.mp z);simp[vi];lia)];exact k H3 (fin H3 _ h3.rf)
 |cons c q=>
  simp![jP,reduceCtorEq];have hle:=h3.rf.rd.lt;refine{Nx W (q.length+1),fun _ _ h=>h,G,r,R,row,c,q,tp,pA,uA,mj,pa,ps,rfl,h3,hbk,by lia,by lia,?_};cases f with
  |zero=>lia|succ f=>
   have mQ:iC (row.length+1) jG row=(ev (c::q)).bind fun x=>(app mj x.1).bind fun t=>iC f t x.2:=mQ;unfold oY;cases he:ev (c::q)with
   |none=>
    intro H4 z f4;simp![bC];rw[he]at mQ;have:ib row=none:=by unfold ib;rw[mQ];rfl
    rw[this]at k;exact k H4 (fin H4 z f4)
   |some x=>
    obtain⟨e,z⟩:=x;have lz:=(xZ he).2;simp?[bJ]at lz hle hpl n9 hf;rw[he]at mQ;simp?[bM]at mQ⊢;cases ha:app mj e with
    |none=>
     intro H4 z' f4;simp![bC];rw[ha]at mQ;have:ib row=none:=by unfold ib;rw[mQ];rfl
     rw[this]at k;exact k H4 (fin H4 z' f4)
    |some ts2=>intro H4 kq mX h4;simp![bC];rw[ha]at mQ;simp?[bM]at mQ;obtain⟨o1,o2,o3⟩:=Au he ha hbk;refine{z.length,lz,?_};rw[hW];exact{z,ts2,kq,mX,f,rfl,h4,rfl,o1,by lia,by lia,by lia,mQ}
end
theorem Q0:V.str "opening"=S [111,112,101,110,105,110,103]:=rfl
theorem QZ:V.str "closing"=S [99,108,111,115,105,110,103]:=rfl
theorem ahb:V.str "text"=S [116,101,120,116]:=rfl
theorem aha:V.str "{*"=S [123,42]:=rfl
theorem ag9:V.str "{/"=S [123,47]:=rfl
theorem ahc:V.str "{>"=S [123,62]:=rfl
theorem qQ{a b:aa}:S a=S b↔a=b:={lL,fun h=>by rw[h]}
theorem adK(a b:aa):oW (S a) (S b)=decide (a=b):=by show decide ((⟨a.toArray⟩:ac)=⟨b.toArray⟩)=_;exact oC.mpr (sq a b)
theorem Ix(n:aa)(l:List aa):qj (S n) (l.map S)=l.contains n:=by
 unfold qj;rw[qF,List.contains_eq_any_beq];congr 1;funext b;show oW (S b) (S n)=_;rw[adK];by_cases h:b=n
 .subst h;simp
 have:n≠b:=fun z=>h z.symm;simp[h,this]
theorem xI(n:aa):qj (S n) [V.str "script",V.str "style",V.str "iframe",V.str "object",V.str "embed"]=kC n:=by have:=Ix n (["script","style","iframe","object","embed"].map lD);rwa[←show [V.str "script",V.str "style",V.str "iframe",V.str "object",V.str "embed"]=(["script","style","iframe","object","embed"].map lD).map S from rfl]at this
theorem amY(n:aa):Txt.startswith (⟨n.toArray⟩:ac) "on"=(n.take 2==[111,110]):=by
 unfold PySem.Txt.startswith;rw[aqz];show(decide (0+2<=n.toArray.size)&&(n.take 2==[111,110]))=_;by_cases h:2<=n.length
 .rw[show decide (0+2<=n.toArray.size)=true from gG (by simpa using h),uE]
 have:(n.take 2==[111,110])=false:=kO.mpr fun z=>by have:=eU kE z;simp at this;lia
 rw[this,zG]
inductive Ly(vs:List V)(H:Hp)(Q:VK)(E:XK):Prop|mk:∀n,vs=[S n]->Q (.bl (ji n)) H->Ly vs H Q E
theorem aj5(T:Txt K mg t):aQ P w K mg base 1 t.GR CD Ly:=by
 exists T.acR,amv;obtain⟨n,rfl,k⟩:=h;refine{_,au (aM (wz (fw rZ (pv 0) (l7 T.alx) (by rfl)) (oq (fb PySem.F.plainAttrs_str PySem.F.slot_str_startswith PySem.F.type_str_startswith aii (pv 0) (aq (gf T.alN) aA))))),?_};simp![bC];refine{_,_,rfl,.inr (T.aln H),rfl,rfl,_,rfl,?_};have e:qj (S n) [V.str "style",V.str "srcdoc"]=(n==lD "style" ||n==lD "srcdoc"):=by have:=Ix n (["style","srcdoc"].map lD);rw[←show [V.str "style",V.str "srcdoc"]=(["style","srcdoc"].map lD).map S from rfl]at this;rw[this];simp?[DH,aoI,List.contains_nil,zJ]
 simp?[eE,cT];cases he:(n==lD "style" ||n==lD "srcdoc")with|true=>rw[show ji n=true by unfold ji;rw[he];rfl]at k;rw[he]at e;rw[az e];exact k|false=>rw[he]at e;rw[ao (by rw[e];decide)];simp![bC];refine{rfl,⟨n.toArray⟩,rfl,?_};rw[amY];rw[show ji n=(n.take 2==[111,110]) by unfold ji;rw[he];rfl]at k;exact k
def pQ(mp:MP):Prop:=∀h n,mp=.aU h n->h=63∨h=33∨h=42
theorem BH(ok:pQ mp)(h:∀n,mp≠.use n):¬ S (kindOf mp)=V.str "{>":=by
 rw[ahc,qQ];cases mp with
 |use n=>exact aJ rfl (h n)|aU w n=>rcases ok w n rfl with rfl |rfl |rfl<;>simp[kindOf]
 |_=>simp[kindOf]
theorem ahq(h:∀l,mp≠.bE l):¬ S (kindOf mp)=V.str "text":=by rw[ahb,qQ];cases mp with|bE l=>exact aJ rfl (h l)|_=>simp[kindOf]
theorem tZ(h:∀n a,mp≠.aS n a):¬ S (kindOf mp)=V.str "opening":=by rw[Q0,qQ];cases mp with|aS n a=>exact aJ rfl (h n a)|_=>simp[kindOf]
theorem we(h:∀n,mp≠.cls n):¬ S (kindOf mp)=V.str "closing":=by rw[QZ,qQ];cases mp with|cls n=>exact aJ rfl (h n)|_=>simp[kindOf]
theorem ahp(ok:pQ mp)(h:mp≠.fin):¬ S (kindOf mp)=V.str "{/":=by
 rw[ag9,qQ];cases mp with
 |fin=>exact aJ rfl h|aU w n=>rcases ok w n rfl with rfl |rfl |rfl<;>simp[kindOf]
 |_=>simp[kindOf]
theorem Q4(h:∀n,mp≠.aU 42 n):¬ S (kindOf mp)=V.str "{*":=by
 rw[aha,qQ];cases mp with
 |aU w n=>
  intro z;have:w=42:=by simpa[kindOf]using z
  subst this;exact h n rfl
 |_=>simp[kindOf]
noncomputable def brk(g:Bool)(n:aa)(x:dF):Bool:=x.2.any gC&&(g ||kC n ||ji x.1)
def Me(mp:MP):Bool:=match Dy mp with|some l=>l.any gC|none=>false
theorem aa3{g:Bool}(h:∀n,mp≠.use n)(hw:Me mp=false):kU mp g=(iW mp).any (brk g (dI mp)):=by
 cases mp with
 |use n=>exact aJ rfl (h n)|bE l=>have:l.any gC=false:=hw;simp?[kU,iW,this,zG,aoH]
 |aS n a=>rfl|_=>rfl
theorem am6{c:Prop} [Decidable c]{p X Y:Prop}(hX:(c->p)->X)(hc:c->(p->X)->Y):if c then Y else X:=by
 by_cases h:c
 .rw[az h];exact hc h fun q=>hX fun _=>q
 rw[ao h];exact hX fun z=>aJ z h
theorem alA(T:Txt K mg t){v0 v1 v3 v4:V}{g vg:Bool}(ea:H a=some (.am t.cW dx (cG v0 v1 (.ref lA) v3 v4)))(h1:H lA=some (.ag (adr.map V.ref)))(h2:fO t H adr as)
  (k:Q (.bl (as.any fun x=>x.2.any gC&&(vg ||ji x.1))) H):
  XT (QD K (kt K (dz 0) (Str.ofString "attributes"))) (rC 3) (Dj (De (tB (qB t.gv (Str.ofString "has_hole") (Lz t) [] E0 (kt K (dz 3) (Str.ofString "wording")) gQ)) (Dm (tB (dz 2)) (tB (wQ Ly [] E0 (lw (kt K (dz 3) (Str.ofString "name")) gQ))))) (zx (tC (V.bl true))) Dl)
   {nx:=zx (tC (V.bl false)) {nx:=fun x H'=>Q V.aN H',rt:=Q},rt:=Q} [some (V.ref a),some (V.bl g),some (V.bl vg),none] H:=by
 have la:=h2.bu;refine{_,rfl,a,_,_,_,_,rfl,ea,T.og.cl,T.Eo,O1 ..,lA,rfl,{_,aB.of h1},tJ (K:=K) (xs:=adr.map V.ref) (fun i σ H'=>(∃v3,σ=[some (V.ref a),some (V.bl g),some (V.bl vg),v3])/\H=H'/\(as.take i).any (fun x=>x.2.any gC&&(vg ||ji x.1))=false) {{(none),rfl},rfl,rfl} (fun i σ H' _ hp'=>hp'.2.1▸aB.of h1) ?_ ?_}
 .rintro i v σ _ hi ⟨⟨v3,rfl⟩,rfl,hno⟩;rw[dQ]at hi;cases hc:adr[i]? with
  |none=>rw[hc]at hi;cases hi|some c=>
   rw[hc]at hi;injection hi with hi
   subst hi;have bX:i<as.length:=by rw[←la];exact(fB.mp hc).1
   have hx:as[i]?=some as[i]:=gU bX;obtain⟨dy,wA,ey,pA,fA,hA,gs,hs,W,ip,kY⟩:=fO.gN h2 hc hx;have qe:(as.take (i+1)).any (fun x=>x.2.any gC&&(vg ||ji x.1))=(as[i].2.any gC&&(vg ||ji as[i].1)):=by rw[jO,hx,Mw,hno];simp
   have yA:(as[i].2.any gC&&(vg ||ji as[i].1))=true->as.any (fun x=>x.2.any gC&&(vg ||ji x.1))=true:=fun z=>sy.mpr {_,fh hx,z};generalize as[i]=x at hx ey ip qe yA;obtain⟨dw,ew⟩:=W.ob;simp![ey,ew];refine{wA,pA,fA,hA,gs,hs,rfl,W,?_};rw[ip];cases hh:x.2.any gC with|false=>rw[hh,zH]at qe;simp![];exact{{_,rfl},qe}|true=>rw[hh,uE]at qe yA;simp![];cases hv:vg with|true=>rw[yA (by rw[hv];rfl)]at k;simp![];exact k|false=>rw[hv,xb]at qe yA;simp![ey];refine{x.1,rfl,?_};cases hb:ji x.1 with|true=>rw[hv,yA hb]at k;simp![];exact k|false=>rw[hb]at qe;simp![];exact{{_,rfl},qe}
 rintro σ _ ⟨⟨v3,rfl⟩,rfl,hno⟩;rw[bL,la,kJ]at hno;rwa[hno]at k
inductive Wm(t:aE)(vs:List V)(H:Hp)(Q:VK)(E:XK):Prop|mk:∀a g mp k,vs=[.ref a,.bl g]->fS t H H a (mp,k)->pQ mp->Q (.bl (kU mp g)) H->Wm t vs H Q E
theorem ajX(T:Txt K mg t):aQ P w K mg base 2 t.GJ Km (Wm t):=by
 exists T.acI,Lf;obtain⟨a,g,mp,kk,rfl,hp,ok,k⟩:=h;obtain⟨o,ea,dx,lA,adr,wv,pk,rfl,h1,h2,h3,h4⟩:=hp;refine{_,ak (bA (iN (cg cV (pf 0) (gf T.wJ) (bD _)) (jE (jD (cg cV (pf 0) (gf T.UR) (bD _)) (mh (bW (cE (pf 0) T.k7.cl T.IX (JD T) hr)))).pt)).pt (au (aM (pv 1))) bH)
  (ak (b9 (i:=2) Lf.nd rfl (bx rfl) (wz (pv 1) (oq (fw rZ (pf 0) (l7 T.KU) (by rfl)))))
  (ak (mY PassesOwn.never rfl (l8 (pf 0)) (gq (i:=3) Lf.nd rfl (bx rfl))
   (au (bA (jD (bW (cE (pf 3) T.k7.cl T.IX (JD T) hr)) (mh (iN (bW (pv 2)) (jE (bW (dh (aj5 T) T.aeU hr (aq (pf 3) aA))))).pt)).pt (au (aM dX)) bH)))
  (au (aM dX)))),?_}
 simp_all![ea];refine{rfl,?_};by_cases hu:∃n,mp=.use n
 .obtain⟨n,rfl⟩:=hu;rwa[az (show S (kindOf (.use n))=V.str "{>"from rfl)]
 have hu:∀n,mp≠.use n:=fun n z=>hu {(n),z};rw[ao (BH ok hu)];refine{rfl,am6 (p:=Me mp=false) (fun hX=>?_) (fun hc hX=>?_)}
 .have hw:Me mp=false:=by
   by_cases ht:∃l,mp=.bE l
   .obtain⟨l,rfl⟩:=ht;exact hX rfl
   cases mp with|bE l=>exact aJ {(l),rfl} ht|_=>rfl
  rw[aa3 hu hw]at k;have go:=fun vg=>alA T (g:=g) (vg:=vg) (Q:=Q) ea h1 h2;cases g with|true=>rw[az rfl];refine go true ?_;rw[show brk true (dI mp)=fun x=>x.2.any gC&&(true ||ji x.1) by funext x;simp[brk]]at k;exact k|false=>rw[ao (by decide)];refine{_,_,rfl,.inr (T.ze H),rfl,rfl,?_};simp?[eE,cT];rw[xI];refine go _ ?_;rw[show brk false (dI mp)=fun x=>x.2.any gC&&(kC (dI mp) ||ji x.1) by funext x;simp[brk]]at k;exact k
 have ht:∃l,mp=.bE l:=by cases mp with|bE l=>exact{(l),rfl}|_=>exact aJ hc (ahq (by simp))
 obtain⟨l,rfl⟩:=ht;obtain⟨wA,rfl,pA,fA,hA,gs,hs,W,ip,kY⟩:=h3;obtain⟨dw,ew⟩:=W.ob;refine{wA,rfl,dw,_,ew,O2 ..,wA,pA,fA,hA,gs,hs,rfl,W,_,rfl,?_};rw[ip];cases hh:l.any gC with
 |true=>
  rw[az rfl];have:kU (.bE l) g=g:=by simp[kU,hh]
  rwa[this]at k
 |false=>rw[ao (by decide)];have hX:=hX hh;cases g with|true=>rw[az rfl]at hX⊢;exact hX|false=>rw[ao (by decide)]at hX⊢;exact{_,_,_,ea,T.og.cl,T.Nw,_,aeo ..,hX}
structure xF(ts:TS):Prop where
 bk:∀x∈ts.parts,pQ x.1
 at_:∀x∈ts.parts,(iW x.1).length<4000
 sz:ts.parts.length<50000
theorem fS.same{x:MP×Nat}(h:fS t H H a x)(s:aw H H'):fS t H' H' a x:=by obtain⟨o,e,p⟩:=h;exact{o,s _ _ e,p.mono s}
theorem pj{α β:Type}{l:List α}{f:α->β}{y:β}(h:(l.map f)[i]?=some y):∃x,l[i]?=some x/\y=f x:=by rw[dQ]at h;cases hx:l[i]? with|none=>rw[hx]at h;cases h|some x=>rw[hx]at h;injection h with h;exact{(x),rfl,h.symm}
theorem NF{l:PL}{g:MP->Bool}:(((l.map fun x=>g x.1)).any id)=l.any fun x=>g x.1:=by rw[qF];rfl
inductive C9(t:aE)(g:TS->Bool)(vs:List V)(H:Hp)(Q:VK)(E:XK):Prop|mk:∀tp ts,vs=[.ref tp]->oM t H tp ts->xF ts->(∀H',aw H H'->Q (.bl (g ts)) H')->C9 t g vs H Q E
theorem akE(T:Txt K mg t):aQ P w K mg base 2 t.GN Kp (C9 t fun ts=>ts.parts.any fun x=>qE x.1):=by
 exists T.acN,Lh;obtain⟨tp,ts,rfl,⟨dx,pA,uA,pa,e,hp,hl,hat⟩,ok,k⟩:=h;refine{_,au (aM (mU (vk rfl) (by rfl) T.ve vh (aq (qx (own:=[("part",1)]) (te:=wQ (LA t) [] E0 (lw (kt K (dz 1) "attributes") gQ)) rfl Lh.nd (l8 (pf 0)) (oO (by rfl)) (fun _ _ _ _ _=>gq (i:=1) Lh.nd rfl (bx rfl)) (fun _ _ _ _ _=>qy)
  (fun _ _ _ _ _=>dh (Sw T) T.Pd hr (aq (pf 1) aA))) aA))),?_}
 refine{_,rfl,tp,_,_,_,_,rfl,e,T.j7.cl,T.u9,x6 ..,pA,rfl,{_,aB.of hp},fun D hD=>yG (K:=K) (xs:=pa.map V.ref) ((ts.parts.map fun x=>qE x.1).map V.bl) hD hp (by simp[hl]) (by simp?[bL];have:=ok.sz;exact cx (by lia)) ?_ ?_}
 .intro i x y H' F Z hx hy s1 kF;obtain⟨a,ha,rfl⟩:=pj hx;rw[ic]at hy;obtain⟨z,hz,rfl⟩:=pj hy;obtain⟨o,ea,dp,lA,adr,wv,pk,rfl,h1,h2,h3,h4⟩:=(hat i a z ha hz).same s1;simp![cu,je,ea];refine{lA,adr,iW z.1,rfl,h1,h2,ok.at_ z (fh hz),fun oI s2=>?_};have:(!distinct ((iW z.1).map oz))=qE z.1:=by cases z.1<;>rfl
  rw[this];exact kF oI s2
 intro H' s1 qd;refine{D,_,rfl,aB.of qd,?_};rw[NF];exact k H' s1
theorem akb(T:Txt K mg t):aQ P w K mg base 1 t.GU Kr (C9 t fun ts=>decide (32<ts.depth) ||decide (1024<ts.parts.length) ||ts.parts.any fun x=>ke x.1):=by
 exists T.acS,Lj;obtain⟨tp,ts,rfl,⟨dx,pA,uA,pa,e,hp,hl,hat⟩,ok,k⟩:=h;refine{_,ak (bA (iN (cg gp (pf 0) (bS T.Ip) (bD _)) (jE (cg gp (cN dH T.cK (pf 0)) (bS T.agG) (bD _)))).pt (au (aM dX)) bH)
  (au (aM (mU (vk rfl) (by rfl) T.ve vh (aq (qx (own:=[("part",1)]) (te:=pF (mZ fun i j=>.bl (decide (j<i))) (wP (fun xs H Q=>∃p ys,xs=[V.ref p]/\(aB K H p ys∨eW K H p ys)/\Q (.int ys.length) H) (lw (kt K (dz 1) "attributes") gQ)) (tC (.int 8))) rfl Lj.nd (l8 (pf 0)) (oO (by rfl)) (fun _ _ _ _ _=>gq (i:=1) Lj.nd rfl (bx rfl)) (fun _ _ _ _ _=>qy)
   (fun _ _ _ _ _=>fw gp (cN dH T.cK (pf 1)) (bS T.QE) (bD _))) aA)))),?_}
 have k:∀H',aw H H'->Q (.bl (decide (32<ts.depth) ||decide (1024<ts.parts.length) ||ts.parts.any fun x=>ke x.1)) H':=k;simp![e];by_cases h1:32<ts.depth
 .rw[az (by lia)];rw[gG h1]at k;exact k H (aw.refl _)
 rw[ao (by lia)];simp![e];refine{_,.inl (aB.of hp),?_};rw[bL,hl];by_cases h2:1024<ts.parts.length
 .simp![e];rw[az (by lia)];rw[gG h2,Mp]at k;exact k H (aw.refl _)
 simp![e];rw[ao (by lia)];rw[dM h1,dM h2,xb,xb]at k;simp![e];refine{_,rfl,tp,_,_,_,_,rfl,e,T.j7.cl,T.u9,x6 ..,pA,rfl,{_,aB.of hp},fun D hD=>yG (K:=K) (xs:=pa.map V.ref) ((ts.parts.map fun x=>ke x.1).map V.bl) hD hp (by simp[hl]) (by simp?[bL];have:=ok.sz;exact cx (by lia)) ?_ ?_}
 .intro i x y H' F Z hx hy s1 kF;obtain⟨a,ha,rfl⟩:=pj hx;rw[ic]at hy;obtain⟨z,hz,rfl⟩:=pj hy;obtain⟨o,ea,dp,lA,adr,wv,pk,rfl,h1,h2,h3,h4⟩:=(hat i a z ha hz).same s1;simp![cu,je,ea];refine{_,.inl (aB.of h1),?_};have:decide ((8:Int)<((adr.map V.ref).length:Int))=ke z.1:=by rw[bL,h2.bu];generalize z.1=mp;cases mp with|aS m a=>exact oC.mpr (by show(8:Int)<(a.length:Int)↔8<a.length;lia)|_=>rfl
  simp![cu,je,ea];rw[this];exact kF H' (aw.refl _)
 intro H' s1 qd;refine{D,_,rfl,aB.of qd,?_};rw[NF];exact k H' s1
noncomputable def kx(ts:TS)(n:aa):Bool:=ts.parts.any fun x=>decide (ou x.1=some n)
theorem anA(ok:pQ mp)(n:aa):decide (ou mp=some n)=if S (kindOf mp)=V.str "{>"then decide (S (dI mp)=S n)else false:=by
 by_cases h:∃m,mp=.use m
 .obtain⟨m,rfl⟩:=h;rw[az (show S (kindOf (.use m))=V.str "{>"from rfl)];exact oC.mpr (by simp[dI,ou,qQ])
 have h':∀m,mp≠.use m:=fun m z=>h {(m),z};rw[ao (BH ok h')];cases mp with|use m=>exact aJ rfl (h' m)|_=>simp[ou]
inductive LB(t:aE)(vs:List V)(H:Hp)(Q:VK)(E:XK):Prop|mk:∀tp ts n,vs=[.ref tp,S n]->oM t H tp ts->xF ts->(∀H',aw H H'->Q (.bl (kx ts n)) H')->LB t vs H Q E
theorem akF(T:Txt K mg t):aQ P w K mg base 1 t.Gx Ki (LB t):=by
 exists T.acx,Le;obtain⟨tp,ts,n,rfl,⟨dx,pA,uA,pa,e,hp,hl,hat⟩,ok,k⟩:=h;refine{_,au (aM (mU (vk rfl) (by rfl) T.ve vh (aq (qx (own:=[("part",2)]) (te:=zt (pF qz (kt K (dz 2) "kind") (tC (.str "{>"))) (pF qz (kt K (dz 2) "name") (dz 1))) rfl Le.nd (l8 (pf 0)) (oO (by rfl)) (fun _ _ _ _ _=>gq (i:=2) Le.nd rfl (bx rfl)) (fun _ _ _ _ _=>qy)
  (fun _ _ _ _ _=>wu (fw cV (pf 2) (gf T.wJ) (bD _)) (oq (fw cV (pf 2) (pv 1) (bD _))))) aA))),?_}
 refine{_,rfl,tp,_,_,_,_,rfl,e,T.j7.cl,T.u9,x6 ..,pA,rfl,{_,aB.of hp},fun D hD=>yG (K:=K) (xs:=pa.map V.ref) ((ts.parts.map fun x=>decide (ou x.1=some n)).map V.bl) hD hp (by simp[hl]) (by simp?[bL];have:=ok.sz;exact cx (by lia)) ?_ ?_}
 .intro i x y H' F Z hx hy s1 kF;obtain⟨a,ha,rfl⟩:=pj hx;rw[ic]at hy;obtain⟨z,hz,rfl⟩:=pj hy;obtain⟨o,ea,dp,lA,adr,wv,pk,rfl,h1,h2,h3,h4⟩:=(hat i a z ha hz).same s1;have lZ:=kF H' (aw.refl _);have lZ:F (V.bl (decide (ou z.1=some n))) H':=lZ;rw[anA (ok.bk z (fh hz))]at lZ;simp![cu,je,ea];refine{rfl,?_};by_cases hk:S (kindOf z.1)=V.str "{>"
  .simp![cu,je,ea];rw[az hk]at lZ⊢;simp![cu,je,ea];exact{(rfl),lZ}
  simp![cu,je,ea];rw[ao hk]at lZ⊢;exact lZ
 intro H' s1 qd;refine{D,_,rfl,aB.of qd,?_};have:((ts.parts.map fun x=>decide (ou x.1=some n)).any id)=kx ts n:=by rw[qF];rfl
 rw[this];exact k H' s1
theorem afe(g:Int)(mp:MP):j0 g mp=(if kC (dI mp)=true/\S (kindOf mp)=V.str "closing"then (if kC (dI mp)=true/\S (kindOf mp)=V.str "opening"then g+1 else g)-1 else (if kC (dI mp)=true/\S (kindOf mp)=V.str "opening"then g+1 else g)):=by
 cases mp with
 |aS n a=>have h1:¬ S (kindOf (.aS n a))=V.str "closing":=we (by simp);simp?[h1,and_false,cT,dI,j0];have h2:S (kindOf (.aS n a))=V.str "opening":=rfl;simp?[h2,and_true]|cls n=>have h1:¬ S (kindOf (.cls n))=V.str "opening":=tZ (by simp);simp?[h1,and_false,cT,dI,j0];have h2:S (kindOf (.cls n))=V.str "closing":=rfl;simp?[h2,and_true]
 |bE l=>have h1:¬ S (kindOf (.bE l))=V.str "opening":=tZ (by simp);have h2:¬ S (kindOf (.bE l))=V.str "closing":=we (by simp);simp?[h1,h2,and_false,cT,j0]|aU w n=>have h1:¬ S (kindOf (.aU w n))=V.str "opening":=tZ (by simp);have h2:¬ S (kindOf (.aU w n))=V.str "closing":=we (by simp);simp?[h1,h2,and_false,cT,j0]
 |fin=>have h1:¬ S (kindOf .fin)=V.str "opening":=tZ (by simp);have h2:¬ S (kindOf .fin)=V.str "closing":=we (by simp);simp?[h1,h2,and_false,cT,j0]|use n=>have h1:¬ S (kindOf (.use n))=V.str "opening":=tZ (by simp);have h2:¬ S (kindOf (.use n))=V.str "closing":=we (by simp);simp?[h1,h2,and_false,cT,j0]
theorem aj2(T:Txt K mg t):aQ P w K mg base 3 t.GL Ko (C9 t fun ts=>gL 0 (ts.parts.map (·.1))):=by
 exists T.acM,zm;obtain⟨tp,ts,rfl,⟨dx,pA,uA,pa,e,hp,hl,hat⟩,ok,k⟩:=h;refine{_,ak (b9 (i:=1) zm.nd rfl (bx rfl) bV)
  (ak (mY PassesOwn.never rfl (l8 (pf 0)) (gq (i:=2) zm.nd rfl (bx rfl))
   (ak (bA (bW (dh (ajX T) T.aeR hr (aq (pv 2) (aq (fw gp (pv 1) bV (bD _)) aA)))) (au (aM dX)) bH)
   (ak (bA (jD (cg rZ (pf 2) (l7 T.KU) (by rfl)) (mh (cg cV (pf 2) (gf T.CY) (bD _)))).pt (au (KP (i:=1) zm.nd rfl (bx rfl) bV agZ)) bH)
   (au (bA (jD (cg rZ (pf 2) (l7 T.KU) (by rfl)) (mh (cg cV (pf 2) (gf T.CW) (bD _)))).pt (au (KP (i:=1) zm.nd rfl (bx rfl) bV ag1)) bH)))))
  (au (aM dX))),?_}
 have k:∀H',aw H H'->Q (.bl (gL 0 (ts.parts.map (·.1)))) H':=k;simp![bC];refine{_,rfl,tp,_,_,_,_,rfl,e,T.j7.cl,T.u9,x6 ..,pA,rfl,{_,aB.of hp},tJ (K:=K) (xs:=pa.map V.ref) (fun i σ H'=>(∃g v2,σ=[some (V.ref tp),some (V.int g),v2]/\gL 0 (ts.parts.map (·.1))=gL g ((ts.parts.drop i).map (·.1)))/\H=H') {{0,none,rfl,rfl},rfl} (fun i σ H' _ hp'=>hp'.2▸aB.of hp) ?_ ?_}
 .rintro i v σ _ hi ⟨⟨g,v2,rfl,hf⟩,rfl⟩;obtain⟨a,ha,rfl⟩:=pj hi;have bX:i<ts.parts.length:=by rw[←hl];exact(fB.mp ha).1
  have hz:ts.parts[i]?=some ts.parts[i]:=gU bX;have vT:=hat i a _ ha hz;have aO:=ok.bk _ (fh hz);rw[zP bX,cI]at hf;generalize ts.parts[i]=z at hz vT aO hf;have age:=vT;obtain⟨o,ea,dp,lA,adr,wv,pk,rfl,h1,h2,h3,h4⟩:=age;simp![bC];refine{a,_,z.1,z.2,rfl,vT,aO,?_};have hf:gL 0 (ts.parts.map (·.1))=if kU z.1 (decide (0<g))=true then true else gL (j0 g z.1) ((ts.parts.drop (i+1)).map (·.1)):=hf
  cases hb:kU z.1 (decide (0<g))with
  |true=>rw[hb,az rfl]at hf;rw[hf]at k;simp![];exact k H (aw.refl _)|false=>
   rw[hb,ao (by decide),afe]at hf;simp![ea];refine{_,_,rfl,.inr (T.ze H),rfl,rfl,?_};simp?[eE,cT];rw[xI];have Bv:S (kindOf z.1)=V.str "opening"->¬ S (kindOf z.1)=V.str "closing":=fun q=>by rw[q,Q0,QZ,qQ];decide
   cases hbe:kC (dI z.1)with
   |false=>rw[hbe]at hf;simp?[eE,false_and,cT]at hf;simp![ea];refine{_,_,rfl,.inr (T.ze H),rfl,rfl,?_};simp?[eE,cT];rw[xI,hbe];simp![];exact hf|true=>
    simp?[hbe,bC]at hf;simp![ea];refine{rfl,?_};simp![];by_cases ho:S (kindOf z.1)=V.str "opening"
    .have hc:=Bv ho;rw[az ho]at hf⊢;rw[ao hc]at hf;simp![ea];refine{_,_,rfl,.inr (T.ze H),rfl,rfl,?_};simp?[eE,cT];rw[xI,hbe];simp![ea];refine{rfl,?_};simp![];rw[ao hc];simp![];exact hf
    rw[ao ho]at hf⊢;simp![ea];refine{_,_,rfl,.inr (T.ze H),rfl,rfl,?_};simp?[eE,cT];rw[xI,hbe];simp![ea];refine{rfl,?_};simp![];by_cases hc:S (kindOf z.1)=V.str "closing"
    .rw[az hc]at hf⊢;simp![];exact hf
    rw[ao hc]at hf⊢;simp![];exact hf
 rintro σ _ ⟨⟨g,v2,rfl,hf⟩,rfl⟩;rw[bL,hl,List.drop_length]at hf;rw[hf]at k;simp![];exact k H (aw.refl _)
theorem Hh{J:It}{n:Nat}{val:Nat->V->Prop}{g:TG}{tb:_L.TS}{D:Ends}{σ:_L.St}{H:Hp}(Pv:Nat->_L.St->Hp->Prop)(h0:Pv 0 σ H)(go:∀i σ H,i<n->Pv i σ H->J.go i H)(st:∀σ H,Pv n σ H->J.cF n H)
  (yl:∀i σ H x H',i<n->Pv i σ H->J.lC i H x H'->H=H'/\val i x)(hs:∀i x σ H,i<n->val i x->Pv i σ H->g x σ H fun σ2 H2=>tb {D with nx:=Pv (i+1),ct:=Pv (i+1),bk:=D.nx} σ2 H2)(hd:∀σ H,Pv n σ H->D.nx σ H):
  ∃W:Nat->Nat->_L.St->Hp->Prop,(∃m,W 0 m σ H)/\∀i m σ H,W i m σ H->(J.cF i H/\D.nx σ H)∨(J.go i H/\∃N:_L.St->Hp->Prop,(∀σ' H',N σ' H'->∃m',m'<m/\W (i+1) m' σ' H')/\∀x H',J.lC i H x H'->g x σ H' fun σ2 H2=>tb {D with nx:=N,ct:=N,bk:=D.nx} σ2 H2):=by
 refine{fun i m σ H=>m=n-i/\i<=n/\Pv i σ H,{n,by simp,dE _,h0},?_};rintro i m σ H ⟨rfl,hi,p⟩;by_cases bX:i<n
 .refine .inr {go i σ H bX p,Pv (i+1),fun σ' H' p'=>{n-(i+1),by lia,rfl,bX,p'},fun x H' y=>?_};obtain⟨e,hv⟩:=yl i σ H x H' bX p y;subst e;exact hs i x σ _ bX hv p
 have e:i=n:=by lia
 subst e;exact .inl {st σ H p,hd σ H p}
theorem Q7{J:It}{n:Nat}{val:Nat->V->Prop}{g:TG}{tt:TT}{te:TE}{vs:List Nat}{σ:_L.St}{Qd:Hp->Prop}(Pv:Nat->Hp->Prop)(h0:Pv 0 (_L.ae H1 D (.ag [])))(go:∀i H,i<n->Pv i H->J.go i H)(st:∀H,Pv n H->J.cF n H)
  (yl:∀i H x H',i<n->Pv i H->J.lC i H x H'->H=H'/\val i x)(hs:∀i x H,i<n->val i x->Pv i H->g x (cu σ vs) H fun σ2 H2=>cu σ2 vs=cu σ vs/\tt σ2 H2 fun b H3=>if b=true then te σ2 H3 fun y H4=>∃acc,H4 D=some (.ag acc)/\acc.length<cp/\Pv (i+1) (_L.ae H4 D (.ag (acc++[y])))else Pv (i+1) H3)(hd:∀H,Pv n H->Qd H):
  ∃W:Nat->Nat->Hp->Prop,(∃m,W 0 m (_L.ae H1 D (.ag [])))/\∀i m H,W i m H->(J.cF i H/\Qd H)∨(J.go i H/\∃Nx:Hp->Prop,(∀H',Nx H'->∃m',m'<m/\W (i+1) m' H')/\∀x H',J.lC i H x H'->g x (cu σ vs) H' fun σ2 H2=>cu σ2 vs=cu σ vs/\tt σ2 H2 fun b H3=>if b=true then te σ2 H3 fun y H4=>∃acc,H4 D=some (.ag acc)/\acc.length<cp/\Nx (_L.ae H4 D (.ag (acc++[y])))else Nx H3):=by
 refine{fun i m H=>m=n-i/\i<=n/\Pv i H,{n,by simp,dE _,h0},?_};rintro i m H ⟨rfl,hi,p⟩;by_cases bX:i<n
 .refine .inr {go i H bX p,Pv (i+1),fun H' p'=>{n-(i+1),by lia,rfl,bX,p'},fun x H' y=>?_};obtain⟨e,hv⟩:=yl i H x H' bX p y;subst e;exact hs i x _ bX hv p
 have e:i=n:=by lia
 subst e;exact .inl {st H p,hd H p}
structure DR(H:Hp)(d:U)(ks:List (aa×U))(f:aa->List V):Prop where
 dk:H d=some (.dK (ks.map fun x=>(bf x.1,V.ref x.2)))
 nd:(ks.map (·.1)).Nodup
 na:(ks.map (·.2)).Nodup
 rw:∀n l,(n,l)∈ks->H l=some (.ag (f n))
 no:∀n,n ∉ ks.map (·.1)->f n=[]
noncomputable def sX(f:aa->List V)(n:aa)(v:V):aa->List V:=fun m=>if m=n then f n++[v]else f m
theorem Ar(f:aa->List V)(n:aa)(v:V):sX f n v n=f n++[v]:=az rfl
theorem vc{f:aa->List V}{m:aa}{v:V}(h:m≠n):sX f n v m=f m:=ao h
theorem DR.mono{f:aa->List V}(h:DR H d ks f)(s:aw H H'):DR H' d ks f:={s _ _ h.dk,h.nd,h.na,fun n l m=>s _ _ (h.rw n l m),h.no}
theorem DR.aP{A:U->Prop}{ks:List (aa×U)}{f:aa->List V}(h:DR H d ks f)(s:ah A H H')(n1:¬ A d)(n2:∀x∈ks,¬ A x.2):DR H' d ks f:={s _ _ n1 h.dk,h.nd,h.na,fun n l m=>s _ _ (n2 _ m) (h.rw n l m),h.no}
theorem DR.ext{f f':aa->List V}(h:DR H d ks f)(e:∀n,f' n=f n):DR H d ks f':=by have:f'=f:=funext e;subst this;exact h
theorem DR.ne{f:aa->List V}(h:DR H d ks f){x:aa×U}(m:x∈ks):x.2≠d:=cr (h.rw x.1 x.2 m) h.dk (by intro z;cases z)
theorem DR.new(e:H d=some (.dK [])):DR H d [] fun _=>[]:={e,uL,uL,fun n l m=>(by cases m),fun _ _=>rfl}
structure pR(H:Hp)(ks ks':List (aa×U))(n:aa):Prop where
 or:(ks'=ks/\n∈ks.map (·.1))∨∃p,H p=none/\ks'=ks++[(n,p)]/\n ∉ ks.map (·.1)
theorem pR.mem(h:pR H ks ks' n){m:aa}:m∈ks'.map (·.1)↔m∈ks.map (·.1)∨m=n:=by
 rcases h.or with⟨rfl,h⟩ |⟨p,_,rfl,_⟩
 .constructor
  .exact .inl
  rintro (z |rfl)
  .exact z
  exact h
 simp[or_comm]
theorem pR.rX{ks':List (aa×U)}(h:pR H ks ks' n):∀x∈ks',x∈ks∨H x.2=none:=by
 rcases h.or with⟨rfl,_⟩ |⟨p,hp,rfl,_⟩
 .exact fun x m=>.inl m
 intro x m;rcases cz.mp m with m |m
 .exact .inl m
 have:x=(n,p):=by simpa using m
 subst this;exact .inr hp
theorem pR.bu(h:pR H ks ks' n):ks'.length<=ks.length+1:=by rcases h.or with⟨rfl,_⟩ |⟨p,hp,rfl,_⟩<;>simp
theorem alD{td ty tv:TE}{σ:_L.St}{f:aa->List V}{v:V}(D:DR H d ks f)(hk:ks.length<100000)(hf:(f n).length<100000)
  (hd:∀R:VK,R (.ref d) H->td σ H R)(hy:∀R:VK,R (S n) H->ty σ H R)(hv:∀(R:VK) (H1:Hp),ah (· =d) H H1->R v H1->tv σ H1 R)
  (k:∀H' ks',ah (fun b=>b=d∨b∈ks.map (·.2)) H H'->DR H' d ks' (sX f n v)->pR H ks ks' n->bI H H'->Q .aN H'):wO K "list" wE (wS td ty (zw gQ)) (lw tv gQ) σ H Q:=by
 refine hd _ {d,rfl,.inl {_,.inl D.dk},hy _ {dE _,fun p hp=>?_}};have Jo:d≠p:=aC D.dk hp;have PU:_L.ae H p (.ag []) d=some (.dK (ks.map fun x=>(bf x.1,V.ref x.2))):=by rw[aj Jo];exact D.dk
 refine{_,bf n,PU,rfl,fun v' hv'=>?_,fun hn=>?_}
 .rw[m7]at hv';rcases mK (hs:=ks) (n:=n)with⟨l,h1,h2⟩ |⟨h1,h2⟩
  .rw[h1]at hv';injection hv' with hv'
   subst hv';have hl:=D.rw n l h2;have nlp:l≠p:=aC hl hp;have Jr:l≠d:=D.ne h2;have hl1:_L.ae H p (.ag []) l=some (.ag (f n)):=by rwa[aj nlp]
   refine{.inl {rfl,_,aB.of hl1},hv _ _ (ah.new hp) {l,f n,v,rfl,rfl,hl1,cx (by lia),k _ ks ?_ ?_ ⟨.inl {rfl,bt.mpr {_,h2,rfl}}⟩ ((bI.refl H).ae.ae)}}
   .exact(ah.new hp).trans (ah.ae (.inr (bt.mpr {_,h2,rfl})))
   refine{by rw[aj Jr.symm];exact PU,D.nd,D.na,fun m l' hm=>?_,fun m hm=>?_}
   .by_cases e:m=n
    .subst e;have:=yP D.nd hm h2;injection this with _ this
     subst this;rw[ay,Ar]
    have:l'≠l:=fun z=>e (by have:=Jm D.na hm h2 z;injection this);rw[aj this,aj (aC (D.rw m l' hm) hp),vc e];exact D.rw m l' hm
   have e:m≠n:=fun z=>hm (by rw[z];exact bt.mpr {_,h2,rfl});rw[vc e];exact D.no m hm
  rw[h1]at hv';cases hv'
 rw[m7]at hn;rcases mK (hs:=ks) (n:=n)with⟨l,h1,h2⟩ |⟨h1,h2⟩
 .rw[h1]at hn;cases hn
 have tS:iM (ks.map fun x=>(bf x.1,V.ref x.2)) (bf n) (V.ref p)=ks.map (fun x=>(bf x.1,V.ref x.2))++[(bf n,V.ref p)]:=CM _ (by rw[m7,h1];rfl);rw[tS];have ep:_L.ae (_L.ae H p (.ag [])) d (.dK (ks.map (fun x=>(bf x.1,V.ref x.2))++[(bf n,V.ref p)])) p=some (.ag []):=by rw[aj Jo.symm,ay]
 refine{by rw[bL];exact cx (by lia),.inl {rfl,_,aB.of ep},hv _ _ ((ah.new hp).trans (ah.ae rfl)) {p,[],v,rfl,rfl,ep,cx (by decide),k _ (ks++[(n,p)]) ?_ ?_ {.inr {(p),hp,rfl,h2}} ((bI.refl H).ae.ae.ae)}}
 .intro b o nb hb;rwa[aj (aC hb hp),aj (fun z=>nb (.inl z)),aj (aC hb hp)]
 have np:∀x∈ks,x.2≠p:=fun x m=>aC (D.rw x.1 x.2 m) hp;refine{by rw[aj Jo,ay];simp,?_,?_,fun m l' hm=>?_,fun m hm=>?_}
 .rw[dJ,jj];refine{D.nd,by simp,fun a ha b hb=>?_};have:b=n:=by simpa using hb
  subst this;exact fun z=>h2 (z▸ha)
 .rw[dJ,jj];refine{D.na,by simp,fun a ha b hb=>?_};have:b=p:=by simpa using hb
  subst this;obtain⟨x,hx,rfl⟩:=bt.mp ha;exact np x hx
 .rcases cz.mp hm with hm |hm
  .have e:m≠n:=fun z=>h2 (by rw[←z];exact bt.mpr {_,hm,rfl});rw[aj (np _ hm),aj (D.ne hm),aj (np _ hm),vc e];exact D.rw m l' hm
  have:(m,l')=(n,p):=by simpa using hm
  injection this with e1 e2;subst e1 e2;rw[ay,Ar,D.no m h2]
 have e1:m ∉ ks.map (·.1):=fun z=>hm (by rw[dJ];exact nh _ z);have e2:m≠n:=fun z=>hm (by rw[z];simp);rw[vc e2];exact D.no m e1
section
noncomputable def lp(cs:List (aa×U))(n:aa):List V:=(cs.filter fun x=>decide (x.1=n)).map fun x=>V.ref x.2
theorem alJ(cs:List (aa×U))(n:aa)(a:U)(m:aa):lp (cs++[(n,a)]) m=sX (lp cs) n (.ref a) m:=by
 unfold lp;rw[Mx,dJ];by_cases h:m=n
 .subst h;rw[Ar];congr 1;simp[lp]
 rw[vc h];have:(List.filter (fun x:aa×U=>decide (x.1=m)) [(n,a)])=[]:=by have:n≠m:=fun z=>h z.symm;simp[this]
 rw[this];simp[lp]
theorem alI(cs:List (aa×U))(n:aa):(lp cs n).length<=cs.length:=by unfold lp;rw[bL];exact xi _ _
def eG(E:U->List aG->Prop):List (aa×U)->List (aa×List aG)->Prop
 |[],[]=>True|c::cs,x::xs=>c.1=x.1/\E c.2 x.2/\eG E cs xs
 |_,_=>False
theorem eG.mono{E E':U->List aG->Prop}(h:∀a m,E a m->E' a m):∀{cs:List (aa×U)} {xs:List (aa×List aG)},eG E cs xs->eG E' cs xs
 |[],[],_=>trivial|_::_,_::_,⟨h1,h2,h3⟩=>{h1,h _ _ h2,h3.mono h}
 |[],_::_,z=>z.elim|_::_,[],z=>z.elim
theorem eG.app{E:U->List aG->Prop}{ds:List (aa×U)}{ys:List (aa×List aG)}(k:eG E ds ys):∀{cs:List (aa×U)} {xs:List (aa×List aG)},eG E cs xs->eG E (cs++ds) (xs++ys)
 |[],[],_=>k|_::_,_::_,⟨h1,h2,h3⟩=>{h1,h2,eG.app k h3}
 |[],_::_,z=>z.elim|_::_,[],z=>z.elim
theorem eG.row{E:U->List aG->Prop}(n:aa):∀{cs:List (aa×U)} {xs:List (aa×List aG)},eG E cs xs->eG E (cs.filter fun x=>decide (x.1=n)) (xs.filter fun x=>x.1==n)
 |[],[],_=>trivial|c::cs,x::xs,⟨h1,h2,h3⟩=>by
  have ih:=eG.row n h3;by_cases h:c.1=n
  .have hx:x.1=n:=h1▸h;rw[YG (by simpa using h),YG (by simpa using hx)];exact{(h1),h2,ih}
  have hx:¬ x.1=n:=h1▸h;rwa[YF (by simpa using h),YF (by simpa using hx)]
 |[],_::_,z=>z.elim|_::_,[],z=>z.elim
theorem eG.names{E:U->List aG->Prop}:∀{cs:List (aa×U)} {xs:List (aa×List aG)},eG E cs xs->cs.map (·.1)=xs.map (·.1)
 |[],[],_=>rfl|c::cs,x::xs,⟨h1,h2,h3⟩=>by rw[cI,cI,h1,eG.names h3]
 |[],_::_,z=>z.elim|_::_,[],z=>z.elim
theorem eG.bu{E:U->List aG->Prop}{cs:List (aa×U)}{xs:List (aa×List aG)}(h:eG E cs xs):cs.length=xs.length:=by have:=eU kE h.names;simpa using this
theorem eG.gN{E:U->List aG->Prop}:∀{cs:List (aa×U)} {xs:List (aa×List aG)} {i:Nat} {c:aa×U} {x:aa×List aG},eG E cs xs->cs[i]?=some c->xs[i]?=some x->c.1=x.1/\E c.2 x.2
 |c::cs,x::xs,0,_,_,h,e1,e2=>by injection e1 with e1;injection e2 with e2;subst e1 e2;exact{(h.1),h.2.1}
 |c::cs,x::xs,i+1,_,_,h,e1,e2=>eG.gN h.2.2 e1 e2|[],[],i,_,_,_,e1,_=>by cases e1
 |[],_::_,_,_,_,h,_,_=>h.elim|_::_,[],_,_,_,h,_,_=>h.elim
inductive u5(N:Hp)(E:U->List aG->Prop)(sd:U)(m:List aG):Prop|mk:∀cs ks,DR N sd ks (lp cs)->(∀n,n∈ks.map (·.1)↔n∈cs.map (·.1))->eG E cs (fK m)->u5 N E sd m
theorem u5.mono{E E':U->List aG->Prop}{m:List aG}(h:u5 N E sd m)(s:aw N N')(k:∀a m,E a m->E' a m):u5 N' E' sd m:=by obtain⟨cs,ks,h1,h2,h3⟩:=h;exact{cs,ks,h1.mono s,h2,h3.mono k}
def iS(t:aE)(N:Hp)(T:aa):Nat->U->List aG->Prop|0,_,_=>False|f+1,a,m=>dW m/\∃u v,T=u++iP m++v/\∃dx nm sd,N a=some (.am t.gu dx (fk (S nm) (.int (u.length:Int)) (.int ((u.length+(iP m).length:Nat):Int)) (.ref sd)))/\u5 N (iS t N T f) sd m
theorem iS.mono{t:aE}{T w:aa}(s:aw N N'):∀{f:Nat} {a:U} {m:List aG},iS t N T f a m->iS t N' (T++w) f a m|0,_,_,h=>h.elim|f+1,a,m,⟨h0,u,v,h1,dx,nm,sd,h2,h3⟩=>{h0,u,v++w,by rw[h1,fY],dx,nm,sd,s _ _ h2,h3.mono s fun _ _ h=>iS.mono s h}
theorem iS.same{t:aE}{T:aa}(s:aw N N'){f:Nat}(h:iS t N T f a m):iS t N' T f a m:=by have:=h.mono (w:=[]) s;rwa[ei]at this
structure EF where
 a:U
 dx:U
 sd:U
 nm:aa
 at_:List (aa×aa)
 b:Nat
 m:List aG
 cs:List (aa×U)
 ks:List (aa×U)
noncomputable def EF.own(e:EF):List U:=e.a::e.sd::e.ks.map (·.2)
structure EF.Ok(e:EF)(t:aE)(H:Hp):Prop where
 ob:H e.a=some (.am t.gu e.dx (fk (S e.nm) (.int (e.b:Int)) (.int (e.b:Int)) (.ref e.sd)))
 dr:DR H e.sd e.ks (lp e.cs)
 nm:∀n,n∈e.ks.map (·.1)↔n∈e.cs.map (·.1)
 bl:dW e.m
 kl:e.ks.length<=e.cs.length
theorem EF.Ok.aP{e:EF}{t:aE}{A:U->Prop}{H H':Hp}(h:e.Ok t H)(b:ah A H H')(n:∀x∈e.own,¬ A x):e.Ok t H':={b _ _ (n _ (by simp[EF.own])) h.ob,h.dr.aP b (n _ (by simp[EF.own])) (fun x m=>n _ (by simp?[EF.own,bw];exact .inr (.inr (bt.mpr {(x),m,rfl})))),h.nm,h.bl,h.kl}
theorem EF.Ok.rN{e:EF}{t:aE}{H:Hp}(h:e.Ok t H):∀x∈e.own,∃o,H x=some o:=fun x m=>by
 rcases bw.mp m with m |m
 .rw[m];exact{_,h.ob}
 rcases bw.mp m with m |m
 .rw[m];exact{_,h.dr.dk}
 obtain⟨y,hy,rfl⟩:=bt.mp m;exact{_,h.dr.rw y.1 y.2 hy}
def xB(E:Nat->U->List aG->Prop):List EF->Option (aa×U)->Prop|[],_=>True|e::l,o=>(∃c0,e.cs=c0++o.toList/\eG (E (100-l.length)) c0 (fK e.m))/\xB E l (some (e.nm,e.a))
theorem xB.mono{E E':Nat->U->List aG->Prop}(h:∀f a m,E f a m->E' f a m):∀{l:List EF} {o:Option (aa×U)},xB E l o->xB E' l o|[],_,_=>trivial|e::l,o,⟨⟨c0,h1,h2⟩,h3⟩=>{{c0,h1,h2.mono (h _)},h3.mono h}
def Nt:List EF->aa->Prop|[],u=>u=[]|e::l,T=>∃u,T=u++iP e.m/\u.length=e.b/\Nt l u
noncomputable def im:List EF->List aG
 |[]=>[]|[e]=>e.m
 |e::e'::l=>im (e'::l)++.open_ e.nm e.at_::e.m
def bK(dA tA uA:U)(fr:List EF):List U:=dA::tA::uA::fr.flatMap EF.own
def Ee:List EF->U->Prop
 |[],_=>False|[e],pg=>e.a=pg/\e.nm=[]
 |_::e::l,pg=>Ee (e::l) pg
noncomputable def bv:List EF->List aa
 |[]=>[]|[_]=>[]
 |e::e'::l=>e.nm::bv (e'::l)
theorem XF:∀(e:EF) (l:List EF),(bv (e::l)).length=l.length|e,[]=>rfl|e,e'::l=>by show(e.nm::bv (e'::l)).length=_;rw[bJ,XF e' l];rfl
structure DM(t:aE)(G H:Hp)(dA tA uA pg:U)(rf:Int)(n:Nat)(T:aa)(fr:List EF):Prop where
 ob:∃dx,H dA=some (.am t.fE dx (fj (.int rf) (.ref pg) (.ref tA) (.int (n:Int)) (.ref uA)))
 tx:H tA=some (.ag (vb T))
 ul:H uA=some (.ag (fr.map fun e=>V.ref e.a).reverse)
 ef:∀e∈fr,e.Ok t H
 ch:xB (iS t (br G H (· ∈bK dA tA uA fr)) T) fr none
 tc:Nt fr T
 nd:(bK dA tA uA fr).Nodup
 iJ:∀b∈bK dA tA uA fr,G b=none
 dn:bI G H
 ls:Ee fr pg
 dp:fr.length<=40
theorem ub{dA tA uA:U}{l:List EF}{e:EF}{x:U}(m:e∈l)(hx:x∈e.own):x∈bK dA tA uA l:=by simp?[bK,bw];exact .inr (.inr (.inr (zU.mpr {(e),m,hx})))
section
variable{t:aE}{G H H':Hp}{dA tA uA pg:U}{rf:Int}{n:Nat}{T:aa}{l:List EF}{e:EF}
theorem DM.step{fr:List EF}(h:DM t G H dA tA uA pg rf n T fr)(k:∀b o,G b=none->H b=some o->H' b=some o)(D:bI G H'):DM t G H' dA tA uA pg rf n T fr:=by obtain⟨dx,e⟩:=h.ob;have s:aw (br G H (· ∈bK dA tA uA fr)) (br G H' (· ∈bK dA tA uA fr)):=vI fun b o g m e=>{m,k b o g e};have hk:ah (fun b=>G b≠none) H H':=fun b o nb hb=>k b o (DB nb) hb;exact{{dx,k _ _ (h.iJ _ (by simp[bK])) e},k _ _ (h.iJ _ (by simp[bK])) h.tx,k _ _ (h.iJ _ (by simp[bK])) h.ul,fun e m=>(h.ef e m).aP hk fun x hx z=>z (h.iJ x (ub m hx)),h.ch.mono fun _ _ _ q=>q.same s,h.tc,h.nd,h.iJ,D,h.ls,h.dp}
theorem DM.own{fr:List EF}(h:DM t G H dA tA uA pg rf n T fr):dA≠tA/\dA≠uA/\tA≠uA/\∀e∈fr,∀x∈e.own,x≠dA/\x≠tA/\x≠uA:=by have nd:=h.nd;simp?[bK,gE,bw,not_or]at nd;obtain⟨⟨h1,h2,h3⟩,⟨h4,h5⟩,h6,h7⟩:=nd;refine{h1,h2,h4,fun e m x hx=>?_};have mm:x∈fr.flatMap EF.own:=zU.mpr {(e),m,hx};exact{fun z=>h3 (z▸mm),fun z=>h5 (z▸mm),fun z=>h6 (z▸mm)}
theorem DM.apart(h:DM t G H dA tA uA pg rf n T (e::l)):∀e'∈l,∀x∈e'.own,x ∉ e.own:=by have nd:=h.nd;simp?[bK,gE,kD]at nd;have:=(jj.mp nd.2.2.2).2.2;intro e' m x hx Ih;exact this x Ih x (zU.mpr {(e'),m,hx}) rfl
theorem DM.num{fr:List EF}(h:DM t G H dA tA uA pg rf n T fr){rf':Int}:DM t G (_L.ae H dA (.am t.fE dx (fj (.int rf') (.ref pg) (.ref tA) (.int (n':Int)) (.ref uA)))) dA tA uA pg rf' n' T fr:=by obtain⟨n1,n2,n3,n4⟩:=h.own;have b:ah (· =dA) H (_L.ae H dA (.am t.fE dx (fj (.int rf') (.ref pg) (.ref tA) (.int (n':Int)) (.ref uA)))):=ah.here;exact{{(dx),ay},b _ _ n1.symm h.tx,b _ _ n2.symm h.ul,fun e m=>(h.ef e m).aP b fun x hx=>(n4 e m x hx).1,h.ch.mono fun _ _ _ q=>q.same (tL (b.mono fun x z=>by rw[z];simp[bK])),h.tc,h.nd,h.iJ,h.dn.ae,h.ls,h.dp}
theorem anb(x:aa):iP [.text x]=x:=by simp[iP]
theorem DM.text{x:aa}(h:DM t G H dA tA uA pg rf n T (e::l))(b:ah (· =tA) H H')(ex:H' tA=some (.ag (vb (T++x))))(D:bI G H'):
  DM t G H' dA tA uA pg rf n (T++x) ({e with m:=e.m++[.text x]}::l):=by
 obtain⟨n1,n2,n3,n4⟩:=h.own;obtain⟨dx,eo⟩:=h.ob;obtain⟨⟨c0,c1,c2⟩,c3⟩:=h.ch;obtain⟨u,u1,u2,u3⟩:=h.tc;have s:aw (br G H (· ∈bK dA tA uA (e::l))) (br G H' (· ∈bK dA tA uA (e::l))):=tL (b.mono fun x z=>by rw[z];simp[bK]);have be:=(h.ef e (by simp)).bl;refine{{dx,b _ _ n1 eo},ex,b _ _ n3.symm h.ul,fun e' m=>?_,{{c0,c1,?_},c3.mono fun _ _ _ q=>q.mono s},{u,?_,u2,u3},h.nd,h.iJ,D,?_,h.dp}
 .rcases bw.mp m with rfl |m
  .have o:=(h.ef e (by simp)).aP b fun x hx=>(n4 e (by simp) x hx).2.1;exact{o.ob,o.dr,o.nm,be.app (.bE .nil),o.kl}
  exact(h.ef e' (by simp[m])).aP b fun x hx=>(n4 e' (by simp[m]) x hx).2.1
 .show eG _ c0 (fK (e.m++[.text x]));rw[XC be (.bE .nil),wN .nil,LG,ei];exact c2.mono fun _ _ q=>q.mono s
 .show T++x=u++iP (e.m++[.text x]);rw[X9,anb,u1,fY]
 have:=h.ls;cases l with|nil=>exact this|cons e2 l2=>exact this
theorem ana(n:aa)(a:List (aa×aa))(m:List aG):iP (.open_ n a::(m++[.close]))=iP m:=by simp[iP]
theorem DM.xU{e':EF}(h:DM t G H dA tA uA pg rf n T (e::e'::l))(b:ah (fun x=>x=uA∨x=e.a) H H')(D:bI G H')(eu:H' uA=some (.ag ((e'::l).map fun e=>V.ref e.a).reverse))
  (ea:H' e.a=some (.am t.gu e.dx (fk (S e.nm) (.int (e.b:Int)) (.int (T.length:Int)) (.ref e.sd)))):
  DM t G H' dA tA uA pg rf n T ({e' with m:=e'.m++.open_ e.nm e.at_::(e.m++[.close])}::l):=by
 obtain⟨n1,n2,n3,n4⟩:=h.own;obtain⟨dx,eo⟩:=h.ob;obtain⟨⟨c0,c1,c2⟩,⟨d0,d1,d2⟩,d3⟩:=h.ch;obtain⟨u,u1,u2,v,v1,v2,v3⟩:=h.tc;have oe:=h.ef e (by simp);have R8:=h.ef e' (by simp);have ap:=h.apart;have nd:=h.nd;have mE:∀x∈e.own,x ∉ bK dA tA uA (e'::l):=fun x hx z=>by
  obtain⟨q1,q2,q3⟩:=n4 e (by simp) x hx;simp?[bK,bw]at z;rcases z with z |z |z |z
  .exact q1 z
  .exact q2 z
  .exact q3 z
  obtain⟨e2,m2,yz⟩:=zU.mp z;exact ap e2 m2 x yz hx
 have sub:∀x,x∈bK dA tA uA (e'::l)->x∈bK dA tA uA (e::e'::l):=fun x z=>by
  simp?[bK,bw,kD,cz]at z⊢;rcases z with z |z |z |z |z
  .exact .inl z
  .exact .inr (.inl z)
  .exact .inr (.inr (.inl z))
  .exact .inr (.inr (.inr (.inr (.inl z))))
  exact .inr (.inr (.inr (.inr (.inr z))))
 have s:aw (br G H (· ∈bK dA tA uA (e::e'::l))) (br G H' (· ∈bK dA tA uA (e'::l))):=vI fun x o g m hx=>{fun z=>m (sub x z),b x o (fun z=>m (by
  rcases z with z |z
  .rw[z];simp[bK]
  rw[z];exact ub (e:=e) (by simp) (by simp[EF.own]))) hx}
 have ie:e.a∈e.own:=by simp[EF.own]
 have QU:e.sd∈e.own:=by simp[EF.own]
 have ik:∀x∈e.ks,x.2∈e.own:=fun x m=>by simp?[EF.own,bw];exact .inr (.inr (bt.mpr {(x),m,rfl}))
 have nsd:e.sd≠e.a:=cr oe.dr.dk oe.ob (by intro z;cases z);have nk:∀x∈e.ks,x.2≠e.a:=fun x m=>cr (oe.dr.rw x.1 x.2 m) oe.ob (by intro z;cases z);have ja:∀{x:U} {o:HO},x∈e.own->H' x=some o->br G H' (· ∈bK dA tA uA (e'::l)) x=some o:=fun{x o} hx ho=>yb (h.iJ x (ub (e:=e) (by simp) hx)) (mE x hx) ho;have hk:∀{x:U} {o:HO},x∈e.own->x≠e.a->H x=some o->H' x=some o:=fun{x o} hx hn ho=>b x o (fun z=>by
  rcases z with z |z
  .exact(n4 e (by simp) x hx).2.2 z
  exact hn z) ho
 have dr:DR (br G H' (· ∈bK dA tA uA (e'::l))) e.sd e.ks (lp e.cs):={ja QU (hk QU nsd oe.dr.dk),oe.dr.nd,oe.dr.na,fun m x hm=>ja (ik _ hm) (hk (ik _ hm) (nk _ hm) (oe.dr.rw m x hm)),oe.dr.no};have hlen:=h.dp;simp?[bJ]at hlen;have fin:iS t (br G H' (· ∈bK dA tA uA (e'::l))) T (100-l.length) e.a e.m:=by
  have:100-l.length=(100-(e'::l).length)+1:=by simp?[bJ];lia
  rw[this];refine{oe.bl,u,[],by rw[ei];exact u1,e.dx,e.nm,e.sd,?_,e.cs,e.ks,dr,oe.nm,?_}
  .rw[u2];have:T.length=e.b+(iP e.m).length:=by rw[u1,cw,u2]
   rw[←this];exact ja ie ea
  have:e.cs=c0:=by rw[c1];simp
  rw[this];exact c2.mono fun _ _ q=>q.same s
 refine{{dx,b _ _ (fun z=>?_) eo},b _ _ (fun z=>?_) h.tx,eu,fun e2 m=>?_,{{d0++[(e.nm,e.a)],?_,?_},d3.mono fun _ _ _ q=>q.same s},{v,?_,v2,v3},?_,fun x m=>h.iJ x (sub x m),D,?_,by simp?[bJ];lia}
 .rcases z with z |z
  .exact n2 z
  exact(n4 e (by simp) _ ie).1 z.symm
 .rcases z with z |z
  .exact n3 z
  exact(n4 e (by simp) _ ie).2.1 z.symm
 .have hb:∀e3∈e'::l,e3.Ok t H':=fun e3 m3=>(h.ef e3 (by simp[bw.mp m3])).aP b fun x hx z=>by
   rcases z with z |z
   .exact(n4 e3 (by simp[bw.mp m3]) x hx).2.2 z
   exact ap e3 m3 x hx (z▸ie)
  rcases bw.mp m with rfl |m
  .have o:=hb e' (by simp);exact{o.ob,o.dr,o.nm,R8.bl.app (.oS oe.bl .nil),o.kl}
  exact hb e2 (by simp[m])
 .show e'.cs=(d0++[(e.nm,e.a)])++[];rw[d1];simp
 .show eG _ (d0++[(e.nm,e.a)]) (fK (e'.m++.open_ e.nm e.at_::(e.m++[.close])));rw[XC R8.bl (.oS oe.bl .nil),wM oe.bl .nil,LG];exact eG.app (ds:=[(e.nm,e.a)]) (ys:=[(e.nm,e.m)]) {(rfl),fin,trivial} (d2.mono fun _ _ q=>q.same s)
 .show T=v++iP (e'.m++.open_ e.nm e.at_::(e.m++[.close]));rw[X9,ana,u1,v1,fY]
 .simp?[bK,kD,gE,bw,cz,not_or]at nd⊢;obtain⟨⟨a1,a2,a3,a4⟩,⟨a5,a6,a7⟩,⟨a8,a9⟩,ZR⟩:=nd;exact{{(a1),a2,a4},{(a5),a7},a9,(jj.mp ZR).2.1}
 have:=h.ls;cases l with|nil=>exact this|cons e2 l2=>exact this
end
end
section
def LW(K:bn)(td ty tv:TE):TE:=wO K "list" wE (wS td ty (zw gQ)) (lw tv gQ)
theorem SY{X:Cx}{e:bz}{td ty tv:TE}(h:PE X e (wO X.K "list" wE (wS td ty (zw gQ)) (lw tv gQ))):PE X e (LW X.K td ty tv):=h
theorem Jl{A B:List U}(h:(A++B).Nodup)(hp:p ∉ A++B):(A++p::B).Nodup:=by
 rw[jj]at h⊢;obtain⟨h1,h2,h3⟩:=h;rw[cz,not_or]at hp;refine{h1,gE.mpr {(hp.2),h2},fun a ha b hb=>?_};rcases bw.mp hb with rfl |hb
 .exact fun z=>hp.1 (z▸ha)
 exact h3 a ha b hb
theorem gM{H H1:Hp}(s:aw H H1)(h:H1 p=none):H p=none:=by cases hx:H p with|none=>rfl|some o=>rw[s p o hx]at h;cases h
section
variable{t:aE}{G H H1 H2:Hp}{dA tA uA pg:U}{rf:Int}{n:Nat}{T:aa}{l:List EF}{e:EF}
theorem DM.rN{fr:List EF}(h:DM t G H dA tA uA pg rf n T fr):∀x∈bK dA tA uA fr,∃o,H x=some o:=fun x m=>by
 simp?[bK,bw]at m;rcases m with m |m |m |m
 .obtain⟨dx,eo⟩:=h.ob;rw[m];exact{_,eo}
 .rw[m];exact{_,h.tx}
 .rw[m];exact{_,h.ul}
 obtain⟨e,me,hx⟩:=zU.mp m;exact(h.ef e me).rN x hx
theorem DM.aaX{nm:aa}{at_:List (aa×aa)}(h:DM t G H dA tA uA pg rf n T (e::l))(hl:l.length<39)(s1:aw H H1)(na:H a=none)(ns:H sd=none)(nas:a≠sd)
  (ea:H1 a=some (.am t.gu dx (fk (S nm) (.int (T.length:Int)) (.int (T.length:Int)) (.ref sd))))(es:H1 sd=some (.dK []))
  (b2:ah (fun b=>b=e.sd∨b∈e.ks.map (·.2)) H1 H2)(d2:DR H2 e.sd ks' (sX (lp e.cs) nm (.ref a)))(ps:pR H1 e.ks ks' nm)(dm:bI H1 H2):
  DM t G (_L.ae H2 uA (.ag ((((e::l).map fun e=>V.ref e.a).reverse)++[V.ref a]))) dA tA uA pg rf n T ({a,dx,sd,nm,at_,T.length,[],[],[]}::{e with cs:=e.cs++[(nm,a)],ks:=ks'}::l):=by
 obtain⟨n1,n2,n3,n4⟩:=h.own;obtain⟨dd,eo⟩:=h.ob;obtain⟨⟨c0,c1,c2⟩,c3⟩:=h.ch;obtain⟨u,u1,u2,u3⟩:=h.tc;have oe:=h.ef e (by simp);have ap:=h.apart;have nd:=h.nd;have lv:=h.rN;have hie:e.a∈e.own:=by simp[EF.own]
 have P0:e.sd∈e.own:=by simp[EF.own]
 have hik:∀x∈e.ks.map (·.2),x∈e.own:=fun x m=>by simp?[EF.own,bw];exact .inr (.inr m)
 have hA:∀x,(x=e.sd∨x∈e.ks.map (·.2))->x∈e.own:=fun x z=>by
  rcases z with z |z
  .rw[z];exact P0
  exact hik x z
 obtain⟨H3,nX⟩:∃H3,H3=_L.ae H2 uA (.ag ((((e::l).map fun e=>V.ref e.a).reverse)++[V.ref a])):={_,rfl};rw[←nX];have b3:ah (fun x=>x=uA∨x=e.sd∨x∈e.ks.map (·.2)) H1 H3:=by rw[nX];exact(b2.mono fun x z=>.inr z).trans (ah.ae (.inl rfl))
 have bb:ah (fun x=>x=uA∨x=e.sd∨x∈e.ks.map (·.2)) H H3:=(aw.aP s1).trans b3;have fa:∀x∈bK dA tA uA (e::l),x≠a:=fun x m=>by obtain⟨o,q⟩:=lv x m;exact aC q na
 have fs:∀x∈bK dA tA uA (e::l),x≠sd:=fun x m=>by obtain⟨o,q⟩:=lv x m;exact aC q ns
 have hown:∀x∈e.own,x∈bK dA tA uA (e::l):=fun x m=>ub (e:=e) (by simp) m;have a3:H3 a=some (.am t.gu dx (fk (S nm) (.int (T.length:Int)) (.int (T.length:Int)) (.ref sd))):=b3 _ _ (fun z=>by
  rcases z with z |z
  .exact fa uA (by simp[bK]) z.symm
  exact fa a (hown a (hA a z)) rfl) ea
 have sd3:H3 sd=some (.dK []):=b3 _ _ (fun z=>by
  rcases z with z |z
  .exact fs uA (by simp[bK]) z.symm
  exact fs sd (hown sd (hA sd z)) rfl) es
 have D3:bI G H3:=by
  rw[nX];exact fun b hb=>h.dn b (gM s1 (dm b (by
   by_cases z:b=uA
   .rw[z,ay]at hb;cases hb
   rwa[aj z]at hb)))
 have ksO:∀x∈ks',x∈e.ks∨H x.2=none:=fun x m=>by
  rcases ps.rX x m with z |z
  .exact .inl z
  exact .inr (gM s1 z)
 have ksU:∀x∈ks',x.2≠uA:=fun x m=>by
  rcases ksO x m with z |z
  .exact(n4 e (by simp) _ (hik _ (bt.mpr {(x),z,rfl}))).2.2
  exact fun q=>by rw[q,h.ul]at z;cases z
 have RH:∀x,x∈bK dA tA uA ({a,dx,sd,nm,at_,T.length,[],[],[]}::{e with cs:=e.cs++[(nm,a)],ks:=ks'}::l)->x∈bK dA tA uA (e::l)∨H x=none:=fun x z=>by
  simp?[bK,bw,kD,cz,EF.own,lF,qG,or_false]at z⊢;rcases z with z |z |z |(z |z) |(z |z |z) |z
  .exact .inl (.inl z)
  .exact .inl (.inr (.inl z))
  .exact .inl (.inr (.inr (.inl z)))
  .exact .inr (by rwa[z])
  .exact .inr (by rwa[z])
  .exact .inl (.inr (.inr (.inr (.inl (.inl z)))))
  .exact .inl (.inr (.inr (.inr (.inl (.inr (.inl z))))))
  .obtain⟨y,hy,rfl⟩:=bt.mp z;rcases ksO y hy with q |q
   .exact .inl (.inr (.inr (.inr (.inl (.inr (.inr (bt.mpr {(y),q,rfl})))))))
   exact .inr q
  exact .inl (.inr (.inr (.inr (.inr z))))
 have s:aw (br G H (· ∈bK dA tA uA (e::l))) (br G H3 (· ∈bK dA tA uA ({a,dx,sd,nm,at_,T.length,[],[],[]}::{e with cs:=e.cs++[(nm,a)],ks:=ks'}::l))):=vI fun x o g m hx=>{fun z=>(by
   rcases RH x z with q |q
   .exact m q
   .rw[q]at hx;cases hx),bb x o (fun z=>m (by
   rcases z with z |z
   .rw[z];simp[bK]
   exact hown x (hA x z))) hx}
 refine{{dd,bb _ _ (fun z=>?_) eo},bb _ _ (fun z=>?_) h.tx,?_,fun e2 m=>?_,{{[],rfl,trivial},{e.cs,rfl,?_},c3.mono fun _ _ _ q=>q.same s},{T,by simp[iP],rfl,u,u1,u2,u3},?_,fun x m=>?_,D3,?_,?_}
 .rcases z with z |z
  .exact n2 z
  exact(n4 e (by simp) _ (hA _ z)).1 rfl
 .rcases z with z |z
  .exact n3 z
  exact(n4 e (by simp) _ (hA _ z)).2.1 rfl
 .rw[nX,ay];simp
 .rcases bw.mp m with rfl |m
  .exact{a3,(DR.new sd3).ext fun _=>rfl,fun _=>Iff.rfl,.nil,bR _}
  rcases bw.mp m with rfl |m
  .refine{bb _ _ (fun z=>?_) oe.ob,?_,fun m=>?_,oe.bl,?_}
   .rcases z with z |z |z
    .exact(n4 e (by simp) _ hie).2.2 z
    .exact cr oe.ob oe.dr.dk (by intro q;cases q) z
    obtain⟨y,hy,q⟩:=bt.mp z;exact cr oe.ob (oe.dr.rw y.1 y.2 hy) (by intro q;cases q) q.symm
   .have:=d2.aP (A:=(· =uA)) (H':=H3) (by rw[nX];exact ah.here) (n4 e (by simp) _ P0).2.2 ksU;exact this.ext fun m=>alJ e.cs nm a m
   .show m∈ks'.map (·.1)↔m∈(e.cs++[(nm,a)]).map (·.1);rw[ps.mem,oe.nm];simp
   show ks'.length<=(e.cs++[(nm,a)]).length;have:=ps.bu;have:=oe.kl;simp;lia
  refine(h.ef e2 (by simp[m])).aP bb fun x hx z=>?_;rcases z with z |z
  .exact(n4 e2 (by simp[m]) x hx).2.2 z
  exact ap e2 m x hx (hA x z)
 .have:e.cs=c0:=by rw[c1];simp
  rw[this];exact c2.mono fun _ _ q=>q.same s
 .have q0:([dA,tA,uA]++(e.own++l.flatMap EF.own)).Nodup:=by have:=nd;simp?[bK,kD]at this;exact this
  have f0:∀x,x∈[dA,tA,uA]++(e.own++l.flatMap EF.own)->∃o,H x=some o:=fun x m=>lv x (by simp?[bK,kD];exact m);have q1:([dA,tA,uA]++sd::(e.own++l.flatMap EF.own)).Nodup:=Jl q0 fun z=>by obtain⟨o,q⟩:=f0 _ z;rw[ns]at q;cases q
  have q2:([dA,tA,uA]++a::sd::(e.own++l.flatMap EF.own)).Nodup:=Jl q1 fun z=>by
   rcases cz.mp z with z |z
   .obtain⟨o,q⟩:=f0 a (nh _ z);rw[na]at q;cases q
   rcases bw.mp z with z |z
   .exact nas z
   obtain⟨o,q⟩:=f0 a (mo _ z);rw[na]at q;cases q
  rcases ps.or with⟨rfl,_⟩ |⟨p,hp,rfl,_⟩
  .have:bK dA tA uA ({a,dx,sd,nm,at_,T.length,[],[],[]}::{e with cs:=e.cs++[(nm,a)],ks:=e.ks}::l)=[dA,tA,uA]++a::sd::(e.own++l.flatMap EF.own):=by simp[bK,EF.own]
   rwa[this]
  have q3:(([dA,tA,uA]++a::sd::e.own)++p::l.flatMap EF.own).Nodup:=by
   refine Jl (by simpa using q2) fun z=>?_;have:∃o,H1 p=some o:=by
    simp?[cz,bw,qG,or_false]at z;rcases z with(z |z |z |z) |z
    .obtain⟨o,q⟩:=f0 p (by simp?[cz,bw,qG,or_false];exact .inl z);exact{o,s1 _ _ q}
    .rw[z];exact{_,ea}
    .rw[z];exact{_,es}
    .obtain⟨o,q⟩:=f0 p (by simp?[cz];exact .inr (.inl z));exact{o,s1 _ _ q}
    obtain⟨o,q⟩:=f0 p (by simp?[cz];exact .inr (.inr z));exact{o,s1 _ _ q}
   obtain⟨o,q⟩:=this;rw[hp]at q;cases q
  have:bK dA tA uA ({a,dx,sd,nm,at_,T.length,[],[],[]}::{e with cs:=e.cs++[(nm,a)],ks:=e.ks++[(nm,p)]}::l)=([dA,tA,uA]++a::sd::e.own)++p::l.flatMap EF.own:=by simp[bK,EF.own]
  rwa[this]
 .rcases RH x m with q |q
  .exact h.iJ x q
  exact h.dn x q
 .have:=h.ls;cases l with|nil=>exact this|cons e2 l2=>exact this
 simp?[bJ];lia
end
end
theorem SH{cF:aa->Bool}:∀(n:Nat) (b q:aa) (ps:List eF),b.length<=n->de wh cF b=some (ps,q)->ps.length+q.length<=b.length
 |n,b,q,ps,hn,h=>by
  cases hs:cF b with
  |true=>rw[zb hs]at h;injection h with h;injection h with ha hb;subst ha hb;simp
  |false=>cases e:eB wh b with|none=>rw[y8 hs e]at h;cases h|some x=>obtain⟨p,z⟩:=x;rw[za hs e]at h;obtain⟨s1,l1⟩:=uq e;cases hz:de wh cF z with|none=>rw[hz]at h;cases h|some y=>obtain⟨ys,w⟩:=y;rw[hz]at h;injection h with h;injection h with ha hb;subst ha hb;cases n with|zero=>lia|succ n=>have:=SH n z w ys (by lia) hz;simp;lia
theorem Tn{td ty tv:TE}{σ:_L.St}{f:aa->List V}{v:V}(D:DR H d ks f)(hk:ks.length<100000)(hf:(f n).length<100000)
  (hd:∀R:VK,R (.ref d) H->td σ H R)(hy:∀R:VK,R (S n) H->ty σ H R)(hv:∀(R:VK) (H1:Hp),ah (· =d) H H1->R v H1->tv σ H1 R)
  (k:∀H' ks',ah (fun b=>b=d∨b∈ks.map (·.2)) H H'->DR H' d ks' (sX f n v)->pR H ks ks' n->bI H H'->Q .aN H'):LW K td ty tv σ H Q:=alD D hk hf hd hy hv k
inductive Ww(t:aE)(vs:List V)(H:Hp)(Q:VK)(E:XK):Prop|mk:∀(a dx:U) (n:aa) (b:Nat),vs=[.ref a,S n,.int (b:Int)]->H a=some (.am t.gu dx [])->(∀H' sd,ah (· =a) H H'->H sd=none->H' a=some (.am t.gu dx (fk (S n) (.int (b:Int)) (.int (b:Int)) (.ref sd)))->H' sd=some (.dK [])->Q .aN H')->Ww t vs H Q E
theorem Sa(T:Txt K mg t):aQ P w K mg base 1 t.Fd B0 (Ww t):=by
 exists T.abu,alU;obtain⟨a,dx,n,b,rfl,e,k⟩:=h;refine{_,ak (bT (pv 0) (pv 1) rfl) (ak (bT (pv 0) (pv 2) rfl) (ak (bT (pv 0) (pv 2) rfl) (au (bT (pv 0) wy rfl)))),?_};simp![e,ay,gT,OV,eT,dE];intro sd hs;have ea:_L.ae H a (.am t.gu dx [("name",S n),("begin",V.int (b:Int)),("end",V.int (b:Int))]) a=some (.am t.gu dx [("name",S n),("begin",V.int (b:Int)),("end",V.int (b:Int))]):=ay;have n1:a≠sd:=aC ea hs;have hsH:H sd=none:=by rwa[aj n1.symm]at hs
 simp![aj n1,ea,ay,gT,OV,eT];refine k _ sd ((ah.here.trans (ah.new hs)).trans ah.here) hsH ay ?_;rw[aj n1.symm,ay]
theorem aaY{dA tA uA a:U}{nm:aa}{at_:List (aa×aa)}{b:Nat}{e:EF}{l:List EF}{cs ks':List (aa×U)}(na:H a=none)(ns:H sd=none)(ksO:∀x∈ks',x∈e.ks∨H x.2=none):
  ∀x∈bK dA tA uA ({a,dx,sd,nm,at_,b,[],[],[]}::{e with cs:=cs,ks:=ks'}::l),x∈bK dA tA uA (e::l)∨H x=none:=fun x z=>by
 simp?[bK,bw,kD,cz,EF.own,lF,qG,or_false]at z⊢;rcases z with z |z |z |(z |z) |(z |z |z) |z
 .exact .inl (.inl z)
 .exact .inl (.inr (.inl z))
 .exact .inl (.inr (.inr (.inl z)))
 .exact .inr (by rwa[z])
 .exact .inr (by rwa[z])
 .exact .inl (.inr (.inr (.inr (.inl (.inl z)))))
 .exact .inl (.inr (.inr (.inr (.inl (.inr (.inl z))))))
 .obtain⟨y,hy,rfl⟩:=bt.mp z;rcases ksO y hy with q |q
  .exact .inl (.inr (.inr (.inr (.inl (.inr (.inr (bt.mpr {(y),q,rfl})))))))
  exact .inr q
 exact .inl (.inr (.inr (.inr (.inr z))))
theorem Q5(e:EF)(l:List EF):iV (((e::l).map fun e=>V.ref e.a).reverse) (-1)=some (V.ref e.a):=by rw[cI,YW];exact vd _ _
inductive We(t:aE)(vs:List V)(H:Hp)(Q:VK)(E:XK):Prop|mk:∀G dA tA uA pg rf n T e l nm at_,vs=[.ref dA,S nm]->DM t G H dA tA uA pg rf n T (e::l)->l.length<39->T.length<100000->e.m.length<50000->(∀H' e1 e2,ah (· ∈bK dA tA uA (e::l)) H H'->DM t G H' dA tA uA pg rf n T (e1::e2::l)->(∀x∈bK dA tA uA (e1::e2::l),x∈bK dA tA uA (e::l)∨H x=none)->e1.nm=nm->e1.at_=at_->e1.m=[]->e2.nm=e.nm->e2.at_=e.at_->e2.m=e.m->Q .aN H')->We t vs H Q E
theorem ajT(T:Txt K mg t):aQ P w K mg base 3 t.E8 JJ (We t):=by
 exists T.abo,Vx;obtain⟨G,dA,tA,uA,pg,rf,n,Tx,e,l,nm,at_,rfl,M,hl,hT,hm,k⟩:=h;obtain⟨dd,eo⟩:=M.ob;have oe:=M.ef e (by simp);have hcs:e.cs.length<=e.m.length:=by obtain⟨⟨c0,c1,c2⟩,_⟩:=M.ch;have:=c2.bu;have h2:=XD oe.bl;rw[c1];simp;lia
 refine{_,ak (b9 (i:=2) Vx.nd rfl (bx rfl) (iu T.yC (Sa T) hr (aq (pv 1) (aq (cN dH T.cK (pf 0)) aA))))
  (ak (cj (SY (fb ej iE iF h9 (KN (om (dY eN (pf 0) (r6 sr bV) (fun _ _=>rfl)) rfl) (pv 1) (fc aA) {(rfl),rfl,rfl,rfl}) (aq (pv 2) aA))))
  (au (cj (fb ej iE iF h9 (pf 0) (aq (pv 2) aA))))),?_}
 simp![eo];refine{_,.inl (aB.of M.tx),?_};intro a dx na nd nad;refine{a,dx,nm,Tx.length,by rw[eD],ay,fun H1 sd b1 ns' ea es=>{rfl,?_}};have s1:=iq na nd b1;have ns:H sd=none:=by cases hx:H sd with|none=>rfl|some o=>rw[aj (aC hx na),aj (aC hx nd),hx]at ns';cases ns'
 have nas:a≠sd:=cr ea es (by intro z;cases z);have M1:DR H1 e.sd e.ks (lp e.cs):=oe.dr.mono s1;simp![eo];refine Tn (d:=e.sd) (ks:=e.ks) (f:=lp e.cs) (n:=nm) (v:=.ref a) M1 (by have:=oe.kl;lia) (by have:=alI e.cs nm;lia) (fun R hR=>?_) (fun R hR=>?_) (fun R H2 b2 hR=>?_) (fun H2 ks' b2 d2 ps dm=>?_)
 .simp![s1 _ _ eo];refine{uA,_,_,_,rfl,rfl,aB.of (s1 _ _ M.ul),Q5 e l,?_};simp![s1 _ _ oe.ob];exact hR
 .exact{_,rfl,hR}
 .exact{_,rfl,hR}
 have n4:=M.own;have hA:∀x,(x=e.sd∨x∈e.ks.map (·.2))->x∈e.own:=fun x z=>by simp?[EF.own,bw];exact .inr z
 have lS:H2 dA=_:=b2 _ _ (fun z=>(n4.2.2.2 e (by simp) _ (hA _ z)).1 rfl) (s1 _ _ eo);have Yj:H2 uA=_:=b2 _ _ (fun z=>(n4.2.2.2 e (by simp) _ (hA _ z)).2.2 rfl) (s1 _ _ M.ul);simp![lS];refine{.inl {rfl,_,aB.of Yj},uA,_,_,rfl,rfl,Yj,?_,?_}
 .simp?[zT,bL,bJ];exact cx (by lia)
 have M3:=M.aaX (at_:=at_) hl s1 na ns nas ea es b2 d2 ps dm;refine k _ _ _ ?_ M3 (aaY na ns fun x m=>?_) rfl rfl rfl rfl rfl rfl
 .exact((aw.aP s1).trans (b2.mono fun x z=>ub (e:=e) (by simp) (hA x z))).trans (ah.ae (by simp[bK]))
 rcases ps.rX x m with z |z
 .exact .inl z
 exact .inr (gM s1 z)
inductive Wz(t:aE)(vs:List V)(H:Hp)(Q:VK)(E:XK):Prop|mk:∀G dA tA uA pg rf n T e e' l,vs=[.ref dA]->DM t G H dA tA uA pg rf n T (e::e'::l)->T.length<100000->(∀H',ah (· ∈bK dA tA uA (e::e'::l)) H H'->DM t G H' dA tA uA pg rf n T ({e' with m:=e'.m++.open_ e.nm e.at_::(e.m++[.close])}::l)->Q .aN H')->Wz t vs H Q E
theorem Sg(T:Txt K mg t):aQ P w K mg base 1 t.Fa JK (Wz t):=by
 exists T.abq,Vy;obtain⟨G,dA,tA,uA,pg,rf,n,Tx,e,e',l,rfl,M,hT,k⟩:=h;obtain⟨dd,eo⟩:=M.ob;have oe:=M.ef e (by simp);have n4:=M.own;have ie:e.a∈e.own:=by simp[EF.own]
 refine{_,ak (b9 (i:=1) Vy.nd rfl (bx rfl) (zc ej DO DP yJ (pf 0))) (au (bT (pv 1) (cN dH T.cK (pf 0)) rfl)),?_};simp![eo];have rH:(((e::e'::l).map fun e=>V.ref e.a).reverse)[(((e::e'::l).map fun e=>V.ref e.a).reverse).length-1]?=some (V.ref e.a):=by simp
 have mP:(((e::e'::l).map fun e=>V.ref e.a).reverse).dropLast=((e'::l).map fun e=>V.ref e.a).reverse:=by simp
 refine{.inl {rfl,_,aB.of M.ul},uA,_,_,rfl,rfl,M.ul,rH,?_};rw[mP];simp![aj n4.2.1,eo];refine{_,.inl (aB.of (by rw[aj n4.2.2.1];exact M.tx)),?_};simp![aj (n4.2.2.2 e (by simp) _ ie).2.2,oe.ob,eD];have b:ah (fun x=>x=uA∨x=e.a) H (_L.ae (_L.ae H uA (.ag ((e'::l).map fun e=>V.ref e.a).reverse)) e.a (.am t.gu e.dx (fk (S e.nm) (.int (e.b:Int)) (.int (Tx.length:Int)) (.ref e.sd)))):=(ah.ae (.inl rfl)).trans (ah.ae (.inr rfl));refine k _ (b.mono fun x z=>?_) (M.xU b M.dn.ae.ae ?_ ay)
 .rcases z with z |z
  .rw[z];simp[bK]
  rw[z];exact ub (e:=e) (by simp) ie
 rw[aj (n4.2.2.2 e (by simp) _ ie).2.2.symm,ay];rfl
inductive Ws(t:aE)(vs:List V)(H:Hp)(Q:VK)(E:XK):Prop|mk:∀G dA tA uA pg rf T fr,∀(n k:Nat),vs=[.ref dA,.int (k:Int)]->DM t G H dA tA uA pg rf n T fr->(∀H',ah (· =dA) H H'->DM t G H' dA tA uA pg rf (n+k) T fr->Q (.int (if 2048<n+k then-28 else 0)) H')->Ws t vs H Q E
theorem JA(T:Txt K mg t):aQ P w K mg base 1 t.E9 BX (Ws t):=by
 exists T.abp,alR;obtain⟨G,dA,tA,uA,pg,rf,Tx,fr,n,kk,rfl,M,k⟩:=h;obtain⟨dd,eo⟩:=M.ob;refine{_,ak (l9 (pv 0) (pv 1) mR) (au (aM (mV (cg gp (pf 0) (bS T.QJ) (bD _)) (bS T.vW) bV))),?_};simp![eo,ay];have M2:=M.num (dx:=dd) (rf':=rf) (n':=n+kk);have e2:((n:Int)+(kk:Int))=((n+kk:Nat):Int):=by lia
 rw[e2];have k2:=k _ ah.here M2;by_cases hc:2048<n+kk
 .rw[az hc]at k2;rwa[az (by lia)]
 rw[ao hc]at k2;rwa[ao (by lia)]
section
structure RD(t:aE)(G H:Hp)(r R:U)(row rest:aa)(dA tA uA pg:U)(rf:Int)(n:Nat)(T:aa)(fr:List EF):Prop where
 rd:RF t G H r R row false rest
 dm:DM t G H dA tA uA pg rf n T fr
section
variable{t:aE}{G H H':Hp}{r R dA tA uA pg:U}{row rest cy:aa}{rf:Int}{n:Nat}{T:aa}{fr:List EF}
theorem RD.cR(h:RD t G H r R row rest dA tA uA pg rf n T fr)(b:ah (· =r) H H')(d:cU t H' r R row false cy):RD t G H' r R row cy dA tA uA pg rf n T fr:=by have f:=h.rd.cR b d;refine{f,h.dm.step (fun c o g e=>b c o (fun z=>?_) e) f.dn};obtain⟨o',ho⟩:=h.rd.gr;rw[z,ho]at g;cases g
theorem RD.read(h:RD t G H r R row rest dA tA uA pg rf n T fr)(f:RF t H H' r R row false cy):RD t G H' r R row cy dA tA uA pg rf n T fr:=by have f':=h.rd.trans f;refine{f',h.dm.step (fun c o g e=>f.keep c o e (fun z=>?_)) f'.dn};obtain⟨o',ho⟩:=h.rd.gr;rw[z,ho]at g;cases g
theorem RD.same(h:RD t G H r R row rest dA tA uA pg rf n T fr)(s:aw H H'):RD t G H' r R row rest dA tA uA pg rf n T fr:={h.rd.R9 s,h.dm.step (fun c o _ e=>s c o e) (h.rd.dn.same s)}
theorem RD.new{rf':Int}{jw:List EF}(h:RD t G H r R row rest dA tA uA pg rf n T fr)(b:ah (· ∈bK dA tA uA fr) H H')(m:DM t G H' dA tA uA pg rf' n' T' jw):RD t G H' r R row rest dA tA uA pg rf' n' T' jw:={h.rd.yg (b.mono h.dm.iJ) m.dn,m}
theorem RD.out(h:RD t G H r R row rest dA tA uA pg rf n T fr)(na:H a=none):a ∉ bK dA tA uA fr:=fun m=>by obtain⟨o,e⟩:=h.dm.rN a m;rw[na]at e;cases e
end
theorem Hg(e:EF)(l:List EF)(x:List aG):im ({e with m:=e.m++x}::l)=im (e::l)++x:=by cases l with|nil=>rfl|cons e' l=>simp[im]
theorem O3{e e':EF}(l:List EF)(h1:e'.nm=e.nm)(h2:e'.at_=e.at_)(h3:e'.m=e.m):im (e'::l)=im (e::l):=by cases l with|nil=>exact h3|cons Oz l=>simp[im,h1,h2,h3]
theorem Dd{e e':EF}(l:List EF)(h1:e'.nm=e.nm):bv (e'::l)=bv (e::l):=by cases l with|nil=>rfl|cons Oz l=>simp[bv,h1]
theorem aeu(e:EF)(l:List EF):e.m.length<=(im (e::l)).length:=by cases l with|nil=>exact bR _|cons Oz l=>simp[im];lia
def iG(n n':Nat)(fr jw:List EF)(T T' rest cy:aa)(z:Int):Prop:=(z=0->cy.length<rest.length/\n'<=2048/\T'.length+cy.length<=T.length+rest.length/\∃ms,im jw=im fr++ms/\n'=n+ms.length/\eZ n (bv fr) rest=pre ms (eZ n' (bv jw) cy))/\(z≠0->z<0/\eZ n (bv fr) rest=.inl z)
theorem iG.nI{n:Nat}{fr jw:List EF}{T rest cy:aa}{z:Int}(hz:z<0)(h:eZ n (bv fr) rest=.inl z):iG n n' fr jw T T' rest cy z:={fun e=>by lia,fun _=>{(hz),h}}
theorem iG.more{n:Nat}{fr jw:List EF}{T rest cy:aa}{ms:List aG}(hk:k=ms.length)(hl:cy.length<rest.length)(hT:T'.length+cy.length<=T.length+rest.length)(hf:im jw=im fr++ms)(he:eZ n (bv fr) rest=jT eZ n ms (bv jw) cy):
  iG n (n+k) fr jw T T' rest cy (if 2048<n+k then-28 else 0):=by
 subst hk;unfold jT at he;by_cases h:2048<n+ms.length
 .rw[az h]at he⊢;exact iG.nI (by decide) he
 rw[ao h]at he⊢;exact{fun _=>{hl,by lia,hT,ms,hf,rfl,he},fun z=>aJ rfl z}
def DQ(t:aE)(G:Hp)(r R:U)(row rest:aa)(dA tA uA pg:U)(rf:Int)(n:Nat)(T:aa)(fr:List EF)(Q:VK):Prop:=∀H' z cy n' T' jw,RD t G H' r R row cy dA tA uA pg rf n' T' jw->iG n n' fr jw T T' rest cy z->Q (.int z) H'
section
variable{P:cA}{w:ck}{K:bn}{mg:ac->Option af}{base:bP}{t:aE}
inductive zq(t:aE)(ok:aa->Prop)(vs:List V)(H:Hp)(Q:VK)(E:XK):Prop|mk:∀G r R row rest dA tA uA pg rf n T e l,vs=[.ref r,.ref dA]->RD t G H r R row rest dA tA uA pg rf n T (e::l)->ok rest->n<=2048->n=(im (e::l)).length->T.length<=20000->DQ t G r R row rest dA tA uA pg rf n T (e::l) Q->zq t ok vs H Q E
theorem akj(T:Txt K mg t):aQ P w K mg base 11 t.G5 Kw (zq t fun rest=>∃q,rest=60::q/\front [47] q=none):=by
 exists T.adg,VZ;obtain⟨G,r,R,row,rest,dA,tA,uA,pg,rf,n,Tx,e,l,rfl,h,⟨q,rfl,hq⟩,hn,vR,hT,k⟩:=h;obtain⟨dx,er⟩:=h.rd.rd.ob;have bG:=hr.mono (show 1<=10 by decide);have dS:=hr.mono (show 3<=10 by decide);refine{_,ak (b9 (i:=2) VZ.nd rfl (bx rfl) (cE (pv 0) T.cq.cl T.Rw (Sq T) hr))
  (ak (bA (ot (wt (pv 2))) (au (aM (bS T.yB))) bH)
  (ak (bA (bW (dh (Sw T) T.Pd bG (aq (pf 2) aA))) (au (aM (bS T.QL))) bH)
  (ak (bA (iN (cg gp (cN dH T.cK (pf 2)) (bS T.QE) (bD _)) (jE (cg gp (cN dH T.cK (pf 1)) (bS T.Ip) (bD _)))).pt (au (aM (bS T.vW))) bH)
  (ak (cj (bY (pv 1) T.qk.cl T.ahC (ajT T) dS (aq (pf 2) aA)))
  (ak (bA (bW (pf 2)) (au (cj (cE (pv 1) T.qk.cl T.Rm (Sg T) bG))) bH)
  (au (aM (bY (pv 1) T.qk.cl T.IR (JA T) bG (aq (mV (bW (pf 2)) bV bV) aA))))))))),?_}
 simp![er];refine{r,R,row,false,60::q,rfl,h.rd.rd,?_};rw[show front [60] (60::q)=some q by simp[front]];simp?[bM];have eM:eZ n (bv (e::l)) (60::q)=(iY (60::q)).elim (.inl (-71)) (jV eZ n (bv (e::l))):=Jb _ _ _ _;have yn:iY (60::q)=(uG q).map fun x=>(.aS x.1 x.2.1 x.2.2.1,x.2.2.2):=by unfold iY;simp[hq]
 rw[yn]at eM;rw[←L3];cases ht:uG q with
 |none=>rw[ht]at eM;intro H1 z f1;simp![fM];exact k H1 _ z n Tx (e::l) (h.read f1) (iG.nI (by decide) eM)|some x=>
  obtain⟨nm,a,al,z⟩:=x;rw[ht]at eM;simp?[iD,iR]at eM⊢;have bX:=(XZ ht).2.1;have Ib:5*(a.map wf).length+z.length+2<=q.length:=X0 (by rw[←L3,ht];rfl);have hrow:=h.rd.rd.lt;have hJ:=h.rd.rd.le;simp?[bJ,bL]at hrow Ib;intro H1 tg f1 Ia;have h1:=h.read f1;obtain⟨dg,lA,adr,eg,el,hat⟩:=Ia;have vq:=aH.of eg;have AQ:=aH.of el;have s1:aw (aH H H1) H1:=fun b o hb=>aH.of hb;have Qu:tg ∉ bK dA tA uA (e::l):=h.out (aH.free eg);simp![jP,reduceCtorEq,vq];refine{lA,adr,a.map wf,rfl,AQ,hat.mono s1,by rw[bL];lia,fun H2 s2=>{_,rfl,?_}};have h2:=h1.same s2;have afT:(a.map wf).map oz=a.map oz:=by rw[ic];rfl
  rw[afT];cases hd:distinct (a.map oz)with
  |false=>simp![bC];refine k H2 _ z n Tx (e::l) h2 (iG.nI (by decide) ?_);rw[eM];simp?[jV];rw[az hd]|true=>
   have vt:=s2 _ _ vq;simp![vt];obtain⟨dd,eo⟩:=h2.dm.ob;have afJ:(adr.map V.ref).length=a.length:=by rw[bL,hat.bu,bL]
   have hun:(((e::l).map fun e=>V.ref e.a).reverse).length=l.length+1:=by simp
   have hsl:=XF e l;refine{_,.inl (aB.of (s2 _ _ AQ)),?_};rw[afJ];by_cases h8:8<a.length
   .simp![vt];rw[az (by lia)];refine k H2 _ z n Tx (e::l) h2 (iG.nI (by decide) ?_);rw[eM];simp?[jV];rw[ao (by rw[hd];decide),az (.inl h8)]
   simp![vt];rw[ao (by lia)];simp![eo];refine{_,.inl (aB.of h2.dm.ul),?_};rw[hun];by_cases Pr:32<=l.length
   .simp![eo];rw[az (by lia)];refine k H2 _ z n Tx (e::l) h2 (iG.nI (by decide) ?_);rw[eM];simp?[jV];rw[ao (by rw[hd];decide),az (.inr (by lia))]
   simp![eo];rw[ao (by lia)];simp![eo,vt];have Qb:eZ n (bv (e::l)) (60::q)=if al=true then jT eZ n [.open_ nm a,.close] (bv (e::l)) z else jT eZ n [.open_ nm a] (nm::bv (e::l)) z:=by rw[eM];simp?[jV];rw[ao (by rw[hd];decide),ao (by lia)]
   refine⟨G,dA,tA,uA,pg,rf,n,Tx,e,l,nm,a,rfl,h2.dm,by lia,by lia,by have:=aeu e l;lia,fun H3 e1 e2 b3 M3 mu3 q1 q2 q3 q4 q5 q6=>?_⟩;have h3:=h2.new b3 M3;have p0:=b3 _ _ Qu vt;have ajw:tg ∉ bK dA tA uA (e1::e2::l):=fun m=>by
    rcases mu3 tg m with z |z
    .exact Qu z
    rw[vt]at z;cases z
   simp![p0];cases al with
   |false=>
    obtain⟨xM,jt⟩:=M3.ob;simp![jt,p0];refine{G,dA,tA,uA,pg,rf,Tx,e1::e2::l,n,1,rfl,M3,fun H4 b4 M4=>?_};refine k H4 _ z (n+1) Tx (e1::e2::l) (h3.new (b4.mono fun x z=>by rw[z];simp[bK]) M4) (iG.more (ms:=[.open_ nm a]) rfl (by simp;lia) (by simp;lia) ?_ ?_)
    .show im (e2::l)++.open_ e1.nm e1.at_::e1.m=_;rw[O3 l q4 q5 q6,q1,q2,q3]
    rw[Qb];show jT eZ n [.open_ nm a] (nm::bv (e::l)) z=jT eZ n [.open_ nm a] (e1.nm::bv (e2::l)) z;rw[q1,Dd l q4]
   |true=>
    obtain⟨xM,jt⟩:=M3.ob;simp![jt];refine{G,dA,tA,uA,pg,rf,n,Tx,e1,e2,l,rfl,M3,by lia,fun H4 b4 M4=>?_};have h4:=h3.new b4 M4;have AO:=b4 _ _ ajw p0;obtain⟨Od,E1⟩:=M4.ob;simp![E1,AO];refine{G,dA,tA,uA,pg,rf,Tx,_,n,2,rfl,M4,fun H5 b5 M5=>?_};refine k H5 _ z (n+2) Tx _ (h4.new (b5.mono fun x z=>by rw[z];simp[bK]) M5) (iG.more (ms:=[.open_ nm a,.close]) rfl (by simp;lia) (by simp;lia) ?_ ?_)
    .rw[Hg,O3 l q4 q5 q6,q1,q2,q3];rfl
    rw[Qb,az rfl];rw[show bv ({e2 with m:=e2.m++.open_ e1.nm e1.at_::(e1.m++[.close])}::l)=bv (e::l)from Dd l q4]
end
end
noncomputable def lv:eF->Option Nat|.lit c=>some c|.hole _=>none
noncomputable def j9(gs:List GP):aa:=gs.flatMap fun g=>match g with|.lit _ b=>b|.hole _=>[]
theorem ahy(gs:List GP):(flat gs).filterMap lv=j9 gs:=by
 induction gs with
 |nil=>rfl|cons g l ih=>
  have:flat (g::l)=g.flat++flat l:=rfl;rw[this,aoN,ih];cases g with
  |lit a b=>
   have:(b.map Piece.lit).filterMap lv=b:=by rw[YD];exact aoO
   show(b.map Piece.lit).filterMap lv++j9 l=b++j9 l;rw[this]
  |hole n=>rfl
theorem Rc{x:aa}(h:flat gs=x.map Piece.lit):j9 gs=x:=by rw[←ahy,h,YD];exact aoO
theorem Re(gs:List GP)(a:U)(b:aa):j9 (gs++[.lit a b])=j9 gs++b:=by simp[j9]
theorem Rf(gs:List GP)(i:Nat):(j9 (gs.take i)).length<=(j9 gs).length:=by
 have:j9 gs=j9 (gs.take i)++j9 (gs.drop i):=by unfold j9;rw[←zR,zV]
 rw[this,cw];lia
theorem ajo{x:aa}(h:flat gs=x.map Piece.lit):GP.hole n ∉ gs:=fun m=>by have:Piece.hole n∈flat gs:=zU.mpr {_,m,by simp[GP.flat]};rw[h]at this;obtain⟨c,_,z⟩:=bt.mp this;cases z
theorem akf(T:Txt K mg t):aQ P w K mg base 6 t.GZ Kt (zq t fun rest=>∃q,rest=60::47::q):=by
 exists T.ada,VX;obtain⟨G,r,R,row,rest,dA,tA,uA,pg,rf,n,Tx,e,l,rfl,h,⟨q,rfl⟩,hn,vR,hT,k⟩:=h;obtain⟨dx,er⟩:=h.rd.rd.ob;have bG:=hr.mono (show 1<=5 by decide);refine{_,ak (b9 (i:=2) VX.nd rfl (bx rfl) (cE (pv 0) T.cq.cl T.Rv (So T) hr))
  (ak (bA (iN (cg cV (pv 2) cM (bD _)) (jE (cg uo (pv 2) (om (dY eN (pf 1) (r6 sr bV) (fun _ _=>rfl)) rfl) (bD _)))).pt (au (aM (bS T.yB))) bH)
  (ak (cj (cE (pv 1) T.qk.cl T.Rm (Sg T) bG))
  (au (aM (bY (pv 1) T.qk.cl T.IR (JA T) bG (aq bV aA)))))),?_}
 simp![er];refine{r,R,row,false,60::47::q,rfl,h.rd.rd,?_};have vQ:front [60,47] (60::47::q)=some q:=by simp[front]
 rw[vQ];simp?[bM];have eM:eZ n (bv (e::l)) (60::47::q)=(iY (60::47::q)).elim (.inl (-71)) (jV eZ n (bv (e::l))):=Jb _ _ _ _;have yn:iY (60::47::q)=(ending q).map fun x=>(.cls x.1,x.2):=by unfold iY;simp[front]
 rw[yn]at eM;cases ht:ending q with
 |none=>rw[ht]at eM;intro z H1 b1 d1;simp![bC];refine{rfl,?_};simp![bC];rw[az (show S []=V.str (Str.ofString "")from rfl)];exact k H1 _ z n Tx (e::l) (h.cR b1 d1) (iG.nI (by decide) eM)|some x=>
  obtain⟨m,z⟩:=x;rw[ht]at eM;simp?[iD,iR]at eM⊢;obtain⟨hs1,hs2,yw⟩:=AS ht;have hm:m≠[]:=fun z=>by rw[z]at yw;cases yw
  intro H1 b1 d1;have h1:=h.cR b1 d1;simp![bC];refine{rfl,?_};simp![bC];rw[ao (show ¬ S m=V.str (Str.ofString "")from fun z=>hm (lL z))];obtain⟨dd,eo⟩:=h1.dm.ob;have oe:=h1.dm.ef e (by simp);simp![eo];refine{uA,_,_,_,rfl,rfl,aB.of h1.dm.ul,Q5 e l,?_};simp![oe.ob];refine{rfl,?_};cases l with
  |nil=>have Bt:e.nm=[]:=h1.dm.ls.2;simp![oe.ob];rw[Bt,az (by rw[dM (fun z=>hm (lL z))];rfl)];refine k H1 _ z n Tx [e] h1 (iG.nI (by decide) ?_);rw[eM];simp[jV,bv]|cons e' l=>
   by_cases hme:m=e.nm
   .subst hme;simp![oe.ob];rw[ao (by simp)];simp![eo];refine{G,dA,tA,uA,pg,rf,n,Tx,e,e',l,rfl,h1.dm,by lia,fun H2 b2 M2=>?_};have h2:=h1.new b2 M2;obtain⟨dd2,lS⟩:=M2.ob;simp![lS];refine{G,dA,tA,uA,pg,rf,Tx,_,n,1,rfl,M2,fun H3 b3 M3=>?_};refine k H3 _ z (n+1) Tx _ (h2.new (b3.mono fun x z=>by rw[z];simp[bK]) M3) (iG.more (ms:=[.close]) rfl (by simp;lia) (by simp;lia) ?_ ?_)
    .rw[Hg];show _=(im (e'::l)++.open_ e.nm e.at_::e.m)++[.close];simp
    rw[eM];show(if (e.nm::bv (e'::l)).head?=some e.nm then _ else _)=_;rw[az (show(e.nm::bv (e'::l)).head?=some e.nm from rfl),show bv ({e' with m:=e'.m++.open_ e.nm e.at_::(e.m++[.close])}::l)=bv (e'::l)from Dd l rfl];rfl
   simp![];rw[az (by rw[dM (fun z=>hme (lL z))];rfl)];refine k H1 _ z n Tx _ h1 (iG.nI (by decide) ?_);rw[eM];show(if (e.nm::bv (e'::l)).head?=some m then _ else _)=_;rw[ao (fun z=>hme (by injection z with z;exact z.symm))]
theorem akn(T:Txt K mg t):aQ P w K mg base 9 t.G9 Kz (zq t fun rest=>∃c q,rest=c::q/\c≠60):=by
 exists T.adk,Ln;obtain⟨G,r,R,row,rest,dA,tA,uA,pg,rf,n,Tx,e,l,rfl,h,⟨c,q,rfl,hc⟩,hn,vR,hT,k⟩:=h;obtain⟨dx,er⟩:=h.rd.rd.ob;have bG:=hr.mono (show 1<=8 by decide);refine{_,ak (b9 (i:=2) Ln.nd rfl (bx rfl) (cE (pv 0) T.cq.cl T.Ry (Su T) hr))
  (ak (bA (ot (wt (pv 2))) (au (aM (bS T.yB))) bH)
  (ak (mY PassesOwn.never rfl (l8 (pf 2)) (gq (i:=3) Ln.nd rfl (bx rfl))
   (au (cj (fb ej uQ uR rS (pf 1) (aq (pv 3) aA)))))
  (au (aM (bY (pv 1) T.qk.cl T.IR (JA T) bG (aq bV aA)))))),?_}
 simp![er];refine{r,R,row,false,c::q,rfl,h.rd.rd,?_};have eM:eZ n (bv (e::l)) (c::q)=(iY (c::q)).elim (.inl (-71)) (jV eZ n (bv (e::l))):=Jb _ _ _ _;have yn:iY (c::q)=(qV (c::q)).map fun x=>(.bE x.1,x.2):=by unfold iY;simp[hc]
 rw[yn]at eM;rw[ED];cases ht:qV (c::q)with
 |none=>rw[ht]at eM;intro H1 z f1;simp![fM];exact k H1 _ z n Tx (e::l) (h.read f1) (iG.nI (by decide) eM)|some x=>
  obtain⟨x,z⟩:=x;rw[ht]at eM;simp?[iD,iR]at eM⊢;have hpc:de false (dD false) (c::q)=some (x.map Piece.lit,z):=by rw[ED,ht];rfl
  have afQ:=SH _ _ _ _ (bR _) hpc;have bX:=(N3 (by simp[dD,hc]) ht).2;have hrow:=h.rd.rd.lt;have hJ:=h.rd.rd.le;simp?[bJ,bL]at hrow afQ bX;intro H1 wA w1;have f1:=w1.rf;have h1:=h.read f1;obtain⟨pA,fA,hA,gs,hs,W,ip,kY⟩:=w1.wd;have ip:flat gs=x.map Piece.lit:=ip;obtain⟨dw,ew⟩:=W.ob;have rh:=aH.of ew;simp![jP,reduceCtorEq,rh];obtain⟨dd,eo⟩:=h1.dm.ob;have n4:=h1.dm.own;have outN:∀{b:U} {o:HO},aH H H1 b=some o->b≠tA:=fun{b o} hb z=>(h.out (aH.free hb)) (by rw[z];simp[bK]);refine{_,rfl,wA,_,_,_,_,rfl,rh,T.k7.cl,T.NA,aet ..,pA,rfl,{_,aB.of (aH.of W.pc)},tJ (K:=K) (xs:=gs.map GP.v) (fun i σ H'=>(∃v3,σ=[some (V.ref r),some (V.ref dA),some (V.ref wA),v3])/\ah (· =tA) H1 H'/\H' tA=some (.ag (vb (Tx++j9 (gs.take i))))/\bI G H') {{(none),rfl},ah.refl _,by rw[MA];simp?[j9,uJ,ei];exact h1.dm.tx,h1.dm.dn} (fun i σ H' _ hp=>aB.of (hp.2.1 _ _ (outN W.pc) (aH.of W.pc))) ?_ ?_}
  .rintro i v σ H2 hi ⟨⟨v3,rfl⟩,b2,e2,D2⟩;rw[dQ]at hi;cases hg:gs[i]? with
   |none=>rw[hg]at hi;cases hi|some g=>
    rw[hg]at hi;injection hi with hi
    subst hi;cases g with
    |hole m=>exact aJ (fh hg) (ajo ip)|lit a b=>
     have yi:=W.lt a b (fh hg);have ea:H2 a=some (.ag (vb b)):=b2 _ _ (outN yi) (aH.of yi);have hlx:=Rf gs i;have Qa:=Rf gs (i+1);have htk:gs.take (i+1)=gs.take i++[.lit a b]:=by rw[jO,hg];rfl
     rw[Rc ip]at hlx Qa;rw[htk,Re,cw]at Qa;simp![b2 _ _ n4.1 eo];refine{.inl {rfl,_,aB.of e2},tA,a,_,_,rfl,rfl,e2,ea,?_,?_}
     .simp?[eD,cw];exact gi (cx (by lia))
     refine{{_,rfl},b2.trans ah.here,?_,D2.ae};rw[ay,htk,Re,←zC,fY]
  rintro σ H2 ⟨⟨v3,rfl⟩,b2,e2,D2⟩;rw[bL,kJ,Rc ip]at e2;have M2:=h1.dm.text b2 e2 D2;have h2:=h1.new (b2.mono fun x z=>by rw[z];simp[bK]) M2;obtain⟨dd2,lS⟩:=M2.ob;simp![lS];refine{G,dA,tA,uA,pg,rf,_,_,n,1,rfl,M2,fun H3 b3 M3=>?_};refine k H3 _ z (n+1) _ _ (h2.new (b3.mono fun x z=>by rw[z];simp[bK]) M3) (iG.more (ms:=[.text x]) rfl (by simp;lia) (by simp;lia) (Hg e l _) ?_);rw[eM,show bv ({e with m:=e.m++[.text x]}::l)=bv (e::l)from Dd l rfl];rfl
theorem akh(T:Txt K mg t):aQ P w K mg base 12 t.G4 CI (zq t fun rest=>rest≠[]):=by
 exists T.adf,amz;obtain⟨G,r,R,row,rest,dA,tA,uA,pg,rf,n,Tx,e,l,rfl,h,hne,hn,vR,hT,k⟩:=h;obtain⟨dr,er⟩:=h.rd.rd.ob;have cD:=hr.mono (show 2<=11 by decide);have Bw:=hr.mono (show 6<=11 by decide);have HV:=hr.mono (show 9<=11 by decide);refine{_,ak (bA (bW (bY (pv 0) T.cq.cl T.ua (uj T) cD (aq cM aA))) (au (aM (dh (akf T) T.aeY Bw (aq (pv 0) (aq (pv 1) aA))))) bH)
  (ak (bA (bW (bY (pv 0) T.cq.cl T.ua (uj T) cD (aq cM aA))) (au (aM (dh (akj T) T.ae2 hr (aq (pv 0) (aq (pv 1) aA))))) bH)
  (au (aM (dh (akn T) T.ae6 HV (aq (pv 0) (aq (pv 1) aA)))))),?_}
 simp![er];cases rest with|nil=>exact aJ rfl hne|cons c q=>
 refine{r,R,row,false,c::q,[60,47],rfl,h.rd.rd,by decide,fun H1 b1 d1=>{_,rfl,?_}};have h1:=h.cR b1 d1;cases hf:front [60,47] (c::q)with
 |some z=>simp![bC];have eq:=lV hf;exact{G,r,R,row,c::q,dA,tA,uA,pg,rf,n,Tx,e,l,rfl,h1,{(z),eq},hn,vR,hT,k}|none=>
  obtain⟨Op,nT⟩:=h1.rd.rd.ob;simp![nT];refine{r,R,row,false,c::q,[60],rfl,h1.rd.rd,by decide,fun H2 b2 d2=>{_,rfl,?_}};have h2:=h1.cR b2 d2;by_cases hc:c=60
  .subst hc;rw[show front [60] (60::q)=some q by simp[front]];simp![bC];rw[kX]at hf;exact{G,r,R,row,_,dA,tA,uA,pg,rf,n,Tx,e,l,rfl,h2,{(q),rfl,hf},hn,vR,hT,k}
  rw[i9 hc];simp![bC];exact{G,r,R,row,_,dA,tA,uA,pg,rf,n,Tx,e,l,rfl,h2,{(c),q,rfl,hc},hn,vR,hT,k}
inductive Ej(t:aE)(N:Hp)(T:aa)(a:U)(m:List aG):Prop|mk:∀dx v0 v1 v2 sd f,N a=some (.am t.gu dx (fk v0 v1 v2 (.ref sd)))->u5 N (iS t N T f) sd m->Ej t N T a m
inductive nD(t:aE)(N:Hp)(dA:U)(T:aa)(m:List aG):Prop|mk:∀dx pg tA v3 v4,N dA=some (.am t.fE dx (fj (.int 0) (.ref pg) (.ref tA) v3 v4))->N tA=some (.ag (vb T))->T.length<=20000->dW m->m.length<=2048->Ej t N T pg m->nD t N dA T m
theorem alf(a b:List aG)(x:MR):pre a (pre b x)=pre (a++b) x:=by cases x with|inl z=>rfl|inr m=>show pM (a++(b++m))=pM ((a++b)++m);rw[fY]
structure ZM(t:aE)(H H':Hp)(a dx tA uA p pd sd:U):Prop where
 aP:ah (· =a) H H'
 nt:H tA=none
 nu:H uA=none
 np:H p=none
 ns:H sd=none
 nd:[a,tA,uA,p,sd].Nodup
 ob:H' a=some (.am t.fE dx (fj (.int 0) (.ref p) (.ref tA) (.int 0) (.ref uA)))
 tx:H' tA=some (.ag [])
 ul:H' uA=some (.ag [.ref p])
 pg:H' p=some (.am t.gu pd (fk (S []) (.int 0) (.int 0) (.ref sd)))
 sd:H' sd=some (.dK [])
inductive Wu(t:aE)(vs:List V)(H:Hp)(Q:VK)(E:XK):Prop|mk:∀a dx,vs=[.ref a]->H a=some (.am t.fE dx [])->(∀H' tA uA p pd sd,ZM t H H' a dx tA uA p pd sd->Q .aN H')->Wu t vs H Q E
theorem ajC(T:Txt K mg t):aQ P w K mg base 3 t.Fb BY (Wu t):=by
 exists T.abr,alS;obtain⟨a,dx,rfl,e,k⟩:=h;refine{_,ak (bT (pv 0) bV rfl) (ak (bT (pv 0) (iu T.yC (Sa T) hr (aq cM (aq bV aA))) rfl) (ak (bT (pv 0) (fc aA) rfl) (ak (bT (pv 0) bV rfl) (au (bT (pv 0) (fc (aq (pf 0) aA)) rfl))))),?_};simp![e,ay,A2,eT];intro p pd np BP apZ;refine{p,pd,[],0,rfl,ay,fun H2 sd b2 ns ep es=>{rfl,?_}};have s2:=iq np BP b2;have tF:H2 a=some (.am t.fE dx [("refusal",V.int 0)]):=s2 _ _ ay;have b02:ah (· =a) H H2:=ah.here.trans (aw.aP s2);have yM:p≠a:=(aC (H:=_L.ae H a (.am t.fE dx [("refusal",V.int 0)])) ay np).symm;have npH:H p=none:=by rwa[aj yM]at np
 have yY:sd≠a:=cr es tF (by intro z;cases z);have R5:sd≠p:=cr es ep (by intro z;cases z);have nsH:H sd=none:=by
  cases hx:H sd with
  |none=>rfl|some o=>
   have h1:_L.ae H a (.am t.fE dx [("refusal",V.int 0)]) sd=some o:=by rwa[aj yY]
   rw[aj R5,aj (aC h1 BP),h1]at ns;cases ns
 simp![tF,A2,eT,dE];generalize nX:_L.ae H2 a (.am t.fE dx [(Str.ofString "refusal",V.int 0),(Str.ofString "page",V.ref p)])=H3;have OB:H3 a=some (.am t.fE dx [(Str.ofString "refusal",V.int 0),(Str.ofString "page",V.ref p)]):=by rw[←nX,ay]
 have b3:ah (· =a) H H3:=by rw[←nX];exact b02.trans ah.here
 have vx:H3 p=some (.am t.gu pd (fk (S []) (.int ((0:Nat):Int)) (.int ((0:Nat):Int)) (.ref sd))):=by rwa[←nX,aj yM]
 have AT:H3 sd=some (.dK []):=by rwa[←nX,aj yY]
 intro tA nt;have n1:a≠tA:=aC OB nt;simp![aj n1,OB,ay,gT,A2,eT];generalize rE:_L.ae (_L.ae H3 tA (.ag [])) a (.am t.fE dx [(Str.ofString "refusal",V.int 0),(Str.ofString "page",V.ref p),(Str.ofString "text",V.ref tA),(Str.ofString "marks",V.int 0)])=H4;have EV:H4 a=some (.am t.fE dx [(Str.ofString "refusal",V.int 0),(Str.ofString "page",V.ref p),(Str.ofString "text",V.ref tA),(Str.ofString "marks",V.int 0)]):=by rw[←rE,ay]
 have b4:ah (· =a) H3 H4:=by rw[←rE];exact(ah.new nt).trans ah.here
 have xY:H4 tA=some (.ag []):=by rw[←rE,aj n1.symm,ay]
 have Ju:H tA=none:=by cases hx:H tA with|none=>rfl|some o=>rw[b3 tA o n1.symm hx]at nt;cases nt
 simp![EV,sA,eT];refine{.ref p,rfl,by decide,fun uA nu=>?_};have n2:a≠uA:=aC EV nu;simp![aj n2,EV,A2,eT];have OL:=b4 _ _ yM vx;have OP:=b4 _ _ yY AT;have b34:=b3.trans b4;have nuH:H uA=none:=by cases hx:H uA with|none=>rfl|some o=>rw[b34 uA o n2.symm hx]at nu;cases nu
 have q1:tA≠uA:=aC xY nu;have q2:p≠tA:=aC vx nt;have q3:sd≠tA:=aC AT nt;have q4:p≠uA:=aC OL nu;have q5:sd≠uA:=aC OP nu;refine k _ tA uA p pd sd {(b34.trans (ah.new nu)).trans ah.here,Ju,nuH,npH,nsH,?_,ay,?_,?_,?_,?_}
 .simp[n1,n2,yM.symm,yY.symm,q1,q2.symm,q3.symm,q4.symm,q5.symm,R5.symm]
 .rwa[aj n1.symm,aj q1]
 .rw[aj n2.symm,ay]
 .rw[aj yM,aj q4];exact OL
 rw[aj yY,aj q5];exact OP
def Zy(t:aE)(H:Hp)(Q:VK):MR->Prop|.inl z=>∀H' dA dx v1 v2 v3 v4,aw H H'->z<0->H' dA=some (.am t.fE dx (fj (.int z) v1 v2 v3 v4))->Q (.ref dA) H'|.inr m=>∀H' dA T,aw H H'->nD t (aH H H') dA T m->Q (.ref dA) H'
inductive Wv(t:aE)(vs:List V)(H:Hp)(Q:VK)(E:XK):Prop|mk:∀R row,vs=[.ref R]->H R=some (.ag (vb row))->row.length<=20000->Zy t H Q (numOf (uF row))->Wv t vs H Q E
theorem XG{fr:List EF}{pg:U}(h:Ee fr pg):bv fr=[]↔fr.length<=1:=by cases fr with|nil=>exact h.elim|cons e l=>cases l<;>simp[bv]
theorem akg(T:Txt K mg t):aQ P w K mg base 13 t.G3 Kv (Wv t):=by
 exists T.ade,Lk;obtain⟨R,row,rfl,hR,hl,k⟩:=h;have bG:=hr.mono (show 1<=12 by decide);have cD:=hr.mono (show 2<=12 by decide);have lY:=hr.mono (show 4<=12 by decide);refine{_,ak (b9 (i:=1) Lk.nd rfl (bx rfl) (wC T.qk (ajC T) lY))
  (ak (bA (cg gp (cN dH T.cK (pv 0)) (bS T.Iv) (bD _)) (ak (bT (pv 1) (bS T.vW) rfl) (au (aM (pv 1)))) bH)
  (ak (b9 (i:=2) Lk.nd rfl (bx rfl) (iu T.cq (Jw T) cD (aq (pv 0) (aq dX aA))))
  (ak (pC PassesOwn.never (jD (cg cV (pf 1) bV (bD _)) (mh (fe (bW (cE (pv 2) T.cq.cl T.qm (qv T) bG))))).pt
   (au (bT (pv 1) (dh (akh T) T.ae1 hr (aq (pv 2) (aq (pv 1) aA))) rfl)))
  (ak (bA (jD (cg cV (pf 1) bV (bD _)) (mh (cg gp (cN dH T.cK (pf 1)) bV (bD _)))).pt (au (bT (pv 1) (bS T.yB) rfl)) bH)
  (au (aM (pv 1))))))),?_}
 rw[Ts]at k;simp![bC];intro dA dd nd1 nd2 nd3;refine{dA,dd,rfl,ay,fun H1 tA uA pg pd sd D=>{rfl,?_}};have s1:aw H H1:=iq nd1 nd2 D.aP;have rF:=s1 _ _ hR;simp![bC];refine{_,.inl (aB.of rF),?_};rw[eD];by_cases Be:16384<row.length
 .rw[az Be]at k;simp![bC];rw[az (by lia)];simp![D.ob];refine k _ dA dd _ _ _ _ ?_ (by decide) ay;exact fun b o hb=>by rw[aj (aC hb nd1)];exact s1 b o hb
 rw[ao Be]at k;simp![D.ob];rw[ao (by lia)];simp![bC];intro r dr nr kh nxr;have yh:_L.ae (_L.ae H1 dr (.own r)) r (.am t.eY dr []) R=some (.ag (vb row)):=by rwa[aj (aC rF nr),aj (aC rF kh)]
 refine{r,R,row,false,dr,rfl,ay,yh,hl,fun H2 b2 d2=>{rfl,?_}};have s2:aw H1 H2:=iq nr kh b2;have s02:=s1.trans s2;have free:∀{a:U},_L.ae (_L.ae H dd (.own dA)) dA (.am t.fE dd []) a=none->H a=none:=fun{a} h=>by cases ha:H a with|none=>rfl|some o=>rw[aj (aC ha nd1),aj (aC ha nd2),ha]at h;cases h
 obtain⟨pe,o7⟩:∃pe:EF,pe=⟨pg,pd,sd,[],[],0,[],[],[]⟩:={_,rfl};have j4:∀x∈bK dA tA uA [pe],H x=none:=fun x m=>by
  rw[o7]at m;simp?[bK,EF.own,kD,uJ,ei,lF,bw,qG,or_false]at m;rcases m with m |m |m |m |m
  .rwa[m]
  .rw[m];exact free D.nt
  .rw[m];exact free D.nu
  .rw[m];exact free D.np
  rw[m];exact free D.ns
 have af4:∀x∈bK dA tA uA [pe],∃o,H1 x=some o:=fun x m=>by
  rw[o7]at m;simp?[bK,EF.own,kD,uJ,ei,lF,bw,qG,or_false]at m;rcases m with m |m |m |m |m
  .rw[m];exact{_,D.ob}
  .rw[m];exact{_,D.tx}
  .rw[m];exact{_,D.ul}
  .rw[m];exact{_,D.pg}
  rw[m];exact{_,D.sd}
 obtain⟨G,hG⟩:∃G,G=AG H2 (· ∈bK dA tA uA [pe]):={_,rfl};have gs:∀b o,G b=some o->H2 b=some o:=fun b o hb=>by
  by_cases hm:b∈bK dA tA uA [pe]
  .rw[hG,AH hm]at hb;cases hb
  rwa[hG,pZ hm]at hb
 have gH:∀b o,H b=some o->G b=some o:=fun b o hb=>by
  have:b ∉ bK dA tA uA [pe]:=fun m=>by rw[j4 b m]at hb;cases hb
  rw[hG,pZ this];exact s02 b o hb
 have D2:bI G H2:=fun b hb=>by cases hx:G b with|none=>rfl|some o=>rw[gs b o hx]at hb;cases hb
 obtain⟨xQ,kW⟩:=d2.ob;have nrm:r ∉ bK dA tA uA [pe]:=fun m=>by obtain⟨o,q⟩:=af4 r m;rw[nr]at q;cases q
 have nRm:R ∉ bK dA tA uA [pe]:=fun m=>by rw[j4 R m]at hR;cases hR
 have f2:RF t G H2 r R row false row:={d2,{_,by rw[hG,pZ nrm];exact kW},{_,by rw[hG,pZ nRm];exact d2.rw},fun b o hb _=>gs b o hb,D2};have M2:DM t G H2 dA tA uA pg 0 0 [] [pe]:=by
  refine{{dd,s2 _ _ D.ob},s2 _ _ D.tx,by rw[o7];exact s2 _ _ D.ul,fun e m=>?_,?_,?_,?_,fun b m=>by rw[hG];exact AH m,D2,by rw[o7];exact{(rfl),rfl},by simp}
  .have:e=pe:=by simpa using m
   rw[this,o7];exact{s2 _ _ D.pg,(DR.new (s2 _ _ D.sd)).ext fun _=>rfl,fun _=>Iff.rfl,.nil,bR _}
  .rw[o7];exact{{[],rfl,trivial},trivial}
  .rw[o7];exact{[],rfl,rfl,rfl}
  rw[o7];have:=D.nd;simpa[bK,EF.own]using this
 have fin:∀H' z,RF t G H' r R row false z->aw H H':=fun H' z f b o hb=>f.keep b o (gH b o hb) (fun q=>by have:=s1 _ _ hb;rw[q,nr]at this;cases this);simp![bC]
 refine su (fun m σ H'=>∃rest n Tx fr rf,σ=[some (V.ref R),some (V.ref dA),some (V.ref r)]/\RD t G H' r R row rest dA tA uA pg rf n Tx fr/\m=(if rf=0 then rest.length+1 else 0)/\
   (rf=0->eZ 0 [] row=pre (im fr) (eZ n (bv fr) rest)/\n=(im fr).length/\n<=2048/\Tx.length+rest.length<=row.length)/\(rf≠0->rf<0/\eZ 0 [] row=.inl rf))
  {_,row,0,[],[pe],0,rfl,{(f2),M2},rfl,fun _=>{by rw[o7];cases hx:eZ 0 [] row<;>simp[im,bv,pre,hx],by rw[o7];rfl,by decide,by simp},fun z=>aJ rfl z} ?_
 intro W X hW hX m σ H3 hw;obtain⟨rest,n,Tx,fr,rf,rfl,h3,rfl,hz,hnz⟩:=hw;obtain⟨xM,jt⟩:=h3.dm.ob;simp![jt];by_cases h0:rf=0
 .subst h0;obtain⟨tV,Il,Im,hz4⟩:=hz rfl;rw[az rfl];obtain⟨ER,tG⟩:=h3.rd.rd.ob;simp![tG];refine{r,R,row,false,rest,rfl,h3.rd.rd,_,rfl,?_};cases rest with
  |nil=>
   rw[hX];simp![fM,jt];refine{_,.inl (aB.of h3.dm.ul),?_};rw[aif]at tV;by_cases h1:fr.length<=1
   .simp![fM,jt];rw[ao (by simp;lia)];rw[(XG h3.dm.ls).mpr h1,az rfl]at tV;cases fr with|nil=>exact h3.dm.ls.elim|cons e l=>
    have hl0:l=[]:=jN.mp (by simp?[bJ]at h1;lia);subst hl0;have hm:eZ 0 [] row=.inr e.m:=by rw[tV];show pM (e.m++[])=_;rw[ei]
    rw[hm]at k;have gn:∀b,G b=none->H b=none:=fun b hb=>by cases hx:H b with|none=>rfl|some o=>rw[gH b o hx]at hb;cases hb
    have sN:aw (br G H3 (· ∈bK dA tA uA [e])) (aH H H3):=fun b o hb=>by rw[A5]at hb;exact fI.mpr {gn b hb.1,hb.2.2}
    have oe:=h3.dm.ef e (by simp);have ja:∀{x:U} {o:HO},x∈e.own->H3 x=some o->aH H H3 x=some o:=fun{x o} hx ho=>fI.mpr {gn x (h3.dm.iJ x (ub (e:=e) (by simp) hx)),ho};obtain⟨⟨c0,c1,c2⟩,_⟩:=h3.dm.ch;have hc:e.cs=c0:=by rw[c1];simp
    have hpg:e.a=pg:=h3.dm.ls.1;simp![fM,jt];refine k H3 dA Tx (fin H3 _ h3.rd) {xM,pg,tA,_,_,fI.mpr {(nd1),jt},fI.mpr {free D.nt,h3.dm.tx},by simp at hz4;lia,oe.bl,by rw[Il]at Im;exact Im,e.dx,S e.nm,.int (e.b:Int),.int (e.b:Int),e.sd,100,?_,e.cs,e.ks,?_,oe.nm,?_}
    .rw[←hpg];exact ja (by simp[EF.own]) oe.ob
    .exact{ja (by simp[EF.own]) oe.dr.dk,oe.dr.nd,oe.dr.na,fun m x hm=>ja (by simp?[EF.own,bw];exact .inr (.inr (bt.mpr {_,hm,rfl}))) (oe.dr.rw m x hm),oe.dr.no}
    rw[hc];exact c2.mono fun _ _ q=>q.same sN
   simp![fM,jt];rw[az (by simp;lia)];rw[ao (fun z=>h1 ((XG h3.dm.ls).mp z))]at tV;have hm:eZ 0 [] row=.inl (-71):=tV;rw[hm]at k;simp![fM,jt];exact k _ dA xM _ _ _ _ (fun b o hb=>by rw[aj (aC hb nd1)];exact fin H3 _ h3.rd b o hb) (by decide) ay
  |cons c q=>
   simp![jP,reduceCtorEq];cases fr with|nil=>exact h3.dm.ls.elim|cons e l=>
   refine{Nx W _,fun _ _ h=>h,G,r,R,row,c::q,dA,tA,uA,pg,0,n,Tx,e,l,rfl,h3,by simp,Im,Il,by lia,fun H4 z cy n' T' jw h4 out=>?_};obtain⟨Od,E1⟩:=h4.dm.ob;simp![E1];have M5:=h4.dm.num (dx:=Od) (rf':=z) (n':=n');have h5:=h4.new (ah.ae (by simp[bK])) M5;refine{if z=0 then cy.length+1 else 0,?_,?_}
   .by_cases tU:z=0
    .have:=(out.1 tU).1;rw[az tU];simp?[bJ]at this⊢;lia
    rw[ao tU];simp
   rw[hW];refine{cy,n',T',jw,z,rfl,h5,rfl,fun tU=>?_,fun tU=>?_}
   .obtain⟨o1,o2,o3,ms,o4,o5,o6⟩:=out.1 tU;refine{?_,?_,o2,by lia}
    .rw[tV,o6,alf,o4]
    rw[o5,o4,cw,Il]
   obtain⟨o1,o2⟩:=out.2 tU;refine{o1,?_};rw[tV,o2];rfl
 rw[ao h0,hX];simp![jt];rw[ao h0];obtain⟨q1,q2⟩:=hnz h0;rw[q2]at k;simp![jt];exact k H3 dA xM _ _ _ _ (fin H3 _ h3.rd) q1 jt
noncomputable def aS(m:List aG):List aa:=m.filterMap fun x=>match x with|.open_ n _=>some n|_=>none
theorem SA(m:List aG):(aS m).length<=m.length:=aoW _ _
theorem SD{m:List aG}(h:dW m):∀x∈fK m,x.1∈aS m/\∀n∈aS x.2,n∈aS m:=by
 induction h with
 |nil=>intro x hx;cases hx|bE h ih=>intro x hx;rw[wN h]at hx;exact ih x hx
 |@oS n a i m hi hm _ ih=>
  intro x hx;have e:aS (.open_ n a::(i++.close::m))=n::(aS i++aS m):=by simp[aS]
  rw[e];rw[wM hi hm]at hx;rcases bw.mp hx with rfl |hx
  .exact{eS,fun k hk=>dq _ (nh _ hk)}
  obtain⟨h1,h2⟩:=ih x hx;exact{dq _ (mo _ h1),fun k hk=>dq _ (mo _ (h2 k hk))}
noncomputable def m4(kl:List (aa×U))(n:aa):Option U:=(kl.find? fun x=>decide (x.1=n)).map (·.2)
theorem CV{kl:List (aa×U)}{l:U}(h:m4 kl n=some l):(n,l)∈kl:=by
 unfold m4 at h;rcases mK (hs:=kl) (n:=n)with⟨l',h1,h2⟩ |⟨h1,h2⟩
 .rw[h1]at h;injection h with h;subst h;exact h2
 rw[h1]at h;cases h
theorem Tv{kl:List (aa×U)}(h:m4 kl n=none):n ∉ kl.map (·.1):=by
 unfold m4 at h;rcases mK (hs:=kl) (n:=n)with⟨l',h1,h2⟩ |⟨h1,h2⟩
 .rw[h1]at h;cases h
 exact h2
def io(es:List (List (aa×U)))(n:aa):List V:=(es.reverse.filterMap fun kl=>m4 kl n).map V.ref
theorem x9(kl:List (aa×U))(es:List (List (aa×U)))(n:aa):io (kl::es) n=io es n++(m4 kl n).toList.map V.ref:=by unfold io;rw[YW,aoN,dJ];congr 2
theorem O4(es:List (List (aa×U)))(n:aa):(io es n).length<=es.length:=by unfold io;rw[bL];have:=aoW (fun kl=>m4 kl n) es.reverse;rwa[zT]at this
inductive qP(t:aE)(N:Hp)(T:aa)(a:U)(kl:List (aa×U))(m:List aG):Prop|mk:(dW m)->∀dx v0 v1 v2 sd f cs,N a=some (.am t.gu dx (fk v0 v1 v2 (.ref sd)))->DR N sd kl (lp cs)->(∀n,n∈kl.map (·.1)↔n∈cs.map (·.1))->eG (iS t N T f) cs (fK m)->qP t N T a kl m
theorem qP.of(h:Ej t N T a m)(b:dW m):∃kl,qP t N T a kl m:=by obtain⟨dx,v0,v1,v2,sd,f,e,cs,ks,h1,h2,h3⟩:=h;exact{(ks),b,dx,v0,v1,v2,sd,f,cs,e,h1,h2,h3}
theorem iS.Tu:∀{f:Nat},iS t N T f a m->∃kl,qP t N T a kl m|0,h=>h.elim|f+1,⟨h0,u,v,h1,dx,nm,sd,h2,h3⟩=>qP.of {dx,_,_,_,sd,f,h2,h3} h0
theorem ajf(r:List aG)(R:List (List aG))(n:aa):named (r::R) n=if (fK r).filter (fun x=>x.1==n)=[]then named R n else ((fK r).filter fun x=>x.1==n).map pK:=by unfold named;rw[Mz];rw[show Ms (r.length+1) r=fK r from rfl];generalize (fK r).filter (fun x=>x.1==n)=L;cases L with|nil=>simp|cons y z=>simp
def pT(t:aE)(N:Hp)(T:aa):List (List (aa×U))->List U->List (List aG)->Prop
 |[],[],[]=>True|kl::es,a::as,m::R=>qP t N T a kl m/\pT t N T es as R
 |_,_,_=>False
theorem pT.named(n:aa):∀{es:List (List (aa×U))} {as:List U} {R:List (List aG)},pT t N T es as R->
  (named R n=[]/\io es n=[])∨∃fs l f ds,io es n=fs++[V.ref l]/\N l=some (.ag (ds.map fun x:aa×U=>V.ref x.2))/\ds≠[]/\∃xs,eG (iS t N T f) ds xs/\named R n=xs.map pK/\∃m∈R,∀x∈xs,x∈fK m
 |[],[],[],_=>.inl {(rfl),rfl}|kl::es,a::as,m::R,h=>by
  obtain⟨⟨hb,dx,v0,v1,v2,sd,f,cs,e,d,hn,hk⟩,h2⟩:=h;have ih:=pT.named n h2;rw[ajf,x9];have hrow:=hk.row n;cases hr:m4 kl n with
  |none=>
   have h1:n ∉ cs.map (·.1):=fun z=>Tv hr ((hn n).mpr z);have h3:cs.filter (fun x=>decide (x.1=n))=[]:=YH.mpr fun x hx z=>h1 (by
    have:x.1=n:=by simpa using z
    rw[←this];exact bt.mpr {(x),hx,rfl})
   rw[h3]at hrow;have h4:(fK m).filter (fun x=>x.1==n)=[]:=by have:=hrow.bu;exact jN.mp this.symm
   rw[az h4];simp?[Option.toList_none,lF,ei];rcases ih with ih |⟨fs,l,f',ds,i1,i2,i3,xs,i4,i5,m',i6,i7⟩
   .exact .inl ih
   exact .inr {fs,l,f',ds,i1,i2,i3,xs,i4,i5,m',dq _ i6,i7}
  |some l=>
   have hl:=CV hr;have h1:n∈cs.map (·.1):=(hn n).mp (bt.mpr {_,hl,rfl});have h3:cs.filter (fun x=>decide (x.1=n))≠[]:=fun z=>by obtain⟨x,hx,q⟩:=bt.mp h1;exact(YH.mp z) x hx (by simpa using q)
   have h4:(fK m).filter (fun x=>x.1==n)≠[]:=fun z=>by rw[z]at hrow;have:=hrow.bu;exact h3 (jN.mp this)
   rw[ao h4];exact .inr {io es n,l,f,_,rfl,d.rw n l hl,h3,_,hrow,rfl,m,eS,fun x hx=>(uK.mp hx).1}
 |[],_::_,_,h=>h.elim|[],[],_::_,h=>h.elim
 |_::_,[],_,h=>h.elim|_::_,_::_,[],h=>h.elim
structure gX(t:aE)(N H:Hp)(T:aa)(M:List aG)(rA dA fd:U)(ks:List (aa×U))(es:List (List (aa×U)))(as:List U)(R:List (List aG)):Prop where
 ob:∃dx,H rA=some (.am t.fU dx (jZ (.ref dA) (.ref fd)))
 dr:DR H fd ks (io es)
 rs:pT t N T es as R
 on:∀m∈R,∀n∈aS m,n∈aS M
 sb:∀n∈ks.map (·.1),n∈aS M
 ml:M.length<=2048
 sm:aw N H
 ap:∀b o,N b=some o->b≠rA/\b≠fd/\∀x∈ks,b≠x.2
theorem gX.kl{M:List aG}{as:List U}{R:List (List aG)}(h:gX t N H T M rA dA fd ks es as R):ks.length<=2048:=by have:=h.dr.nd.length_le_of_subset (fun n hn=>h.sb n hn);rw[bL]at this;have:=SA M;have:=h.ml;lia
theorem gX.aP{M:List aG}{ks:List (aa×U)}{as:List U}{R:List (List aG)}{A:U->Prop}(h:gX t N H T M rA dA fd ks es as R)(b:ah A H H')(n1:¬ A rA)(n2:¬ A fd)(n3:∀x∈ks,¬ A x.2)(n4:∀b o,N b=some o->¬ A b):gX t N H' T M rA dA fd ks es as R:=by obtain⟨dx,e⟩:=h.ob;exact{{dx,b _ _ n1 e},h.dr.aP b n2 n3,h.rs,h.on,h.sb,h.ml,fun x o q=>b x o (n4 x o q) (h.sm x o q),h.ap}
theorem gX.same{M:List aG}{as:List U}{R:List (List aG)}(h:gX t N H T M rA dA fd ks es as R)(s:aw H H'):gX t N H' T M rA dA fd ks es as R:=h.aP (A:=fun _=>False) (aw.aP s) (fun z=>z) (fun z=>z) (fun _ _ z=>z) fun _ _ _ z=>z
theorem vo{kl:List (aa×U)}{l:U}(h:Rd H d (.dK (kl.map fun x=>(bf x.1,V.ref x.2))))(nd:(kl.map (·.1)).Nodup)(m:(n,l)∈kl):kR H d (S n) (some (.ref l)):=by
 refine .inl {_,bf n,h,rfl,?_};rw[m7];rcases mK (hs:=kl) (n:=n)with⟨l',h1,h2⟩ |⟨h1,h2⟩
 .rw[h1];have:=yP nd m h2;injection this with _ this
  subst this;rfl
 exact aJ (bt.mpr {_,m,rfl}) h2
theorem Tw{kl:List (aa×U)}{l:U}(nd:(kl.map (·.1)).Nodup)(m:(n,l)∈kl):m4 kl n=some l:=by
 cases h:m4 kl n with
 |none=>exact aJ (bt.mpr {_,m,rfl}) (Tv h)|some l'=>
  have:=yP nd m (CV h);injection this with _ this
  rw[this]
theorem Jn{kl:List (aa×U)}{x:aa×U}(nd:(kl.map (·.1)).Nodup)(h:kl[i]?=some x):x.1 ∉(kl.take i).map (·.1):=fun z=>by
 obtain⟨y,hy,e⟩:=bt.mp z;obtain⟨j,hj⟩:=YM hy;rw[aoU]at hj;split at hj
 .rename_i bX;have h1:(kl.map (·.1))[j]?=some y.1:=by rw[dQ,hj];rfl
  have h2:(kl.map (·.1))[i]?=some x.1:=by rw[dQ,h];rfl
  rw[e]at h1;have:=(aoT (by have:=(fB.mp h1).1;exact this) nd).mp (h1.trans h2.symm);lia
 cases hj
def nU(kl:List (aa×U))(es:List (List (aa×U)))(i:Nat)(n:aa):List V:=if n∈(kl.take i).map (·.1)then io (kl::es) n else io es n
def oX(kl:List (aa×U))(es:List (List (aa×U)))(i:Nat)(n:aa):List V:=if n∈(kl.take i).map (·.1)then io es n else io (kl::es) n
theorem vK{kl:List (aa×U)}(h:kl[i]?=some (n0,l0))(n:aa):n∈(kl.take (i+1)).map (·.1)↔n∈(kl.take i).map (·.1)∨n=n0:=by rw[jO,h,dJ,cz];simp
theorem adR{kl:List (aa×U)}(n:aa):nU kl es kl.length n=io (kl::es) n:=by
 unfold nU;rw[kJ];split
 .rfl
 rename_i h;rw[x9];cases hr:m4 kl n with|none=>simp|some l=>exact aJ (bt.mpr {_,CV hr,rfl}) h
theorem adT{kl:List (aa×U)}(n:aa):oX kl es kl.length n=io es n:=by
 unfold oX;rw[kJ];split
 .rfl
 rename_i h;rw[x9];cases hr:m4 kl n with|none=>simp|some l=>exact aJ (bt.mpr {_,CV hr,rfl}) h
theorem adS{kl:List (aa×U)}(nd:(kl.map (·.1)).Nodup)(h:kl[i]?=some (n0,l0))(n:aa):nU kl es (i+1) n=sX (nU kl es i) n0 (.ref l0) n:=by
 have hm:=fh h;by_cases e:n=n0
 .subst e;rw[Ar];unfold nU;rw[az ((vK h n).mpr (.inr rfl)),ao (Jn nd h),x9,Tw nd hm];rfl
 rw[vc e];unfold nU;by_cases hq:n∈(kl.take i).map (·.1)
 .rw[az hq,az ((vK h n).mpr (.inl hq))]
 rw[ao hq,ao (fun z=>by rcases(vK h n).mp z with z |z;exact hq z;exact e z)]
inductive WC(t:aE)(vs:List V)(H:Hp)(Q:VK)(E:XK):Prop|mk:∀N T M rA dA fd ks es as R a kl m,vs=[.ref rA,.ref a]->gX t N H T M rA dA fd ks es as R->qP t N T a kl m->(∀n∈aS m,n∈aS M)->es.length<50000->(∀H' ks',ah (fun b=>b=fd∨b∈ks.map (·.2)) H H'->gX t N H' T M rA dA fd ks' (kl::es) (a::as) (m::R)->(∀x∈ks',x∈ks∨H x.2=none)->bI H H'->Q .aN H')->WC t vs H Q E
theorem JC(T:Txt K mg t):aQ P w K mg base 1 t.Gj Kc (WC t):=by
 exists T.acl,VR;obtain⟨N,Tx,M,rA,dA,fd,ks,es,as,R,a,kl,m,rfl,D,hk,Qi,fq,k⟩:=h;obtain⟨dr,eo⟩:=D.ob;have Bn:=hk;obtain⟨hb,dx,v0,v1,v2,sd,f,cs,ea,d,hn,P4⟩:=hk;have xR:=D.sm _ _ ea;have rc:=D.sm _ _ d.dk;have At:=D.ap _ _ ea;have aps:=D.ap _ _ d.dk;have nas:a≠sd:=cr ea d.dk (by intro z;cases z);refine{_,au (KQ (mY PassesOwn.never rfl (CL (pf 1)) (gq (i:=2) VR.nd rfl (bx rfl)) (au (cj (SY (fb ej iE iF h9 (KN (pf 0) (pv 2) (fc aA) {(rfl),rfl,rfl,rfl}) (aq (wx (k5 hr) (pf 1) (pv 2) (fun _ _=>rfl)) aA))))))),?_};refine{sd,_,rc,trivial,fun od=>?_};generalize gO:_L.ae H sd (.br od (.dK (kl.map fun x=>(bf x.1,V.ref x.2))))=Hl;have el:Hl a=some (.am t.gu dx (fk v0 v1 v2 (.ref sd))):=by rwa[←gO,aj nas]
 have vy:Hl sd=some (.br od (.dK (kl.map fun x=>(bf x.1,V.ref x.2)))):=by rw[←gO,ay]
 have bl:ah (· =sd) H Hl:=by rw[←gO];exact ah.here
 have hlen:(kl.map fun x=>(bf x.1,V.ref x.2)).length=kl.length:=by simp
 refine{_,rfl,a,_,_,_,_,rfl,el,T.yC.cl,T.En,O0 ..,sd,od,rfl,.inl {_,vy,Hh (n:=kl.length) (val:=fun i x=>∃n l,kl[i]?=some (n,l)/\x=S n)
  (fun i σ H'=>(∃v2,σ=[some (V.ref rA),some (V.ref a),v2])/\H' sd=some (.br od (.dK (kl.map fun x=>(bf x.1,V.ref x.2))))/\∃ks',ah (fun b=>b=fd∨b∈ks.map (·.2)) Hl H'/\DR H' fd ks' (nU kl es i)/\(∀x∈ks',x∈ks∨H x.2=none)/\(∀n∈ks'.map (·.1),n∈aS M)/\bI Hl H')
  {{(none),rfl},vy,ks,ah.refl _,(D.dr.aP bl aps.2.1.symm fun x m=>(aps.2.2 x m).symm).ext fun n=>by simp[nU],fun x m=>.inl m,D.sb,bI.refl _} (fun i σ H' hi hp=>{hp.2.1,by rw[hlen];exact hi}) (fun σ H' hp=>{hp.2.1,by rw[hlen];exact bR _}) (fun i σ H' x oI hi _ hy=>?_) ?_ ?_}}
 .obtain⟨e1,kk,vv,e2,rfl⟩:=hy;refine{e1.symm,?_};rw[dQ]at e2;cases hx:kl[i]? with
  |none=>rw[hx]at e2;cases e2|some y=>
   rw[hx]at e2;injection e2 with e2;injection e2 with e2 e3
   exact{y.1,y.2,rfl,by rw[←e2];rfl}
 .rintro i x σ H1 hi ⟨n0,l0,hg,rfl⟩ ⟨⟨v2,rfl⟩,mI,yE,b1,d1,uk,sb1,dm1⟩;have rb:H1 rA=_:=b1 _ _ (fun z=>by
   rcases z with z |z
   .exact cr eo D.dr.dk (by intro q;cases q) z
   obtain⟨y,hy,q⟩:=bt.mp z;exact cr eo (D.dr.rw y.1 y.2 hy) (by intro q;cases q) q.symm) (bl _ _ (fun z=>(aps.1 z.symm)) eo)
  have ea1:H1 a=_:=b1 _ _ (fun z=>by
   rcases z with z |z
   .exact At.2.1 z
   obtain⟨y,hy,q⟩:=bt.mp z;exact At.2.2 y hy q.symm) el
  have Bp:=fh hg;have apT:yE.length<=2048:=by have:=d1.nd.length_le_of_subset (fun n hn=>sb1 n hn);rw[bL]at this;have:=SA M;have:=D.ml;lia
  have ip:(nU kl es i n0).length<100000:=by
   unfold nU;split
   .have:=O4 (kl::es) n0;simp at this;lia
   have:=O4 es n0;lia
  show LW _ _ _ _ _ _ _;refine Tn (d:=fd) (ks:=yE) (f:=nU kl es i) (n:=n0) (v:=.ref l0) d1 (by lia) ip (fun Rk hR=>?_) (fun Rk hR=>{_,rfl,hR}) (fun Rk H2 b2 hR=>?_) (fun H2 ks2 b2 d2 ps dm=>?_)
  .simp![rb];exact hR
  .have tF:=b2 _ _ At.2.1 ea1;have E2:=b2 _ _ aps.2.1 mI;simp![wR,tF];exact{_,vo (.inr {(od),E2}) d.nd Bp,hR}
  refine{{_,rfl},b2 _ _ (fun z=>?_) mI,ks2,?_,d2.ext fun n=>adS d.nd hg n,fun x m=>?_,fun n Br=>?_,fun b hb=>dm1 b (dm b hb)}
  .rcases z with z |z
   .exact aps.2.1 z
   obtain⟨y,hy,q⟩:=bt.mp z;rcases uk y hy with q2 |q2
   .exact aps.2.2 y q2 q.symm
   rw[q,rc]at q2;cases q2
  .intro b o nb hb;refine b2 b o (fun z=>?_) (b1 b o nb hb);rcases z with z |z
   .exact nb (.inl z)
   obtain⟨y,hy,q⟩:=bt.mp z;rcases uk y hy with q2 |q2
   .exact nb (.inr (bt.mpr {(y),q2,q}))
   rw[q]at q2;by_cases fW:b=sd
   .rw[fW,rc]at q2;cases q2
   rw[←gO,aj fW,q2]at hb;cases hb
  .rcases ps.rX x m with q |q
   .exact uk x q
   refine .inr ?_;have q:=dm1 _ q;by_cases fW:x.2=sd
   .rw[fW,vy]at q;cases q
   rwa[←gO,aj fW]at q
  rcases ps.mem.mp Br with q |q
  .exact sb1 n q
  rw[q];have h1:n0∈cs.map (·.1):=(hn n0).mp (bt.mpr {_,Bp,rfl});rw[P4.names]at h1;obtain⟨x,hx,q⟩:=bt.mp h1;exact Qi _ (q▸(SD hb x hx).1)
 rintro σ H1 ⟨⟨v2,rfl⟩,mI,yE,b1,d1,uk,sb1,dm1⟩;refine{mI,?_};have bb:ah (fun b=>b=fd∨b∈ks.map (·.2)) H (_L.ae H1 sd (.dK (kl.map fun x=>(bf x.1,V.ref x.2)))):=fun b o nb hb=>by
  by_cases fW:b=sd
  .rw[fW,rc]at hb;rwa[fW,ay]
  rw[aj fW];exact b1 b o nb (bl b o fW hb)
 have ksd:∀x∈yE,x.2≠sd:=fun x m=>by
  rcases uk x m with q |q
  .exact(aps.2.2 x q).symm
  exact fun z=>by rw[z,rc]at q;cases q
 refine k _ yE bb {{dr,bb _ _ (fun z=>?_) eo},?_,{(Bn),D.rs},fun m' hm'=>?_,sb1,D.ml,fun b o hb=>bb b o (fun z=>?_) (D.sm b o hb),fun b o hb=>?_} uk ?_
 .rcases z with z |z
  .exact cr eo D.dr.dk (by intro q;cases q) z
  obtain⟨y,hy,q⟩:=bt.mp z;exact cr eo (D.dr.rw y.1 y.2 hy) (by intro q;cases q) q.symm
 .exact(d1.aP (A:=(· =sd)) ah.here aps.2.1.symm ksd).ext fun n=>(adR n).symm
 .rcases bw.mp hm' with rfl |hm'
  .exact Qi
  exact D.on m' hm'
 .obtain⟨q1,q2,q3⟩:=D.ap b o hb;rcases z with z |z
  .exact q2 z
  obtain⟨y,hy,q⟩:=bt.mp z;exact q3 y hy q.symm
 .obtain⟨q1,q2,q3⟩:=D.ap b o hb;refine{q1,q2,fun x m=>?_};rcases uk x m with q |q
  .exact q3 x q
  exact aC (D.sm b o hb) q
 intro b hb;by_cases fW:b=sd
 .rw[fW,ay]at hb;cases hb
 rw[aj fW]at hb;have:=dm1 b hb;rwa[←gO,aj fW]at this
theorem OS{kl:List (aa×U)}(h:kl[i]?=some (n0,l0))(n:aa):oX kl es (i+1) n=if n=n0 then io es n0 else oX kl es i n:=by
 by_cases e:n=n0
 .subst e;rw[az rfl];unfold oX;rw[az ((vK h n).mpr (.inr rfl))]
 rw[ao e];unfold oX;by_cases hq:n∈(kl.take i).map (·.1)
 .rw[az hq,az ((vK h n).mpr (.inl hq))]
 rw[ao hq,ao (fun z=>by rcases(vK h n).mp z with z |z;exact hq z;exact e z)]
theorem ads{f:aa->List V}(D:DR H d ks f)(n:aa):(kR H d (S n) none/\n ∉ ks.map (·.1))∨∃l,kR H d (S n) (some (.ref l))/\(n,l)∈ks:=by
 rcases mK (hs:=ks) (n:=n)with⟨l,h1,h2⟩ |⟨h1,h2⟩
 .exact .inr {l,vo (.inl D.dk) D.nd h2,h2}
 exact .inl {.inl {_,bf n,.inl D.dk,rfl,by rw[m7,h1];rfl},h2}
inductive WR(t:aE)(vs:List V)(H:Hp)(Q:VK)(E:XK):Prop|mk:∀N T M rA dA fd ks kl es a as m R,vs=[.ref rA,.ref a]->gX t N H T M rA dA fd ks (kl::es) (a::as) (m::R)->(∀H',ah (fun b=>b∈ks.map (·.2)) H H'->gX t N H' T M rA dA fd ks es as R->bI H H'->Q .aN H')->WR t vs H Q E
theorem aka(T:Txt K mg t):aQ P w K mg base 1 t.Gn Ke (WR t):=by
 exists T.aco,VT;obtain⟨N,Tx,M,rA,dA,fd,ks,kl,es,a,as,m,R,rfl,D,k⟩:=h;obtain⟨dr,eo⟩:=D.ob;obtain⟨⟨hb,dx,v0,v1,v2,sd,f,cs,ea,d,hn,P4⟩,HX⟩:=D.rs;have xR:=D.sm _ _ ea;have rc:=D.sm _ _ d.dk;have At:=D.ap _ _ ea;have aps:=D.ap _ _ d.dk;have nas:a≠sd:=cr ea d.dk (by intro z;cases z);refine{_,au (KQ (mY PassesOwn.never rfl (CL (pf 1)) (gq (i:=2) VT.nd rfl (bx rfl)) (au (cj (zc ej DO DP yJ (wx (k5 hr) (pf 0) (pv 2) (fun _ _=>rfl))))))),?_};refine{sd,_,rc,trivial,fun od=>?_};generalize gO:_L.ae H sd (.br od (.dK (kl.map fun x=>(bf x.1,V.ref x.2))))=Hl;have el:Hl a=some (.am t.gu dx (fk v0 v1 v2 (.ref sd))):=by rwa[←gO,aj nas]
 have vy:Hl sd=some (.br od (.dK (kl.map fun x=>(bf x.1,V.ref x.2)))):=by rw[←gO,ay]
 have bl:ah (· =sd) H Hl:=by rw[←gO];exact ah.here
 have hlen:(kl.map fun x=>(bf x.1,V.ref x.2)).length=kl.length:=by simp
 have R4:∀x∈ks,rA≠x.2:=fun x m=>cr eo (D.dr.rw x.1 x.2 m) (by intro q;cases q);refine{_,rfl,a,_,_,_,_,rfl,el,T.yC.cl,T.En,O0 ..,sd,od,rfl,.inl {_,vy,Hh (n:=kl.length) (val:=fun i x=>∃n l,kl[i]?=some (n,l)/\x=S n)
  (fun i σ H'=>(∃v2,σ=[some (V.ref rA),some (V.ref a),v2])/\H' sd=some (.br od (.dK (kl.map fun x=>(bf x.1,V.ref x.2))))/\ah (fun b=>b∈ks.map (·.2)) Hl H'/\DR H' fd ks (oX kl es i)/\bI Hl H')
  {{(none),rfl},vy,ah.refl _,(D.dr.aP bl aps.2.1.symm fun x m=>(aps.2.2 x m).symm).ext fun n=>by simp[oX],bI.refl _} (fun i σ H' hi hp=>{hp.2.1,by rw[hlen];exact hi}) (fun σ H' hp=>{hp.2.1,by rw[hlen];exact bR _}) (fun i σ H' x oI hi _ hy=>?_) ?_ ?_}}
 .obtain⟨e1,kk,vv,e2,rfl⟩:=hy;refine{e1.symm,?_};rw[dQ]at e2;cases hx:kl[i]? with
  |none=>rw[hx]at e2;cases e2|some y=>
   rw[hx]at e2;injection e2 with e2;injection e2 with e2 e3
   exact{y.1,y.2,rfl,by rw[←e2];rfl}
 .rintro i x σ H1 hi ⟨n0,l0,hg,rfl⟩ ⟨⟨v2,rfl⟩,mI,b1,d1,dm1⟩;have rb:H1 rA=_:=b1 _ _ (fun z=>by obtain⟨y,hy,q⟩:=bt.mp z;exact R4 y hy q.symm) (bl _ _ (fun z=>(aps.1 z.symm)) eo);have Bp:=fh hg;have PX:oX kl es i n0=io es n0++[V.ref l0]:=by unfold oX;rw[ao (Jn d.nd hg),x9,Tw d.nd Bp];rfl
  have hin:n0∈ks.map (·.1):=DB fun z=>by have:=d1.no n0 z;rw[PX]at this;simp at this
  obtain⟨⟨n1,lf⟩,qh,q⟩:=bt.mp hin;have q:n1=n0:=q;subst q;have hrow:=d1.rw n1 lf qh;rw[PX]at hrow;simp![wR,rb];refine{_,vo (.inl d1.dk) d1.nd qh,.inl {rfl,_,aB.of hrow},lf,_,V.ref l0,rfl,rfl,hrow,by simp,?_};rw[List.dropLast_concat];have nsf:lf≠sd:=(aps.2.2 _ qh).symm;refine{{_,rfl},by rw[aj nsf.symm];exact mI,b1.trans (ah.ae (bt.mpr {_,qh,rfl})),{by rw[aj (D.dr.ne qh).symm];exact d1.dk,d1.nd,d1.na,fun n' l' hm=>?_,fun n' hm=>?_},dm1.ae}
  .rw[OS hg];by_cases e:n'=n1
   .subst e;have:=yP d1.nd hm qh;injection this with _ this
    subst this;rw[az rfl,ay]
   have:l'≠lf:=fun z=>e (by have:=Jm d1.na hm qh z;injection this);rw[ao e,aj this];exact d1.rw n' l' hm
  rw[OS hg,ao (fun z=>hm (by rwa[z]))];exact d1.no n' hm
 rintro σ H1 ⟨⟨v2,rfl⟩,mI,b1,d1,dm1⟩;refine{mI,?_};have bb:ah (fun b=>b∈ks.map (·.2)) H (_L.ae H1 sd (.dK (kl.map fun x=>(bf x.1,V.ref x.2)))):=fun b o nb hb=>by
  by_cases fW:b=sd
  .rw[fW,rc]at hb;rwa[fW,ay]
  rw[aj fW];exact b1 b o nb (bl b o fW hb)
 refine k _ bb {{dr,bb _ _ (fun z=>?_) eo},?_,HX,fun m' hm'=>D.on m' (dq _ hm'),D.sb,D.ml,fun b o hb=>bb b o (fun z=>?_) (D.sm b o hb),D.ap} ?_
 .obtain⟨y,hy,q⟩:=bt.mp z;exact R4 y hy q.symm
 .exact(d1.aP (A:=(· =sd)) ah.here aps.2.1.symm fun x m=>(aps.2.2 x m).symm).ext fun n=>(adT n).symm
 .obtain⟨q1,q2,q3⟩:=D.ap b o hb;obtain⟨y,hy,q⟩:=bt.mp z;exact q3 y hy q.symm
 intro b hb;by_cases fW:b=sd
 .rw[fW,ay]at hb;cases hb
 rw[aj fW]at hb;have:=dm1 b hb;rwa[←gO,aj fW]at this
structure ZH(t:aE)(N H':Hp)(T:aa)(R:List (List aG))(n:aa)(l:U)(f:Nat)(ds:List (aa×U))(xs:List (aa×List aG)):Prop where
 ls:H' l=some (.ag (ds.map fun x=>V.ref x.2))
 kd:eG (iS t N T f) ds xs
 nm:named R n=xs.map pK
 ja:xs≠[]->N l=some (.ag (ds.map fun x=>V.ref x.2))/\∃m∈R,∀x∈xs,x∈fK m
inductive WO(t:aE)(vs:List V)(H:Hp)(Q:VK)(E:XK):Prop|mk:∀N T M rA dA fd ks es as R n,vs=[.ref rA,S n]->gX t N H T M rA dA fd ks es as R->es.length<50000->(∀H' l f ds xs,aw H H'->ZH t N H' T R n l f ds xs->Q (.ref l) H')->WO t vs H Q E
theorem JE(T:Txt K mg t):aQ P w K mg base 1 t.Gm Kd (WO t):=by
 exists T.acn,VS;obtain⟨N,Tx,M,rA,dA,fd,ks,es,as,R,n,rfl,D,fq,k⟩:=h;obtain⟨dr,eo⟩:=D.ob;refine{_,ak (b9 (i:=2) VS.nd rfl (bx rfl) (akW (k5 hr) (pf 0) (pv 1) (fc aA) {(rfl),rfl,rfl,rfl})) (au (aM (mV (cg gp (cN dH T.cK (pv 2)) bV (bD _)) (dY eN (pv 2) (r6 sr bV) (fun _ _=>rfl)) (fc aA)))),?_};simp![eo,XQ];refine{.inl {_,.inl D.dr.dk},dE _,fun p hp=>?_};have s1:aw H (_L.ae H p (.ag [])):=aw.new hp;have ep:_L.ae H p (.ag []) p=some (.ag []):=ay;generalize _L.ae H p (.ag [])=H1 at s1 ep⊢;have D1:=D.same s1;have emp:∀(q:U) (H2:Hp),H1 q=none->named R n=[]->Q (.ref q) (_L.ae H1 q (.ag [])):=fun q H2 hq hn=>k _ q 0 [] [] (s1.trans (aw.new hq)) {ay,trivial,hn,fun z=>aJ rfl z};rcases ads D1.dr n with⟨g,hni⟩ |⟨lf,g,qh⟩
 .refine{_,g,?_};simp![zX];refine{_,.inl (aB.of ep),?_};simp![];rw[ao (by simp)];simp![];refine{dE _,fun q hq=>emp q H1 hq ?_};rcases D1.rs.named n with⟨h1,h2⟩ |⟨fs,l,f',ds,i1,_⟩
  .exact h1
  have:=D1.dr.no n hni;rw[i1]at this;simp at this
 refine{_,g,?_};simp![oy];have hrow:=D1.dr.rw n lf qh;refine{_,.inl (aB.of hrow),?_};simp![];rcases D1.rs.named n with⟨h1,h2⟩ |⟨fs,l,f',ds,i1,i2,i3,xs,i4,i5,m',i6,i7⟩
 .rw[h2,ao (by simp)];simp![];exact{dE _,fun q hq=>emp q H1 hq h1}
 rw[i1]at hrow;rw[i1,az (by simp)];simp![];refine{lf,_,_,_,rfl,rfl,aB.of hrow,vd _ _,?_};exact k H1 l f' ds xs s1 {D1.sm _ _ i2,i4,i5,fun _=>{(i2),m',i6,i7}}
inductive Xs(t:aE)(vs:List V)(H:Hp)(Q:VK)(E:XK):Prop|mk:∀dA a dx v0 v1 tA v3 v4 dy nm sd,∀(u x v:aa),vs=[.ref dA,.ref a]->H dA=some (.am t.fE dx (fj v0 v1 (.ref tA) v3 v4))->H tA=some (.ag (vb (u++x++v)))->H a=some (.am t.gu dy (fk nm (.int (u.length:Int)) (.int ((u.length+x.length:Nat):Int)) sd))->uZ H Q (vb x)->Xs t vs H Q E
theorem akC(T:Txt K mg t):aQ P w K mg base 1 t.Fc BZ (Xs t):=by exists T.abt,alT;obtain⟨dA,a,dx,v0,v1,tA,v3,v4,dy,nm,sd,u,x,v,rfl,eo,et,ea,k⟩:=h;refine{_,au (aM (CK C5 (pf 0) (ur (pf 1)) (ur (pf 1)))),?_};simp![eo,ea];refine{_,aB.of et,fun p hp=>k p _ hp (aw.new hp) ?_};rw[ay];have:=abm (u++x++v) u.length (u.length+x.length);rw[this];congr 2;rw[show u.length+x.length-u.length=x.length by lia,fY,List.drop_left,ao2]
def ly(R:List (List aG))(n:aa):aa:=match named R n with|m::_=>iP m|[]=>[]
inductive Xr(t:aE)(vs:List V)(H:Hp)(Q:VK)(E:XK):Prop|mk:∀N T M rA dA fd ks es as R n,vs=[.ref rA,S n]->gX t N H T M rA dA fd ks es as R->nD t N dA T M->es.length<50000->uZ H Q (vb (ly R n))->Xr t vs H Q E
theorem akB(T:Txt K mg t):aQ P w K mg base 2 t.Gp Kf (Xr t):=by exists T.acp,VU;obtain⟨N,Tx,M,rA,dA,fd,ks,es,as,R,n,rfl,D,⟨dd,pg,tA,v3,v4,ed,et,Hw,_⟩,fq,k⟩:=h;obtain⟨dr,eo⟩:=D.ob;refine{_,ak (b9 (i:=2) VU.nd rfl (bx rfl) (bY (pv 0) T.oh.cl T.IV (JE T) hr (aq (pv 1) aA))) (au (aM (mV (cg gp (cN dH T.cK (pv 2)) bV (bD _)) (bY (pf 0) T.qk.cl T.ahD (akC T) hr (aq (dY eN (pv 2) bV (fun _ _=>rfl)) aA)) (fc aA)))),?_};simp![eo];refine{N,Tx,M,rA,dA,fd,ks,es,as,R,n,rfl,D,fq,fun H1 l f ds xs s1 I=>?_};simp![];refine{_,.inl (aB.of I.ls),?_};simp![];unfold ly at k;rw[I.nm]at k;have hlen:=I.kd.bu;cases xs with|nil=>have:ds=[]:=jN.mp hlen;subst this;rw[ao (by simp)];simp![];exact{dE _,fun q hq=>k q _ (gM s1 hq) (s1.trans (aw.new hq)) ay}|cons x xs=>cases ds with|nil=>simp at hlen|cons c ds=>rw[az (by simp)];obtain⟨h1,h2,h3⟩:=I.kd;cases f with|zero=>exact h2.elim|succ f=>obtain⟨hb,u,v,hT,dx,nm,sd,ea,_⟩:=h2;simp![s1 _ _ eo,s1 _ _ (D.sm _ _ ed)];have hL:=I.ls;refine{l,_,_,_,rfl,rfl,aB.of hL,(show iV _ ((0:Nat):Int)=_ from lO rfl),?_};simp![];refine{dA,c.2,dd,_,_,tA,v3,v4,dx,_,_,u,iP x.2,v,rfl,s1 _ _ (D.sm _ _ ed),by rw[←hT];exact s1 _ _ (D.sm _ _ et),s1 _ _ (D.sm _ _ ea),fun q H2 hq s2 e2=>?_};exact k q H2 (gM s1 hq) (s1.trans s2) e2
def jB(R:List (List aG)):GP->aa|.lit _ b=>b|.hole n=>ly R n
theorem aef(R:List (List aG))(gs:List GP):filled R (flat gs)=gs.flatMap (jB R):=by
 induction gs with
 |nil=>rfl|cons g l ih=>
  have e:flat (g::l)=g.flat++flat l:=rfl;have e2:filled R (g.flat++flat l)=filled R g.flat++filled R (flat l):=by simp[filled]
  rw[e,e2,ih,kD];clear e e2;congr 1;cases g with
  |lit a b=>show(b.map Piece.lit).flatMap _=b;rw[List.flatMap_map];induction b with|nil=>rfl|cons c b ihb=>rw[kD,ihb];rfl
  |hole n=>show([Piece.hole n]).flatMap _=ly R n;rw[kD,uJ,ei];unfold ly;dsimp only;cases named R n<;>rfl
noncomputable def dP(tx:List (aa×U))(g:GP):Bool:=fG g ||tx.any fun x=>ft x.1 g
theorem X8{gs:List GP}{uw:GP->Bool}{out:GP->aa}(h:∀g∈gs,uw g=false->out g=[]):∀n,n<=gs.length->(ci uw (gs.take n)).flatMap (fun i=>(gs[i]?).elim [] out)=(gs.take n).flatMap out
 |0,_=>by simp[ci]|n+1,hn=>by
  have hg:gs[n]?=some gs[n]:=gU (by lia);have ih:=X8 h n (by lia);have hl:(gs.take n).length=n:=by rw[nc];lia
  rw[jO,hg];show(ci uw (gs.take n++[gs[n]])).flatMap _=_;rw[oa,zR,zR,ih,hl];congr 1;cases hs:uw gs[n]with|true=>simp[hg]|false=>simp[h _ (xh (by lia)) hs]
theorem amG{gs:List GP}{uw:GP->Bool}{out:GP->aa}(h:∀g∈gs,uw g=false->out g=[]):(ci uw gs).flatMap (fun i=>(gs[i]?).elim [] out)=gs.flatMap out:=by have:=X8 h gs.length (bR _);rwa[kJ]at this
theorem ag7{gs:List GP}{p q:GP->Bool}(h:∀g∈gs,¬(p g=true/\q g=true)):(ci p gs++ci q gs).Perm (ci (fun g=>p g ||q g) gs):=by
 have pm:=List.filter_append_perm (fun i=>(gs[i]?).elim false p) (ci (fun g=>p g ||q g) gs);have e1:(ci (fun g=>p g ||q g) gs).filter (fun i=>(gs[i]?).elim false p)=ci p gs:=by unfold ci;rw[aoP];congr 1;funext i;cases gs[i]? with|none=>rfl|some g=>simp only[iR];cases p g<;>simp
 have e2:(ci (fun g=>p g ||q g) gs).filter (fun i=>!((gs[i]?).elim false p))=ci q gs:=by unfold ci;rw[aoP];apply YE;intro i hi;have bX:i<gs.length:=DJ.mp hi;rw[gU bX];simp only[iR];have:=h gs[i] (xh bX);cases hp:p gs[i]<;>cases hq:q gs[i]<;>simp_all
 rwa[e1,e2]at pm
theorem amE(tx:List (aa×U))(x:aa×U)(g:GP):dP (tx++[x]) g=(dP tx g ||ft x.1 g):=by unfold dP;rw[Mw];simp[aop]
theorem amF{tx:List (aa×U)}{x:aa×U}{pl:List Nat}(nd:(tx.map (·.1)).Nodup)(hx:tx[i]?=some x)(hp:pl.Perm (ci (dP (tx.take i)) gs)):(pl++ci (ft x.1) gs).Perm (ci (dP (tx.take (i+1))) gs):=by
 have e:tx.take (i+1)=tx.take i++[x]:=by rw[jO,hx];rfl
 have e2:(fun g=>dP (tx.take i) g ||ft x.1 g)=dP (tx.take (i+1)):=by rw[e];funext g;rw[amE]
 rw[←e2];refine(hp.append_right _).trans (ag7 fun g hg z=>?_);obtain⟨z1,z2⟩:=z;cases g with
 |lit a b=>cases z2|hole n=>
  have hn:n=x.1:=by simpa[ft]using z2
  have h1:(tx.take i).any (fun y=>ft y.1 (.hole n))=true:=by simpa[dP,fG]using z1
  obtain⟨y,hy,q⟩:=sy.mp h1;have:n=y.1:=by simpa[ft]using q
  exact Jn nd hx (by rw[←hn,this];exact bt.mpr {(y),hy,rfl})
theorem ag8(p:GP->Bool)(gs:List GP):(ci p gs).Pairwise (· <·):=ap7 _ List.pairwise_lt_range
theorem amP{pl q:List Nat}{ns':List Int}(h1:ns'.Perm (pl.map fun(n:Nat)=>(n:Int)))(h2:ns'.Pairwise (· <=·))(hp:pl.Perm q)(hq:q.Pairwise (· <·)):ns'=q.map fun(n:Nat)=>(n:Int):=by refine List.Perm.eq_of_pairwise (le:=fun a b:Int=>a<=b) (fun a b _ _ x y=>Int.le_antisymm x y) h2 ?_ (h1.trans (hp.map _));rw[YU];exact hq.imp fun{a b} h=>by lia
theorem xP{kl:List (aa×U)}(h:H d=some (.dK (kl.map fun x=>(bf x.1,V.ref x.2))))(n:aa):∃o,kR H d (S n) o/\o.isSome=decide (n∈kl.map (·.1)):=by
 refine{_,.inl {_,bf n,.inl h,rfl,rfl},?_};rw[m7];rcases mK (hs:=kl) (n:=n)with⟨l,h1,h2⟩ |⟨h1,h2⟩
 .rw[h1];exact(gG (bt.mpr {_,h2,rfl})).symm
 rw[h1];exact(dM h2).symm
theorem To(T:Txt K mg t){x y:Option V}{ka kb:List (aa×U)}(ha:H a=some (.dK (ka.map fun x=>(bf x.1,V.ref x.2))))(hb:H b=some (.dK (kb.map fun x=>(bf x.1,V.ref x.2))))(nab:a≠b)(hla:ka.length<100000)
  (k:∀(H':Hp) (p:U),aw H H'->H' p=some (.ag (((ka.map (·.1)).filter fun n=>decide (n∈kb.map (·.1))).map S))->Q (.ref p) H'):
  XV (zu (QC (dz 2)) (rC 4) (tB (lx (dz 4) (dz 3))) (dz 4) [4]) [x,y,some (V.ref a),some (V.ref b),none] H Q:=by
 refine{a,_,ha,trivial,fun od=>?_};generalize gO:_L.ae H a (.br od (.dK (ka.map fun x=>(bf x.1,V.ref x.2))))=Hl;have xS:Hl a=some (.br od (.dK (ka.map fun x=>(bf x.1,V.ref x.2)))):=by rw[←gO,ay]
 have ebl:Hl b=some (.dK (kb.map fun x=>(bf x.1,V.ref x.2))):=by rwa[←gO,aj nab.symm]
 have hlen:(ka.map fun x=>(bf x.1,V.ref x.2)).length=ka.length:=by simp
 refine{_,rfl,a,od,rfl,.inl {_,xS,fun D hD=>Q7 (n:=ka.length) (val:=fun i x=>∃n l,ka[i]?=some (n,l)/\x=S n)
  (fun i H'=>aw Hl H'/\H' D=some (.ag ((((ka.take i).map (·.1)).filter fun n=>decide (n∈kb.map (·.1))).map S)))
  {aw.new hD,by rw[ay];rfl} (fun i H' hi hp=>{hp.1 _ _ xS,by rw[hlen];exact hi}) (fun H' hp=>{hp.1 _ _ xS,by rw[hlen];exact bR _}) (fun i H' x oI hi _ hy=>?_) ?_ ?_}}
 .obtain⟨e1,kk,vv,e2,rfl⟩:=hy;refine{e1.symm,?_};rw[dQ]at e2;cases hx:ka[i]? with
  |none=>rw[hx]at e2;cases e2|some y=>
   rw[hx]at e2;injection e2 with e2;injection e2 with e2 e3
   exact{y.1,y.2,rfl,by rw[←e2];rfl}
 .rintro i x H1 hi ⟨n,l,hg,rfl⟩ ⟨s1,h1⟩;have htk:(ka.take (i+1)).map (·.1)=(ka.take i).map (·.1)++[n]:=by rw[jO,hg,dJ];rfl
  obtain⟨o,ho1,ho2⟩:=xP (s1 _ _ ebl) n;simp![cu,lx];refine{_,ho1,?_};rw[ho2];have hl1:((((ka.take i).map (·.1)).filter fun n=>decide (n∈kb.map (·.1))).map S).length<cp:=by rw[bL];refine YY (xi _ _) ?_;rw[bL,nc];exact cx (by lia)
  by_cases hm:n∈kb.map (·.1)
  .rw[az (gG hm)];refine{_,h1,hl1,fun b o e=>by rw[aj (aC e hD)];exact s1 b o e,?_};rw[ay,htk,Mx,dJ,YG (by simpa using hm)];rfl
  rw[ao (by rw[dM hm];decide)];refine{s1,?_};rwa[htk,Mx,YF (by simpa using hm),List.filter_nil,ei]
 rintro H1 ⟨s1,h1⟩;rw[kJ]at h1;refine{s1 _ _ xS,k _ D (fun b o e=>?_) ?_}
 .by_cases vL:b=a
  .rw[vL,ha]at e;rwa[vL,ay]
  rw[aj vL];exact s1 b o (by rwa[←gO,aj vL])
 rwa[aj (aC xS hD).symm]
inductive Xf(vs:List V)(H:Hp)(Q:VK)(E:XK):Prop|mk:∀d1 d2,∀(k1 k2:List (aa×U)),vs=[.ref d1,.ref d2]->H d1=some (.dK (k1.map fun x=>(bf x.1,V.ref x.2)))->H d2=some (.dK (k2.map fun x=>(bf x.1,V.ref x.2)))->d1≠d2->(k1.map (·.1)).Nodup->(k2.map (·.1)).Nodup->k1.length<100000->k2.length<100000->(∀(H':Hp) (p:U) (ns:List aa),aw H H'->H' p=some (.ag (ns.map S))->ns.Nodup->ns.length<100000->(∀n,n∈ns↔n∈k1.map (·.1)/\n∈k2.map (·.1))->Q (.ref p) H')->Xf vs H Q E
theorem aks(T:Txt K mg t):aQ P w K mg base 1 t.Hc KE Xf:=by
 exists T.ado,zn;obtain⟨d1,d2,k1,k2,rfl,e1,e2,hne,nd1,nd2,hl1,iK,k⟩:=h;refine{_,ak (b9 (i:=2) zn.nd rfl (bx rfl) (mV (cg pz (cN qU T.cK (pv 0)) (cN qU T.cK (pv 1)) (bD _)) (pv 0) (pv 1)))
  (ak (b9 (i:=3) zn.nd rfl (Or.inr rfl) (mV (cg pz (cN qU T.cK (pv 0)) (cN qU T.cK (pv 1)) (bD _)) (pv 1) (pv 0)))
  (au (aM (SX (qx (own:=[("name",4)]) (te:=dz 4) rfl zn.nd (CL (pv 2)) (oO (by rfl)) (fun _ _ _ _ _=>gq (i:=4) zn.nd rfl (bx rfl)) (fun _ _ _ _ _=>alj (ot (SG (k5 hr) (pv 4) (pv 3)))) (fun _ _ _ _ _=>pv 4)))))),?_}
 simp![e1,e2];refine{_,rfl,?_};simp![];refine{_,e2,?_};simp![];have mem:∀(ka kb:List (aa×U)) (n:aa),n∈((ka.map (·.1)).filter fun n=>decide (n∈kb.map (·.1)))↔n∈ka.map (·.1)/\n∈kb.map (·.1):=fun ka kb n=>by rw[uK];simp?[qL]
 have bu:∀(ka kb:List (aa×U)),ka.length<100000->((ka.map (·.1)).filter fun n=>decide (n∈kb.map (·.1))).length<100000:=fun ka kb h=>by refine YY (xi _ _) ?_;rw[bL];lia
 split
 .rename_i hle;simp![e1,e2];refine{_,rfl,?_};simp![];refine{_,e2,?_};simp![];rw[az hle];simp![];exact To T e1 e2 hne hl1 fun H' p s1 hp=>k H' p _ s1 hp (nd1.filter _) (bu k1 k2 hl1) (mem k1 k2)
 rename_i hle;simp![e1,e2];refine{_,rfl,?_};simp![];refine{_,e2,?_};simp![];rw[ao hle];simp![];exact To T e2 e1 hne.symm iK fun H' p s1 hp=>k H' p _ s1 hp (nd2.filter _) (bu k2 k1 iK) fun n=>(mem k2 k1 n).trans And.comm
def ZQ(t:aE)(H:Hp)(R:List (List aG))(gs:List GP)(Q:VK):Prop:=∀(H':Hp) (d:U) (tx:List (aa×U)),H d=none->aw H H'->H' d=some (.dK (tx.map fun x=>(bf x.1,V.ref x.2)))->(tx.map (·.1)).Nodup->(∀x∈tx,H' x.2=some (.ag (vb (ly R x.1)))/\GP.hole x.1∈gs)->(∀n,GP.hole n∈gs->ly R n≠[]->n∈tx.map (·.1))->Q (.ref d) H'
inductive Xt(t:aE)(vs:List V)(H:Hp)(Q:VK)(E:XK):Prop|mk:∀N T M rA dA fd ks es as R w pA fA hA gs hs,vs=[.ref w,.ref rA]->gX t N H T M rA dA fd ks es as R->nD t N dA T M->es.length<50000->eX t N w pA fA hA gs hs->ZQ t H R gs Q->Xt t vs H Q E
theorem akD(T:Txt K mg t):aQ P w K mg base 3 t.GD Kk (Xt t):=by
 exists T.acD,C0;obtain⟨N,Tx,M,rA,dA,fd,ks,es,as,R,wA,pA,fA,hA,gs,hs,rfl,D,da,fq,W,k⟩:=h;obtain⟨dr,eo⟩:=D.ob;obtain⟨dw,ew⟩:=W.ob;have rh:=D.sm _ _ ew;have eh':=D.sm _ _ W.ho;have bG:=hr.mono (show 1<=2 by decide);refine{_,ak (b9 (i:=2) C0.nd rfl (bx rfl) wy)
  (ak (mY PassesOwn.never rfl (l8 (dh (aks T) T.ae9 bG (aq (pf 0) (aq (pf 1) aA)))) (gq (i:=3) C0.nd rfl (bx rfl))
   (ak (b9 (i:=4) C0.nd rfl (bx rfl) (bY (pv 1) T.oh.cl T.ah5 (akB T) hr (aq (pv 3) aA)))
   (au (bA (cg gp (cN dH T.cK (pv 4)) bV (bD _)) (au (Th (k5 hr) (pv 2) (pv 3) (pv 4) rfl)) bH))))
  (au (aM (pv 2)))),?_}
 simp![bC];intro d hd;have s0:aw H (_L.ae H d (.dK [])):=aw.new hd;have e0:_L.ae H d (.dK []) d=some (.dK []):=ay;generalize _L.ae H d (.dK [])=H0 at s0 e0⊢;have hks:=D.kl;have kY:=W.le;have hhc:=W.hc;simp![bC];refine{_,rfl,wA,_,_,_,_,rfl,s0 _ _ rh,T.k7.cl,T.Nz,aeq ..,_,rfl,rA,_,_,_,_,rfl,s0 _ _ eo,T.oh.cl,T.Ny,aep ..,hA,fd,hs,ks,rfl,s0 _ _ eh',s0 _ _ D.dr.dk,(D.ap _ _ W.ho).2.1,W.nn,D.dr.nd,by lia,by lia,fun H1 p ns s1 hp nd hl hm=>{p,rfl,{_,aB.of hp},tJ (K:=K) (xs:=ns.map S)
  (fun i σ H'=>(∃v3 v4,σ=[some (V.ref wA),some (V.ref rA),some (V.ref d),v3,v4])/\aw H H'/\H' p=some (.ag (ns.map S))/\∃tx:List (aa×U),H' d=some (.dK (tx.map fun x=>(bf x.1,V.ref x.2)))/\(tx.map (·.1)).Nodup/\tx.length<=i/\(∀x∈tx,H' x.2=some (.ag (vb (ly R x.1)))/\x.1∈ns.take i)/\(∀n∈ns.take i,ly R n≠[]->n∈tx.map (·.1)))
  {{(none),none,rfl},s0.trans s1,hp,[],s1 _ _ e0,uL,bR _,fun x m=>(by cases m),fun n m=>(by cases m)} (fun i σ H' _ hp'=>aB.of hp'.2.2.1) ?_ ?_}}
 .rintro i v σ H2 hi ⟨⟨v3,v4,rfl⟩,s2,vS,tx,t1,t2,t3,t4,t5⟩;have hil:i<ns.length:=by have:=(fB.mp hi).1;simpa using this
  rw[dQ]at hi;cases hn:ns[i]? with
  |none=>rw[hn]at hi;cases hi|some n=>
   rw[hn]at hi;injection hi with hi
   subst hi;have htk:ns.take (i+1)=ns.take i++[n]:=by rw[jO,hn];rfl
   have HR:n ∉ ns.take i:=fun z=>by
    obtain⟨j,hj⟩:=YM z;rw[aoU]at hj;split at hj
    .rename_i bX;have:=(aoT (by have:=(fB.mp hj).1;exact this) nd).mp (hj.trans hn.symm);lia
    cases hj
   simp![s2 _ _ eo];refine{N,Tx,M,rA,dA,fd,ks,es,as,R,n,rfl,D.same s2,da,fq,fun q H3 hq s3 e3=>?_};have TD:=s2.trans s3;simp![];refine{_,.inl (aB.of e3),?_};simp![];rw[eD];by_cases ht:ly R n=[]
   .rw[ao (by rw[ht];simp)];refine{{_,_,rfl},TD,s3 _ _ vS,tx,s3 _ _ t1,t2,by lia,fun x m=>?_,fun m yr hz=>?_}
    .obtain⟨q1,q2⟩:=t4 x m;exact{s3 _ _ q1,by rw[htk];exact nh _ q2}
    rw[htk]at yr;rcases cz.mp yr with z |z
    .exact t5 m z hz
    have:m=n:=by simpa using z
    subst this;exact aJ ht hz
   rw[az (by have:(ly R n).length≠0:=fun z=>ht (jN.mp z);lia)];have hni:n ∉ tx.map (·.1):=fun z=>by obtain⟨x,hx,q⟩:=bt.mp z;exact HR (q▸(t4 x hx).2)
   have XJ:=s3 _ _ t1;have tS:iM (tx.map fun x=>(bf x.1,V.ref x.2)) (bf n) (V.ref q)=tx.map (fun x=>(bf x.1,V.ref x.2))++[(bf n,V.ref q)]:=CM _ (by
    rw[m7];rcases mK (hs:=tx) (n:=n)with⟨l,h1,h2⟩ |⟨h1,h2⟩
    .exact aJ (bt.mpr {_,h2,rfl}) hni
    rw[h1];rfl)
   have BP:p≠d:=cr vS t1 (by intro z;cases z);have nqd:q≠d:=cr e3 XJ (by intro z;cases z);simp![K2];refine{_,.inl {_,bf n,XJ,rfl,by rw[bL];exact cx (by lia),rfl},{_,rfl},fun b o hb=>by rw[aj (aC hb hd)];exact TD b o hb,by rw[aj BP];exact s3 _ _ vS,tx++[(n,q)],?_,?_,by simp;lia,fun x m=>?_,fun m yr hz=>?_}
   .rw[ay,tS,dJ];rfl
   .rw[dJ,jj];refine{t2,by simp,fun a ha b hb=>?_};have:b=n:=by simpa using hb
    subst this;exact fun z=>hni (z▸ha)
   .rw[htk];rcases cz.mp m with m |m
    .obtain⟨q1,q2⟩:=t4 x m;have nx:x.2≠d:=cr q1 t1 (by intro z;cases z);exact{by rw[aj nx];exact s3 _ _ q1,nh _ q2}
    have:x=(n,q):=by simpa using m
    subst this;exact{by rw[aj nqd];exact e3,by simp}
   rw[htk]at yr;rw[dJ];rcases cz.mp yr with z |z
   .exact nh _ (t5 m z hz)
   have:m=n:=by simpa using z
   subst this;simp
 rintro σ H2 ⟨⟨v3,v4,rfl⟩,s2,vS,tx,t1,t2,t3,t4,t5⟩;rw[bL,kJ]at t4 t5;simp![];refine k H2 d tx hd s2 t1 t2 (fun x m=>{(t4 x m).1,(W.hn x.1).mp ((hm x.1).mp (t4 x m).2).1}) fun n hg hz=>t5 n ((hm n).mpr {(W.hn n).mpr hg,DB fun z=>?_}) hz;have hno:=D.dr.no n z;rcases D.rs.named n with⟨h1,h2⟩ |⟨fs,l,f',ds,i1,_⟩
 .exact hz (by unfold ly;rw[h1])
 rw[i1]at hno;simp at hno
theorem anc{as:List U}{R:List (List aG)}(h:pT t N T es as R)(hT:T.length<=20000)(n:aa):(ly R n).length<=20000:=by
 unfold ly;rcases h.named n with⟨h1,_⟩ |⟨fs,l,f,ds,i1,i2,i3,xs,i4,i5,_⟩
 .rw[h1];simp
 rw[i5];cases xs with|nil=>simp|cons x xs=>cases ds with|nil=>exact i4.elim|cons c ds=>obtain⟨_,h2,_⟩:=i4;cases f with|zero=>exact h2.elim|succ f=>obtain⟨_,u,v,hT2,_⟩:=h2;have:=eU kE hT2;simp?[cw]at this;show(iP x.2).length<=20000;lia
theorem aew{α:Type}(q:List Nat)(F:Nat->List α)(i:Nat):(q.take i).flatMap F++(q.drop i).flatMap F=q.flatMap F:=by rw[←zR,zV]
inductive WG(t:aE)(vs:List V)(H:Hp)(Q:VK)(E:XK):Prop|mk:∀N T M rA dA fd ks es as R w ps,vs=[.ref w,.ref rA]->gX t N H T M rA dA fd ks es as R->nD t N dA T M->es.length<50000->qR t N w ps->(∀(H':Hp) (p:U) (r:aa),H p=none->aw H H'->H' p=some (.ag (vb r))->sM (filled R ps) r->(∃z,filled R ps=r++z)->r.length<=40000->Q (.ref p) H')->WG t vs H Q E
theorem Si(T:Txt K mg t):aQ P w K mg base 4 t.GA Kj (WG t):=by
 exists T.acA,uv;obtain⟨N,Tx,M,rA,dA,fd,ks,es,as,R,wA,ps,rfl,D,da,fq,⟨pA,fA,hA,gs,hs,W,ip,kY⟩,k⟩:=h;obtain⟨dr,eo⟩:=D.ob;obtain⟨dw,ew⟩:=W.ob;have rh:=D.sm _ _ ew;have hle:=W.le;have Hw:Tx.length<=20000:=by obtain⟨_,_,_,_,_,_,_,q,_⟩:=da;exact q
 have htx:=anc D.rs Hw;refine{_,ak (b9 (i:=2) uv.nd rfl (bx rfl) (bY (pv 0) T.k7.cl T.aia (akD T) hr (aq (pv 1) aA)))
  (ak (b9 (i:=3) uv.nd rfl (bx rfl) (SU aba (by rfl) T.NP NY (aq (pf 0) aA)))
  (ak (KQ (mY PassesOwn.never rfl (CL (pv 2)) (gq (i:=4) uv.nd rfl (bx rfl)) (au (cj (fb ej uQ uR rS (pv 3) (aq (wx (k5 hr) (pf 0) (pv 4) (fun _ _=>rfl)) aA))))))
  (ak (b9 (i:=5) uv.nd rfl (bx rfl) (fc aA))
  (ak (mY PassesOwn.never rfl (l8 (mU abi (by rfl) T.aaV aa7 (aq (pv 3) aA))) (gq (i:=6) uv.nd rfl (bx rfl))
   (ak (b9 (i:=7) uv.nd rfl (bx rfl) (dY eN (pf 0) (pv 6) (fun _ _=>rfl)))
   (ak (cj (fb ej uQ uR rS (pv 5) (aq (mV (bW (mU NZ (by rfl) T.NO NX (aq (pv 7) (aq (SS (v:=.ty "str") (by rfl) T.aaW aa8 rfl) aA)))) (wx (k5 hr) (pv 2) (pv 7) (fun _ _=>rfl)) (pv 7)) aA)))
   (au (bA (cg gp (cN dH T.cK (pv 5)) (bS T.Iv) (bD _)) (au alg) bH)))))
  (au (aM (pv 5))))))),?_}
 simp![rh];refine{N,Tx,M,rA,dA,fd,ks,es,as,R,wA,pA,fA,hA,gs,hs,rfl,D,da,fq,W,fun H1 d tx hd s1 e1 nd1 htx1 ago=>?_};simp![s1 _ _ rh];refine{_,.inl (aB.of (s1 _ _ (D.sm _ _ W.fx))),fun l hl=>?_};have s2:aw H1 (_L.ae H1 l (.ag (vi (ci fG gs)))):=aw.new hl;have e2:_L.ae H1 l (.ag (vi (ci fG gs))) l=some (.ag (vi (ci fG gs))):=ay;generalize _L.ae H1 l (.ag (vi (ci fG gs)))=H2 at s2 e2⊢;have s02:aw H H2:=s1.trans s2;have sN2:aw N H2:=fun b o hb=>s02 b o (D.sm b o hb);have nN:∀{b:U} {o:HO},N b=some o->b≠l/\b≠d:=fun{b o} hb=>{aC (s1 _ _ (D.sm _ _ hb)) hl,aC (D.sm _ _ hb) hd};have OD:=s2 _ _ e1;have pw:d≠l:=aC e1 hl;simp![s1 _ _ rh];refine{d,_,OD,trivial,fun od=>?_};generalize gO:_L.ae H2 d (.br od (.dK (tx.map fun x=>(bf x.1,V.ref x.2))))=Hl;have oR:Hl d=some (.br od (.dK (tx.map fun x=>(bf x.1,V.ref x.2)))):=by rw[←gO,ay]
 have bl:ah (· =d) H2 Hl:=by rw[←gO];exact ah.here
 have hlen:(tx.map fun x=>(bf x.1,V.ref x.2)).length=tx.length:=by simp
 have amC:ci (dP (tx.take 0)) gs=ci fG gs:=by
  have:dP (tx.take 0)=fG:=by funext g;simp[dP]
  rw[this]
 refine{_,rfl,d,od,rfl,.inl {_,oR,Hh (n:=tx.length) (val:=fun i x=>∃n l,tx[i]?=some (n,l)/\x=S n)
  (fun i σ H'=>(∃v4,σ=[some (V.ref wA),some (V.ref rA),some (V.ref d),some (V.ref l),v4,none,none,none])/\ah (· =l) Hl H'/\∃pl:List Nat,H' l=some (.ag (vi pl))/\pl.Perm (ci (dP (tx.take i)) gs))
  {{(none),rfl},ah.refl _,ci fG gs,bl _ _ pw.symm e2,by rw[amC]} (fun i σ H' hi hp=>{hp.2.1 _ _ pw oR,by rw[hlen];exact hi}) (fun σ H' hp=>{hp.2.1 _ _ pw oR,by rw[hlen];exact bR _}) (fun i σ H' x oI hi _ hy=>?_) ?_ ?_}}
 .obtain⟨q1,kk,vv,q2,rfl⟩:=hy;refine{q1.symm,?_};rw[dQ]at q2;cases hx:tx[i]? with
  |none=>rw[hx]at q2;cases q2|some y=>
   rw[hx]at q2;injection q2 with q2;injection q2 with q2 q3
   exact{y.1,y.2,rfl,by rw[←q2];rfl}
 .rintro i x σ H3 hi ⟨n,lt,hg,rfl⟩ ⟨⟨v4,rfl⟩,b3,pl,e3,hpl⟩;have keep:∀{b:U} {o:HO},N b=some o->H3 b=some o:=fun{b o} hb=>b3 _ _ (nN hb).1 (bl _ _ (nN hb).2 (sN2 _ _ hb));have hho:=(W.hn n).mpr (htx1 (n,lt) (fh hg)).2;obtain⟨⟨n',lh⟩,P6,q⟩:=bt.mp hho;have q:n'=n:=q;subst q;have hrow:=W.hl (n',lh) P6;have hpn:=hpl.length_eq;have hix:=BF (dP (tx.take i)) gs;have apS:=BF (ft n') gs;simp![wR,keep ew];refine{.inl {rfl,_,aB.of e3},_,vo (.inl (keep W.ho)) W.nn P6,l,lh,_,_,rfl,rfl,e3,keep hrow,?_,{_,rfl},b3.trans ah.here,pl++ci (ft n') gs,?_,amF nd1 hg hpl}
  .simp?[vi,bL];exact gi (cx (by lia))
  rw[ay];simp[vi]
 rintro σ H3 ⟨⟨v4,rfl⟩,b3,pl,e3,hpl⟩;rw[kJ]at hpl;refine{b3 _ _ pw oR,?_};have b23:ah (· =l) H2 (_L.ae H3 d (.dK (tx.map fun x=>(bf x.1,V.ref x.2)))):=fun b o nb hb=>by
  by_cases Bd:b=d
  .rw[Bd,OD]at hb;rwa[Bd,ay]
  rw[aj Bd];exact b3 b o nb (bl b o Bd hb)
 have e4:_L.ae H3 d (.dK (tx.map fun x=>(bf x.1,V.ref x.2))) l=some (.ag (vi pl)):=by rwa[aj pw.symm]
 generalize _L.ae H3 d (.dK (tx.map fun x=>(bf x.1,V.ref x.2)))=H4 at b23 e4⊢;have s14:aw H1 H4:=fun b o hb=>b23 b o (aC hb hl) (s2 b o hb);have s04:aw H H4:=s1.trans s14;simp![dE];intro p hp;have s45:aw H4 (_L.ae H4 p (.ag [])):=aw.new hp;have e5:_L.ae H4 p (.ag []) p=some (.ag []):=ay;generalize _L.ae H4 p (.ag [])=H5 at s45 e5⊢;simp![dE];refine{_,rfl,l,pl.map fun(n:Nat)=>(n:Int),rfl,?_,fun ns' so agc agm Qt=>?_}
 .have:vi pl=(pl.map fun(n:Nat)=>(n:Int)).map V.int:=by simp[vi]
  rw[←this];exact aB.of (s45 _ _ e4)
 have hq:=amP agc agm hpl (ag8 (dP tx) gs);subst hq;have K1:aw H5 (_L.ae H5 so (.ag (((ci (dP tx) gs).map fun(n:Nat)=>(n:Int)).map V.int))):=aw.new Qt;have E3:_L.ae H5 so (.ag (((ci (dP tx) gs).map fun(n:Nat)=>(n:Int)).map V.int)) so=some (.ag (((ci (dP tx) gs).map fun(n:Nat)=>(n:Int)).map V.int)):=ay;generalize _L.ae H5 so (.ag (((ci (dP tx) gs).map fun(n:Nat)=>(n:Int)).map V.int))=H6 at K1 E3⊢;have s46:aw H4 H6:=s45.trans K1;have e6:=K1 _ _ e5;have nps:so≠p:=aC e5 Qt |>.symm
 have amD:∀g∈gs,dP tx g=false->jB R g=[]:=fun g hg hz=>by cases g with|lit a b=>cases hz|hole n=>refine DB fun q=>?_;have hn:=ago n hg q;obtain⟨x,hx,q2⟩:=bt.mp hn;have:tx.any (fun x=>ft x.1 (.hole n))=true:=sy.mpr {x,hx,by simp[ft,q2]};have hz:(fG (.hole n) ||tx.any (fun x=>ft x.1 (.hole n)))=false:=hz;rw[this,Mp]at hz;cases hz
 have jy:(ci (dP tx) gs).flatMap (fun i=>(gs[i]?).elim [] (jB R))=filled R ps:=by rw[amG amD,←ip,aef]
 have fin:∀(H':Hp) (r:aa),ah (· =p) H6 H'->H' p=some (.ag (vb r))->sM (filled R ps) r->(∃z,filled R ps=r++z)->r.length<=40000->Q (.ref p) H':=fun H' r b e c hz hr=>by refine k H' p r (gM s04 hp) (fun x o hx=>b x o (aC (s04 x o hx) hp) (s46 x o (s04 x o hx))) e c hz hr
 refine{so,rfl,{_,aB.of E3},tJ (K:=K) (xs:=((ci (dP tx) gs).map fun(n:Nat)=>(n:Int)).map V.int)
  (fun i σ H'=>(∃v6 v7,σ=[some (V.ref wA),some (V.ref rA),some (V.ref d),some (V.ref l),v4,some (V.ref p),v6,v7])/\ah (· =p) H6 H'/\H' p=some (.ag (vb (((ci (dP tx) gs).take i).flatMap fun i=>(gs[i]?).elim [] (jB R))))/\(((ci (dP tx) gs).take i).flatMap fun i=>(gs[i]?).elim [] (jB R)).length<=16384)
  {{(none),none,rfl},ah.refl _,by rw[MA];exact e6,by simp} (fun i σ H' _ hp'=>aB.of (hp'.2.1 _ _ nps E3)) ?_ ?_}
 .rintro i v σ H7 hi ⟨⟨v6,v7,rfl⟩,b7,e7,h7⟩;rw[ic]at hi;cases hj:(ci (dP tx) gs)[i]? with
  |none=>rw[dQ,hj]at hi;cases hi|some j=>
   rw[dQ,hj]at hi;injection hi with hi
   subst hi;have hjm:=fh hj;have HJ:j<gs.length/\(gs[j]?).elim false (dP tx)=true:=by have:=uK.mp hjm;exact{DJ.mp this.1,this.2}
   have Bl:gs[j]?=some gs[j]:=gU HJ.1;have Qs:dP tx gs[j]=true:=by have:=HJ.2;rwa[Bl]at this
   have Bm:gs[j]∈gs:=xh HJ.1;have keep:∀{b:U} {o:HO},H1 b=some o->H7 b=some o:=fun{b o} hb=>b7 _ _ (aC (s14 _ _ hb) hp) (s46 _ _ (s14 _ _ hb));have keepN:∀{b:U} {o:HO},N b=some o->H7 b=some o:=fun{b o} hb=>keep (s1 _ _ (D.sm _ _ hb));have htk:((ci (dP tx) gs).take (i+1)).flatMap (fun i=>(gs[i]?).elim [] (jB R))=((ci (dP tx) gs).take i).flatMap (fun i=>(gs[i]?).elim [] (jB R))++jB R gs[j]:=by rw[jO,hj,zR];simp[Bl]
   have HG:=aew (ci (dP tx) gs) (fun i=>(gs[i]?).elim [] (jB R)) (i+1);rw[jy]at HG;have afS:=eU kE HG;rw[cw]at afS;simp![keepN ew];refine{pA,_,_,_,rfl,rfl,aB.of (keepN W.pc),lO (by rw[dQ,Bl];rfl),?_};generalize gs[j]=g at Bl Qs Bm htk;simp![keepN ew];have hb:(jB R g).length<=20000:=by cases g with|lit a b=>exact W.bl a b Bm|hole n=>exact htx n
   have rest:N_ [some (V.ref wA),some (V.ref rA),some (V.ref d),some (V.ref l),v4,some (V.ref p),some (V.int (j:Int)),some g.v] (_L.ae H7 p (.ag (vb (((ci (dP tx) gs).take (i+1)).flatMap fun i=>(gs[i]?).elim [] (jB R))))):=by
    simp![];refine{_,.inl (aB.of ay),?_};simp![];rw[eD];have b8:ah (· =p) H6 (_L.ae H7 p (.ag (vb (((ci (dP tx) gs).take (i+1)).flatMap fun i=>(gs[i]?).elim [] (jB R))))):=b7.trans ah.here;have iK:=eU kE htk;rw[cw]at iK;by_cases Be:16384<(((ci (dP tx) gs).take (i+1)).flatMap fun i=>(gs[i]?).elim [] (jB R)).length
    .rw[az (by lia)];simp![];exact fin _ _ b8 ay (.inr {by lia,Be}) {_,HG.symm} (by lia)
    rw[ao (by lia)];exact{{_,_,rfl},b8,ay,by lia}
   have yF:∀(src:U),H7 src=some (.ag (vb (jB R g)))->(jB R g).length<=20000->∀F:VK,(∀x,F x (_L.ae H7 p (.ag (vb (((ci (dP tx) gs).take (i+1)).flatMap fun i=>(gs[i]?).elim [] (jB R))))))->Tj (V.ref p) [V.ref src] H7 F:=fun src agn hb F hF=>by refine{p,src,_,_,rfl,rfl,e7,agn,by rw[eD,eD];exact gi (cx (by lia)),?_};rw[←zC,←htk];exact hF _
   refine{.inl {rfl,_,aB.of e7},_,rfl,?_};cases g with
   |lit a b=>have yi:=W.lt a b Bm;refine{_,iU.ag (keepN yi),false,ahm K,?_};simp![];exact yF a (keepN yi) (W.bl a b Bm) _ fun _=>rest|hole n=>
    refine{_,iU.str _,true,aho K,?_};simp![];have h1:tx.any (fun x=>ft x.1 (.hole n))=true:=by simpa[dP,fG]using Qs
    obtain⟨⟨n',lt⟩,hx,q⟩:=sy.mp h1;have q:n=n':=by simpa[ft]using q
    subst q;refine{_,rfl,_,rfl,d,_,rfl,vo (.inl (keep e1)) nd1 hx,?_};exact yF lt (keep (htx1 _ hx).1) (htx n) _ fun _=>rest
 rintro σ H7 ⟨⟨v6,v7,rfl⟩,b7,e7,h7⟩;rw[bL,bL,kJ]at e7 h7;rw[jy]at e7 h7;simp![];exact fin H7 _ b7 e7 (.inl rfl) {[],by simp} (by lia)
structure fi(t:aE)(H:Hp)(o rw:U)(f:FS):Prop where
 ob:∃dx,H o=some (.am t.c_OneForm dx (fV (.ref rw) (.int (f.marks:Int)) (.int f.depth) (.bl f.behind) (.bl f.gP)))
 rw:H rw=some (.ag (vb f.row))
theorem fi.ne{o:U}{f:FS}(h:fi t H o rw f):o≠rw:=by obtain⟨dx,e⟩:=h.ob;exact cr e h.rw (by intro z;cases z)
theorem fi.aP{o:U}{f:FS}{A:U->Prop}(h:fi t H o rw f)(b:ah A H H')(n1:¬ A o)(n2:¬ A rw):fi t H' o rw f:=by obtain⟨dx,e⟩:=h.ob;exact{{dx,b _ _ n1 e},b _ _ n2 h.rw}
noncomputable def cZ(f:FS)(x:aa):FS:={f with row:=f.row++x}
theorem fi.more{o:U}{f:FS}(h:fi t H o rw f)(x:aa):fi t (_L.ae H rw (.ag (vb f.row++vb x))) o rw (cZ f x):=by obtain⟨dx,e⟩:=h.ob;exact{{dx,by rw[aj h.ne];exact e},by rw[ay,←zC];rfl}
theorem fi.put{o:U}{f:FS}(h:fi t H o rw f){m:Nat}{d:Int}{b c:Bool}:fi t (_L.ae H o (.am t.c_OneForm dx (fV (.ref rw) (.int (m:Int)) (.int d) (.bl b) (.bl c)))) o rw {(f.row),m,d,b,c}:={{(dx),ay},by rw[aj h.ne.symm];exact h.rw}
noncomputable def xW(c:Nat):aa:=if c=60 then [38,108,116,59]else if c=62 then [38,103,116,59]else if c=38 then [38,97,109,112,59]else if c=34 then [38,113,117,111,116,59]else [c]
theorem adM(b:aa):cP b=b.flatMap xW:=rfl
theorem adF(c:Nat):(fg nS (dL (c:Int))=none/\xW c=[c])∨∃w,fg nS (dL (c:Int))=some (S w)/\xW c=w/\w.length<=6:=by
 by_cases h1:c=60
 .subst h1;exact .inr {_,rfl,rfl,by decide}
 by_cases h2:c=62
 .subst h2;exact .inr {_,rfl,rfl,by decide}
 by_cases h3:c=38
 .subst h3;exact .inr {_,rfl,rfl,by decide}
 by_cases h4:c=34
 .subst h4;exact .inr {_,rfl,rfl,by decide}
 refine .inl {?_,by unfold xW;rw[ao h1,ao h2,ao h3,ao h4]};cases hv:fg nS (dL (c:Int))with
 |none=>rfl|some v=>
  exfalso;have h5:∀k'∈nS.map (·.1),k'≠(dL (c:Int):Key):=by intro k' m z;subst z;simp[nS]at m;lia
  exact h5 _ (anC hv) rfl
def FQ(t:aE)(H:Hp)(o rw:U)(Q:VK)(f:FS):Prop:=∀H',ah (fun b=>b=o∨b=rw) H H'->fi t H' o rw f->bI H H'->Q .aN H'
inductive WE(t:aE)(vs:List V)(H:Hp)(Q:VK)(E:XK):Prop|mk:∀o dx,vs=[.ref o]->H o=some (.am t.c_OneForm dx [])->(∀H' rw,ah (· =o) H H'->H rw=none->fi t H' o rw yc->Q .aN H')->WE t vs H Q E
theorem ajD(T:Txt K mg t):aQ P w K mg base 1 t.FJ Cg (WE t):=by exists T.abX,ama;obtain⟨o,dx,rfl,e,k⟩:=h;refine{_,ak (bT (pv 0) (fc aA) rfl) (ak (bT (pv 0) bV rfl) (ak (bT (pv 0) bV rfl) (ak (bT (pv 0) dX rfl) (au (bT (pv 0) dX rfl))))),?_};simp![e,dE];intro p hp;have n1:o≠p:=aC e hp;simp![aj n1,e,ay,gT,aek,eT];refine k _ p ((ah.new hp).trans ah.here) hp {{(dx),ay},by rw[aj n1.symm,ay];rfl}
inductive Wn(t:aE)(vs:List V)(H:Hp)(Q:VK)(E:XK):Prop|mk:∀o rw f,vs=[.ref o]->fi t H o rw f->FQ t H o rw Q (lR f)->Wn t vs H Q E
theorem Se(T:Txt K mg t):aQ P w K mg base 1 t.FH Ce (Wn t):=by
 exists T.abV,al8;obtain⟨o,rw,f,rfl,F,k⟩:=h;obtain⟨dx,e⟩:=F.ob;refine{_,au (bA (iN (cg gp (pf 0) (bS T.QJ) (bD _)) (iN (cg gp (pf 0) (bS T.Ip) (bD _)) (jE (cg gp (cN dH T.cK (pf 0)) (bS T.Iv) (bD _))))).pt (au (bT (pv 0) dX rfl)) bH),?_};simp![e];have kz:(2048<f.marks∨32<f.depth∨16384<f.row.length)->Q .aN (_L.ae H o (.am t.c_OneForm dx (fV (.ref rw) (.int (f.marks:Int)) (.int f.depth) (.bl f.behind) (.bl true)))):=fun h=>by refine k _ (ah.ae (.inl rfl)) ?_ ((bI.refl H).ae);unfold lR;rw[az h];exact F.put
 have no:¬(2048<f.marks∨32<f.depth∨16384<f.row.length)->Q .aN H:=fun h=>by refine k _ (ah.refl H) ?_ (bI.refl H);unfold lR;rw[ao h];exact F
 by_cases h1:2048<f.marks
 .rw[az (by lia)];simp![e];exact kz (.inl h1)
 rw[ao (by lia)];simp![e];by_cases h2:32<f.depth
 .rw[az (by lia)];simp![e];exact kz (.inr (.inl h2))
 rw[ao (by lia)];simp![e];refine{_,.inl (aB.of F.rw),?_};simp![e];rw[eD];by_cases h3:16384<f.row.length
 .rw[az (by lia)];simp![e];exact kz (.inr (.inr h3))
 rw[ao (by lia)];simp![];exact no (by lia)
inductive Wq(t:aE)(vs:List V)(H:Hp)(Q:VK)(E:XK):Prop|mk:∀o rw f,vs=[.ref o]->fi t H o rw f->FQ t H o rw Q (lR {f with marks:=f.marks+1})->Wq t vs H Q E
theorem Jz(T:Txt K mg t):aQ P w K mg base 2 t.FI Cf (Wq t):=by
 exists T.abW,al9;obtain⟨o,rw,f,rfl,F,k⟩:=h;obtain⟨dx,e⟩:=F.ob;refine{_,ak (l9 (pv 0) bV mR) (au (cj (cE (pv 0) T.mS.cl T.Rq (Se T) hr))),?_};simp![e,ay];have F1:=F.put (dx:=dx) (m:=f.marks+1) (d:=f.depth) (b:=f.behind) (c:=f.gP);rw[show((f.marks:Int)+1)=((f.marks+1:Nat):Int) by lia];exact{o,rw,_,rfl,F1,fun H' b F' D'=>k H' ((ah.ae (.inl rfl)).trans b) F' (fun x hx=>by
  have:=D' x hx;by_cases z:x=o
  .rw[z,ay]at this;cases this
  rwa[aj z]at this)}
inductive WD(t:aE)(vs:List V)(H:Hp)(Q:VK)(E:XK):Prop|mk:∀o rw f xa x,vs=[.ref o,.ref xa]->fi t H o rw f->H xa=some (.ag (vb x))->xa≠rw->f.row.length+6*x.length<4000000->FQ t H o rw Q (cZ f (cP x))->WD t vs H Q E
theorem Sx(T:Txt K mg t):aQ P w K mg base 2 t.FK JY (WD t):=by
 exists T.abY,VH;obtain⟨o,rw,f,xa,x,rfl,F,hx,hne,hl,k⟩:=h;obtain⟨dx,e⟩:=F.ob;obtain⟨ob,es,ep,kd⟩:=T.OA;have kd:KD K t.Hq ob es ep nS:=kd;have hxo:xa≠o:=cr hx e (by intro z;cases z);refine{_,au (mY PassesOwn.never rfl (l8 (pv 1)) (gq (i:=2) VH.nd rfl (bx rfl))
  (au (bA (ot (akT kd (pv 2) (l7 T.CQ))) (au (cj (fb ej uQ uR rS (pf 0) (aq (dh (ui T) T.tM hr (aq (SW kd (l7 T.CQ) (pv 2) (fun _ _=>rfl)) aA)) aA))))
   (au (cj (fb ej iE iF h9 (pf 0) (aq (pv 2) aA))))))),?_}
 refine{_,rfl,xa,rfl,{_,aB.of hx},tJ (K:=K) (xs:=vb x) (fun i σ H'=>(∃v2,σ=[some (V.ref o),some (V.ref xa),v2])/\ah (fun b=>b=o∨b=rw) H H'/\fi t H' o rw (cZ f (cP (x.take i)))/\bI H H') {{(none),rfl},ah.refl _,by rw[MA];unfold cZ;simp?[cP,uJ,ei];exact F,bI.refl _} (fun i σ H' _ hp=>aB.of (hp.2.1 _ _ (fun z=>by rcases z with z |z;exact hxo z;exact hne z) hx)) ?_ ?_}
 .rintro i v σ H1 hi ⟨⟨v2,rfl⟩,b1,F1,D1⟩;rw[Yo]at hi;cases hc:x[i]? with
  |none=>rw[hc]at hi;cases hi|some c=>
   rw[hc]at hi;injection hi with hi
   subst hi;obtain⟨jW,e1⟩:=F1.ob;have bX:i<x.length:=(fB.mp hc).1;have PV:cP (x.take (i+1))=cP (x.take i)++xW c:=by rw[jO,hc,AU];congr 1;simp[adM]
   have hl6:=AV (x.take i);rw[nc]at hl6;have hJ:(cZ f (cP (x.take i))).row.length<=f.row.length+6*i:=by show(f.row++cP (x.take i)).length<=_;rw[cw];lia
   simp![XU];refine{dL (c:Int),rfl,?_};rcases adF c with⟨q1,q2⟩ |⟨w0,q1,q2,q3⟩
   .rw[q1];simp?[Y0,eE,cT];simp![e1];refine{.inl {rfl,_,aB.of F1.rw},rw,_,_,rfl,rfl,F1.rw,by rw[eD];exact cx (by lia),{_,rfl},b1.trans (ah.ae (.inr rfl)),?_,D1.ae};have:=F1.more [c];have e2:cZ (cZ f (cP (x.take i))) [c]=cZ f (cP (x.take (i+1))):=by unfold cZ;rw[PV,q2,fY]
    rwa[e2]at this
   rw[q1];simp?[DL,du];simp![e1,Dk];refine{.inl {rfl,_,aB.of F1.rw},dL (c:Int),rfl,S w0,q1,w0,rfl,by lia,fun p H2 hp s2 e2=>?_};have F2:fi t H2 o rw (cZ f (cP (x.take i))):=F1.aP (A:=fun _=>False) (aw.aP s2) (fun z=>z) (fun z=>z);refine{rw,p,_,_,rfl,rfl,F2.rw,e2,by rw[eD,eD];exact gi (cx (by lia)),{_,rfl},(b1.trans (aw.aP s2)).trans (ah.ae (.inr rfl)),?_,?_}
   .have:=F2.more w0;have e3:cZ (cZ f (cP (x.take i))) w0=cZ f (cP (x.take (i+1))):=by unfold cZ;rw[PV,q2,fY]
    rwa[e3]at this
   exact(D1.same s2).ae
 rintro σ H1 ⟨⟨v2,rfl⟩,b1,F1,D1⟩;rw[eD,kJ]at F1;exact k H1 b1 F1 D1
theorem EO(h:H a=some u)(D:bI (_L.ae H a o) H'):bI H H':=fun x hx=>by
 have:=D x hx;by_cases z:x=a
 .rw[z,ay]at this;cases this
 rwa[aj z]at this
inductive Wb(t:aE)(vs:List V)(H:Hp)(Q:VK)(E:XK):Prop|mk:∀o rw f xa x,vs=[.ref o,.ref xa]->fi t H o rw f->H xa=some (.ag (vb x))->xa≠rw->f.row.length+6*x.length<4000000->FQ t H o rw Q (vz f x)->Wb t vs H Q E
theorem ajP(T:Txt K mg t):aQ P w K mg base 3 t.FG Cd (Wb t):=by
 exists T.abU,al7;obtain⟨o,rw,f,xa,x,rfl,F,hx,hne,hl,k⟩:=h;obtain⟨dx,e⟩:=F.ob;have bG:=hr.mono (show 1<=2 by decide);refine{_,ak (bA (cg cV (cN dH T.cK (pv 1)) bV (bD _)) (au wD) bH)
  (ak (cj (bY (pv 0) T.mS.cl T.Rr (Sx T) hr (aq (pv 1) aA)))
  (au (bA (bW (pf 0)) (au (cj (cE (pv 0) T.mS.cl T.Rq (Se T) bG)))
   (ak (bT (pv 0) dX rfl) (au (cj (cE (pv 0) T.mS.cl T.IS (Jz T) hr))))))),?_}
 simp![bC];refine{_,.inl (aB.of hx),?_};rw[eD];unfold vz at k;by_cases h0:x=[]
 .rw[az h0]at k;simp![bC];rw[az (by rw[h0];rfl)];exact k H (ah.refl H) F (bI.refl H)
 rw[ao h0]at k;simp![bC];rw[ao (by have:x.length≠0:=fun z=>h0 (jN.mp z);lia)];simp![e];refine{o,rw,f,xa,x,rfl,F,hx,hne,hl,fun H1 b1 F1 D1=>?_};obtain⟨jW,e1⟩:=F1.ob;simp![e1];have hbh:(cZ f (cP x)).behind=f.behind:=rfl;rw[hbh];cases hb:f.behind with|true=>rw[az hb]at k;simp![e1];exact{o,rw,_,rfl,F1,fun H2 b2 F2 D2=>k H2 (b1.trans b2) F2 (fun x hx=>D1 x (D2 x hx))}|false=>rw[ao (by rw[hb];decide)]at k;simp![e1];have F2:=F1.put (dx:=jW) (m:=f.marks) (d:=f.depth) (b:=true) (c:=f.gP);obtain⟨nP,e2⟩:=F2.ob;simp![ay];refine{o,rw,_,rfl,F2,fun H3 b3 F3 D3=>k H3 ((b1.trans (ah.ae (.inl rfl))).trans b3) F3 (fun x hx=>D1 x (EO e1 D3 x hx))}
inductive V9(t:aE)(vs:List V)(H:Hp)(Q:VK)(E:XK):Prop|mk:∀o rw f n,vs=[.ref o,S n]->fi t H o rw f->f.row.length<4000000->n.length<1000->FQ t H o rw Q (E5 f n)->V9 t vs H Q E
theorem ajM(T:Txt K mg t):aQ P w K mg base 3 t.FE Cc (V9 t):=by
 exists T.abS,al6;obtain⟨o,rw,f,n,rfl,F,hl,hn,k⟩:=h;obtain⟨dx,e⟩:=F.ob;have bG:=hr.mono (show 1<=2 by decide);refine{_,ak (cj (fb ej uQ uR rS (pf 0) (aq (dh (ui T) T.tM bG (aq (iL y3 (iL y3 cM (pv 1)) cM) aA)) aA))) (ak (l9 (pv 0) bV agO) (ak (bT (pv 0) dX rfl) (au (cj (cE (pv 0) T.mS.cl T.IS (Jz T) hr))))),?_};simp![e];have es:Str.ofString "</"++(⟨n.toArray⟩:ac)++Str.ofString ">"=⟨([60,47]++n++[62]).toArray⟩:=by rw[show Str.ofString "</"=(⟨([60,47]:List Nat).toArray⟩:ac)from rfl,show Str.ofString ">"=(⟨([62]:List Nat).toArray⟩:ac)from rfl,sk,sk]
 have mI:Str.ofString "</"++(⟨n.toArray⟩:ac)=⟨([60,47]++n).toArray⟩:=by rw[show Str.ofString "</"=(⟨([60,47]:List Nat).toArray⟩:ac)from rfl,sk]
 refine{.inl {rfl,_,aB.of F.rw},⟨n.toArray⟩,rfl,?_,?_,[60,47]++n++[62],by rw[es];rfl,by simp;lia,fun p H1 hp s1 e1=>?_}
 .rw[pD];exact gi (cx (by show 2+n.length<_;lia))
 .rw[mI,pD];exact gi (cx (by show([60,47]++n).length+1<_;simp;lia))
 have F1:fi t H1 o rw f:=F.aP (A:=fun _=>False) (aw.aP s1) (fun z=>z) (fun z=>z);refine{rw,p,_,_,rfl,rfl,F1.rw,e1,by rw[eD,eD];exact gi (cx (by simp;lia)),?_};have F2:=F1.more ([60,47]++n++[62]);have b2:ah (fun b=>b=o∨b=rw) H (_L.ae H1 rw (.ag (vb f.row++vb ([60,47]++n++[62])))):=(aw.aP s1).trans (ah.ae (.inr rfl));have D2:bI H (_L.ae H1 rw (.ag (vb f.row++vb ([60,47]++n++[62])))):=((bI.refl H).same s1).ae;generalize _L.ae H1 rw (.ag (vb f.row++vb ([60,47]++n++[62])))=H2 at F2 b2 D2⊢;obtain⟨nP,e2⟩:=F2.ob;simp![e2,ay,gT];have F3:=F2.put (dx:=nP) (m:=f.marks) (d:=f.depth-1) (b:=false) (c:=f.gP);refine{o,rw,_,rfl,F3,fun H3 b3 ZB D3=>k H3 ((b2.trans (ah.ae (.inl rfl))).trans b3) ?_ (fun x hx=>D2 x (EO e2 D3 x hx))};have:(cZ f ([60,47]++n++[62])).row=f.row++[60,47]++n++[62]:=by simp[cZ]
 unfold E5;rw[←this];exact ZB
inductive Wh(vs:List V)(H:Hp)(Q:VK)(E:XK):Prop|mk:∀R row b,vs=[.ref R,S b]->H R=some (.ag (vb row))->b.length<1000->(∀H',aw H H'->Q (.bl (front b row).isSome) H')->Wh vs H Q E
theorem Jx(T:Txt K mg t):aQ P w K mg base 2 t.GH CB Wh:=by
 exists T.acH,amt;obtain⟨R,row,b,rfl,hR,hb,k⟩:=h;refine{_,au (aM (fw (Sz hr.units) (CK C5 (pv 0) alc (ur (cN AB T.cK (pv 1)))) (dh (ui T) T.tM hr (aq (pv 1) aA)) (bD _))),?_};simp![bC];refine{⟨b.toArray⟩,rfl,gi (cx (by show b.toArray.size<_;simp;lia)),?_};simp![];refine{_,aB.of hR,fun p hp=>?_};simp![];refine{b,rfl,by lia,fun q H' hq s1 h1=>?_};simp![];have hp':H' p=some (.ag (vb (row.take b.length))):=by refine s1 _ _ ?_;rw[ay];have:=abl row b.length;congr 2
 refine{p,q,_,_,rfl,rfl,aB.of hp',aB.of h1,?_};rw[←rq];exact k H' ((aw.new hp).trans s1)
theorem Hy(b:aa):harmless b=((front [104,116,116,112,115,58,47,47] b).isSome ||((front [47] b).isSome&&!(front [47,47] b).isSome)):=by
 unfold harmless;have e:lD "https://"=[104,116,116,112,115,58,47,47]:=rfl;rw[e];congr 1;cases b with
 |nil=>rfl|cons c r=>
  by_cases hc:c=47
  .subst hc;cases r with
   |nil=>rfl|cons d r=>
    by_cases hd:d=47
    .subst hd;simp[front]
    simp[front,hd]
  rw[i9 hc];show _=false;split
  .rename_i h;injection h with h;exact aJ h hc
  .rename_i h;injection h with h;exact aJ h hc
  rfl
inductive WQ(vs:List V)(H:Hp)(Q:VK)(E:XK):Prop|mk:∀R row,vs=[.ref R]->H R=some (.ag (vb row))->(∀H',aw H H'->Q (.bl (harmless row)) H')->WQ vs H Q E
theorem aj9(T:Txt K mg t):aQ P w K mg base 3 t.GV CF WQ:=by exists T.ac3,amw;obtain⟨R,row,rfl,hR,k⟩:=h;rw[Hy]at k;refine{_,ak (bA (bW (dh (Jx T) T.Hr hr (aq (pv 0) (aq cM aA)))) (au (aM dX)) bH) (au (aM (wu (dh (Jx T) T.Hr hr (aq (pv 0) (aq cM aA))) (oq (ak2 (dh (Jx T) T.Hr hr (aq (pv 0) (aq cM aA)))))))),?_};simp![bC];refine{R,row,[104,116,116,112,115,58,47,47],rfl,hR,by decide,fun H1 s1=>{_,rfl,?_}};cases h1:(front [104,116,116,112,115,58,47,47] row).isSome with|true=>rw[h1,aos]at k;simp![bC];exact k H1 s1|false=>rw[h1,xb]at k;simp![bC];refine{R,row,[47],rfl,s1 _ _ hR,by decide,fun H2 s2=>{_,rfl,?_}};cases h2:(front [47] row).isSome with|false=>rw[h2,zH]at k;simp![bC];exact k H2 (s1.trans s2)|true=>rw[h2,uE]at k;simp![bC];refine{R,row,[47,47],rfl,s2 _ _ (s1 _ _ hR),by decide,fun H3 s3=>{_,rfl,?_}};exact k H3 ((s1.trans s2).trans s3)
inductive WP(t:aE)(vs:List V)(H:Hp)(Q:VK)(E:XK):Prop|mk:∀a dx l,vs=[.ref a,.ref l]->H a=some (.am t.mD dx [])->(∀H',ah (· =a) H H'->H' a=some (.am t.mD dx (jY (.ref l) (.int 0)))->bI H H'->Q .aN H')->WP t vs H Q E
theorem ajF(T:Txt K mg t):aQ P w K mg base 1 t.Fx B9 (WP t):=by exists T.abM,al3;obtain⟨a,dx,l,rfl,e,k⟩:=h;refine{_,ak (bT (pv 0) (pv 1) rfl) (au (bT (pv 0) bV rfl)),?_};simp![e,ay,gT,aei,eT];exact k _ ah.here ay (bI.refl H).ae
inductive W8(t:aE)(vs:List V)(H:Hp)(Q:VK)(E:XK):Prop|mk:∀a dx l,∀(i:Int),vs=[.ref a,.ref l,.int i]->H a=some (.am t.tf dx [])->(∀H',ah (· =a) H H'->H' a=some (.am t.tf dx (vG (.ref l) (.int i)))->bI H H'->Q .aN H')->W8 t vs H Q E
theorem ajI(T:Txt K mg t):aQ P w K mg base 1 t.Gi Cp (W8 t):=by exists T.ack,ami;obtain⟨a,dx,l,i,rfl,e,k⟩:=h;refine{_,ak (bT (pv 0) (pv 1) rfl) (au (bT (pv 0) (pv 2) rfl)),?_};simp![e,ay,gT,aem,eT];exact k _ ah.here ay (bI.refl H).ae
inductive Wt(t:aE)(vs:List V)(H:Hp)(Q:VK)(E:XK):Prop|mk:∀a dx l v,∀(xs:List V),∀(q:Nat),vs=[.ref a]->H a=some (.am t.mD dx (jY (.ref l) (.int (q:Int))))->H l=some (.ag xs)->(xs[q]?=some v)->Q v H->Wt t vs H Q E
theorem Sf(T:Txt K mg t):aQ P w K mg base 1 t.Fw B8 (Wt t):=by exists T.abL,al2;obtain⟨a,dx,l,v,xs,q,rfl,e,hl,hv,k⟩:=h;refine{_,au (aM (dY eN (pf 0) (pf 0) (fun _ _=>rfl))),?_};simp![e];exact{l,_,_,_,rfl,rfl,aB.of hl,lO hv,k}
def fD(H:Hp)(rw:U):List U->List (aa×aa)->Prop
 |[],[]=>True|ta::l,x::xs=>(∃va,H ta=some (.cH [S x.1,.ref va])/\H va=some (.ag (vb x.2))/\va≠rw/\x.1.length<1000/\x.2.length<=50000)/\fD H rw l xs
 |_,_=>False
theorem fD.bu:∀{l:List U} {m:List (aa×aa)},fD H rw l m->l.length=m.length
 |[],[],_=>rfl|_::_,_::_,h=>by rw[bJ,bJ,h.2.bu]
 |[],_::_,h=>h.elim|_::_,[],h=>h.elim
theorem fD.gN:∀{l:List U} {m:List (aa×aa)} {i:Nat} {a:U} {x:aa×aa},fD H rw l m->l[i]?=some a->m[i]?=some x->∃va,H a=some (.cH [S x.1,.ref va])/\H va=some (.ag (vb x.2))/\va≠rw/\x.1.length<1000/\x.2.length<=50000
 |a::l,x::m,0,_,_,h,e1,e2=>by injection e1 with e1;injection e2 with e2;subst e1 e2;exact h.1
 |a::l,x::m,i+1,_,_,h,e1,e2=>fD.gN h.2 e1 e2|[],[],i,_,_,_,e1,_=>by cases e1
 |[],_::_,_,_,_,h,_,_=>h.elim|_::_,[],_,_,_,h,_,_=>h.elim
theorem fD.Yt:∀{l:List U} {m:List (aa×aa)},fD H rw l m->∀i,(wA (m.take i)).length<=302000*m.length
 |[],[],_,i=>by simp[wA]|a::l,x::m,h,0=>by simp[wA]
 |a::l,x::m,h,i+1=>by
  obtain⟨⟨va,_,_,_,h1,h2⟩,h3⟩:=h;have ih:=h3.Yt i;have e:wA ((x::m).take (i+1))=([32]++x.1++[61,34]++cP x.2++[34])++wA (m.take i):=by simp[wA]
  have l6:=AV x.2;rw[e,cw,bJ];have:([32]++x.1++[61,34]++cP x.2++[34]).length<=302000:=by simp?[cw,bJ,ox];lia
  lia
 |[],_::_,h,_=>h.elim|_::_,[],h,_=>h.elim
inductive Wa(t:aE)(vs:List V)(H:Hp)(Q:VK)(E:XK):Prop|mk:∀o rw f n aL tas as,vs=[.ref o,S n,.ref aL]->fi t H o rw f->H aL=some (.ag (tas.map V.ref))->aL≠rw->fD H rw tas as->as.length<=8->f.row.length<=20000->n.length<1000->FQ t H o rw Q (E6 f n as)->Wa t vs H Q E
theorem ajO(T:Txt K mg t):aQ P w K mg base 3 t.FF JX (Wa t):=by
 exists T.abT,La;obtain⟨o,rw,f,n,aL,tas,as,rfl,F,hL,nL,hA,hal,hJ,hn,k⟩:=h;obtain⟨dx,e⟩:=F.ob;have bG:=hr.mono (show 1<=2 by decide);refine{_,ak (cj (fb ej uQ uR rS (pf 0) (aq (dh (ui T) T.tM bG (aq (iL y3 cM (pv 1)) aA)) aA)))
  (ak (mY PassesOwn.never rfl (l8 (pv 2)) (ak4 rfl (S5 (gq (i:=3) La.nd rfl (bx rfl)) (S5 (gq (i:=4) La.nd rfl (bx rfl)) ak5)))
   (ak (cj (fb ej uQ uR rS (pf 0) (aq (dh (ui T) T.tM bG (aq (iL y3 (iL y3 cM (pv 3)) cM) aA)) aA)))
   (ak (cj (bY (pv 0) T.mS.cl T.Rr (Sx T) hr (aq (pv 4) aA)))
   (au (cj (fb ej iE iF h9 (pf 0) (aq (bS T.QK) aA)))))))
  (ak (cj (fb ej iE iF h9 (pf 0) (aq (bS T.agx) aA)))
  (ak (l9 (pv 0) bV mR) (ak (bT (pv 0) dX rfl) (au (cj (cE (pv 0) T.mS.cl T.IS (Jz T) hr))))))),?_}
 simp![e];have mI:Str.ofString "<"++(⟨n.toArray⟩:ac)=⟨([60]++n).toArray⟩:=by rw[show Str.ofString "<"=(⟨([60]:List Nat).toArray⟩:ac)from rfl,sk]
 refine{.inl {rfl,_,aB.of F.rw},⟨n.toArray⟩,rfl,?_,[60]++n,by rw[mI];rfl,by simp;lia,fun p H1 hp s1 e1=>?_}
 .rw[pD];exact gi (cx (by show 1+n.length<_;lia))
 have F1:fi t H1 o rw f:=F.aP (A:=fun _=>False) (aw.aP s1) (fun z=>z) (fun z=>z);refine{rw,p,_,_,rfl,rfl,F1.rw,e1,by rw[eD,eD];exact gi (cx (by simp;lia)),?_};have F2:=F1.more ([60]++n);have b2:ah (fun b=>b=o∨b=rw) H (_L.ae H1 rw (.ag (vb f.row++vb ([60]++n)))):=(aw.aP s1).trans (ah.ae (.inr rfl));have D2:bI H (_L.ae H1 rw (.ag (vb f.row++vb ([60]++n)))):=((bI.refl H).same s1).ae;generalize _L.ae H1 rw (.ag (vb f.row++vb ([60]++n)))=H2 at F2 b2 D2⊢;have RL:aL≠o:=cr hL e (by intro z;cases z);have hwl:=hA.Yt;have P9:=hA.bu;simp![e];refine{_,rfl,aL,rfl,{_,aB.of (b2 _ _ (fun z=>by rcases z with z |z;exact RL z;exact nL z) hL)},tJ (K:=K) (xs:=tas.map V.ref) (fun i σ H'=>(∃v3 v4,σ=[some (V.ref o),some (S n),some (V.ref aL),v3,v4])/\ah (fun b=>b=o∨b=rw) H H'/\fi t H' o rw (cZ f ([60]++n++wA (as.take i)))/\bI H H')
  {{(none),none,rfl},b2,by rw[MA,show wA []=[]from rfl,ei];exact F2,D2} (fun i σ H' _ hp'=>aB.of (hp'.2.1 _ _ (fun z=>by rcases z with z |z;exact RL z;exact nL z) hL)) ?_ ?_}
 .rintro i v σ H3 hi ⟨⟨v3,v4,rfl⟩,b3,F3,D3⟩;rw[dQ]at hi;cases tT:tas[i]? with
  |none=>rw[tT]at hi;cases hi|some ta=>
   rw[tT]at hi;injection hi with hi
   subst hi;have bX:i<as.length:=by rw[←P9];exact(fB.mp tT).1
   have hx:as[i]?=some as[i]:=gU bX;obtain⟨va,et,ev,nv,hl1,iK⟩:=hA.gN tT hx;have Ig:=hwl i;have htk:wA (as.take (i+1))=wA (as.take i)++([32]++as[i].1++[61,34]++cP as[i].2++[34]):=by
    have:as.take (i+1)=as.take i++[as[i]]:=by rw[jO,hx];rfl
    rw[this];unfold wA;rw[zR,kD,uJ,ei]
   generalize as[i]=x at hx et ev hl1 iK htk;obtain⟨oQ,e3⟩:=F3.ob;have re:H3 ta=some (.cH [S x.1,.ref va]):=b3 _ _ (fun z=>by
    rcases z with z |z
    .exact cr et e (by intro q;cases q) z
    exact cr et F.rw (by intro q;cases q) z) et
   have R6:va≠o:=cr ev e (by intro z;cases z);have ev3:H3 va=some (.ag (vb x.2)):=b3 _ _ (fun z=>by
    rcases z with z |z
    .exact R6 z
    exact nv z) ev
   have dS:(cZ f ([60]++n++wA (as.take i))).row.length<=21000+302000*as.length+10:=by show(f.row++([60]++n++wA (as.take i))).length<=_;simp?[cw,bJ,ox];lia
   refine{ta,_,rfl,eW.of re,rfl,?_};simp![A6,A8,e3];have E2:Str.ofString " "++(⟨x.1.toArray⟩:ac)++Str.ofString "=\""=⟨([32]++x.1++[61,34]).toArray⟩:=by rw[show Str.ofString " "=(⟨([32]:List Nat).toArray⟩:ac)from rfl,show Str.ofString "=\""=(⟨([61,34]:List Nat).toArray⟩:ac)from rfl,sk,sk]
   have AT:Str.ofString " "++(⟨x.1.toArray⟩:ac)=⟨([32]++x.1).toArray⟩:=by rw[show Str.ofString " "=(⟨([32]:List Nat).toArray⟩:ac)from rfl,sk]
   refine{.inl {rfl,_,aB.of F3.rw},⟨x.1.toArray⟩,rfl,?_,?_,[32]++x.1++[61,34],by rw[E2];rfl,by simp;lia,fun q H4 hq s4 e4=>?_}
   .rw[pD];exact gi (cx (by show 1+x.1.length<_;lia))
   .rw[AT,pD];exact gi (cx (by show([32]++x.1).length+2<_;simp;lia))
   have F4:fi t H4 o rw (cZ f ([60]++n++wA (as.take i))):=F3.aP (A:=fun _=>False) (aw.aP s4) (fun z=>z) (fun z=>z);refine{rw,q,_,_,rfl,rfl,F4.rw,e4,by rw[eD,eD];exact gi (cx (by simp?[cw,bJ,ox];lia)),?_};have F5:=F4.more ([32]++x.1++[61,34]);have b5:ah (fun b=>b=o∨b=rw) H3 (_L.ae H4 rw (.ag (vb (cZ f ([60]++n++wA (as.take i))).row++vb ([32]++x.1++[61,34])))):=(aw.aP s4).trans (ah.ae (.inr rfl));have D5:bI H3 (_L.ae H4 rw (.ag (vb (cZ f ([60]++n++wA (as.take i))).row++vb ([32]++x.1++[61,34])))):=((bI.refl H3).same s4).ae;generalize _L.ae H4 rw (.ag (vb (cZ f ([60]++n++wA (as.take i))).row++vb ([32]++x.1++[61,34])))=H5 at F5 b5 D5⊢;obtain⟨dx5,e5⟩:=F5.ob;have nvm:¬(va=o∨va=rw):=fun z=>by
    rcases z with z |z
    .exact R6 z
    exact nv z
   have vV:(cZ (cZ f ([60]++n++wA (as.take i))) ([32]++x.1++[61,34])).row.length<=21000+302000*as.length+10+1010:=by show((cZ f ([60]++n++wA (as.take i))).row++([32]++x.1++[61,34])).length<=_;rw[cw];simp?[cw,bJ,ox]at dS⊢;lia
   simp![A6,A8,e5];refine{o,rw,_,va,x.2,rfl,F5,b5 _ _ nvm ev3,nv,by lia,fun H6 b6 F6 D6=>?_};obtain⟨dx6,e6⟩:=F6.ob;have l6:=AV x.2;simp![A6,A8,e6];refine{.inl {rfl,_,aB.of F6.rw},rw,_,_,rfl,rfl,F6.rw,?_,{_,_,rfl},((b3.trans b5).trans b6).trans (ah.ae (.inr rfl)),?_,?_}
   .rw[eD];show((cZ (cZ f ([60]++n++wA (as.take i))) ([32]++x.1++[61,34])).row++cP x.2).length<_;rw[cw];exact cx (by lia)
   .have F7:=F6.more [34];have:cZ (cZ (cZ (cZ f ([60]++n++wA (as.take i))) ([32]++x.1++[61,34])) (cP x.2)) [34]=cZ f (60::(n++wA (as.take (i+1)))):=by unfold cZ;rw[htk];simp
    rw[this]at F7;exact F7
   exact fun y hy=>D3 y (D5 y (D6 y (by
    by_cases z:y=rw
    .rw[z,ay]at hy;cases hy
    rwa[aj z]at hy)))
 rintro σ H3 ⟨⟨v3,v4,rfl⟩,b3,F3,D3⟩;rw[bL,P9,kJ]at F3;obtain⟨oQ,e3⟩:=F3.ob;simp![e3];have agj:=hwl as.length;rw[kJ]at agj;refine{.inl {rfl,_,aB.of F3.rw},rw,_,_,rfl,rfl,F3.rw,?_,?_}
 .rw[eD];show(f.row++([60]++n++wA as)).length<_;simp?[cw,bJ,ox];exact cx (by lia)
 have F4:=F3.more [62];have b4:ah (fun b=>b=o∨b=rw) H (_L.ae H3 rw (.ag (vb (cZ f ([60]++n++wA as)).row++vb [62]))):=b3.trans (ah.ae (.inr rfl));have D4:bI H (_L.ae H3 rw (.ag (vb (cZ f ([60]++n++wA as)).row++vb [62]))):=D3.ae;generalize rE:_L.ae H3 rw (.ag (vb (cZ f ([60]++n++wA as)).row++vb [62]))=H4 at F4 b4 D4;rw[show _L.ae H3 rw (.ag (vb (cZ f ([60]++n++wA as)).row++[V.int 62]))=H4 from rE];obtain⟨ET,e4⟩:=F4.ob;simp![e4,ay,gT];have F5:=F4.put (dx:=ET) (m:=f.marks) (d:=f.depth+1) (b:=false) (c:=f.gP);refine{o,rw,_,rfl,F5,fun H5 b5 ZC D5=>k H5 ((b4.trans (ah.ae (.inl rfl))).trans b5) ?_ (fun x hx=>D4 x (EO e4 D5 x hx))};have:(cZ (cZ f ([60]++n++wA as)) [62]).row=f.row++[60]++n++wA as++[62]:=by simp[cZ]
 unfold E6;show fi t H5 o rw (lR {f with row:=f.row++[60]++n++wA as++[62],depth:=f.depth+1,behind:=false,marks:=f.marks+1});rw[←this];exact ZC
section
def Aq(mp:MP):Prop:=(dI mp).length<=16/\∀x∈iW mp,x.1.length<=16
inductive nG(t:aE)(N:Hp)(pA:U)(P:PL):Prop|mk:((∀x∈P,pQ x.1/\Aq x.1/\(iW x.1).length<=8))->P.length<50000->∀(pa:List U),N pA=some (.ag (pa.map V.ref))->pa.length=P.length->(∀(i:Nat) a x,pa[i]?=some a->P[i]?=some x->fS t N N a x)->nG t N pA P
structure u7(t:aE)(N:Hp)(tD:U)(sh:Sh):Prop where
 ex:∃tps:List (aa×U),N tD=some (.dK (tps.map fun x=>(bf x.1,V.ref x.2)))/\(tps.map (·.1)).Nodup/\tps.map (·.1)=sh.map (·.1)/\
  ∀(i:Nat) x y,tps[i]?=some x->sh[i]?=some y->∃dx v1 v2 pA,N x.2=some (.am t.g9 dx (gl (.ref pA) v1 v2))/\nG t N pA y.2
structure Lp where
 la:U
 dx:U
 l:U
 ds:List (aa×U)
 xs:List (aa×List aG)
 fu:Nat
 q:Nat
noncomputable def Lp.dB(L:Lp):U:=((L.ds[L.q]?).map (·.2)).getD 0
def Lp.rR(L:Lp):List aG:=((L.xs[L.q]?).map (·.2)).getD []
structure Lp.Ok(L:Lp)(t:aE)(N H:Hp)(T:aa)(M:List aG):Prop where
 ob:H L.la=some (.am t.mD L.dx (jY (.ref L.l) (.int (L.q:Int))))
 ls:N L.l=some (.ag (L.ds.map fun x=>V.ref x.2))
 kd:eG (iS t N T L.fu) L.ds L.xs
 on:∀x∈L.xs,∀n∈aS x.2,n∈aS M
structure Rt where
 ra:U
 dx:U
 pA:U
 P:PL
 at_:Nat
structure Rt.Ok(r:Rt)(t:aE)(N H:Hp):Prop where
 ob:H r.ra=some (.am t.tf r.dx (vG (.ref r.pA) (.int (r.at_:Int))))
 pt:nG t N r.pA r.P
structure FX where
 dx:U
 tD:U
 rA:U
 oA:U
 pA:U
 lA:U
 dC:U
 rw:U
 dA:U
 fd:U
 P:PL
 at_:Nat
 st:Nat
 f:FS
 ks:List (aa×U)
 es:List (List (aa×U))
 as:List U
 R:List (List aG)
 bZ:List Lp
 eC:List Rt
 T:aa
 M:List aG
noncomputable def FX.mut(X:FX)(fA:U):List U:=fA::X.rA::X.oA::X.rw::X.lA::X.dC::X.fd::(X.ks.map (·.2)++X.bZ.map (·.la))
def FX.obj(X:FX)(t:aE):HO:=.am t.dj X.dx (c9 (.ref X.tD) (.ref X.rA) (.ref X.oA) (.ref X.pA) (.int (X.at_:Int)) (.int (X.st:Int)) (.ref X.lA) (.ref X.dC))
structure cC(t:aE)(N H:Hp)(fA:U)(X:FX)(sh:Sh):Prop where
 ob:H fA=some (X.obj t)
 ku:u7 t N X.tD sh
 iy:nG t N X.pA X.P
 rd:gX t N H X.T X.M X.rA X.dA X.fd X.ks X.es X.as X.R
 da:nD t N X.dA X.T X.M
 fm:fi t H X.oA X.rw X.f
 ll:H X.lA=some (.ag ((X.bZ.map fun L=>V.ref L.la).reverse))
 lo:∀L∈X.bZ,L.Ok t N H X.T X.M
 rl:H X.dC=some (.ag ((X.eC.map fun r=>V.ref r.ra).reverse))
 ro:∀r∈X.eC,r.Ok t N H
 rn:∀r∈X.eC,r.ra ∉ X.mut fA
 nd:(X.mut fA).Nodup
 fr:∀b∈X.mut fA,N b=none
structure uX(X:FX)(σ:MS)(pg:U):Prop where
 p:X.P=σ.P
 a:X.at_=σ.at_
 s:X.st=σ.steps
 r:X.R=σ.rounds
 as:X.as=X.bZ.map Lp.dB++[pg]
 fo:gI X.f σ.out
 lm:σ.loops=X.bZ.map fun L=>(L.xs.map pK,L.q)
 rr:σ.rounds=X.bZ.map Lp.rR++[X.M]
 rm:σ.jc=X.eC.map fun r=>(r.P,r.at_)
 s1:X.bZ.length<=σ.steps
 s2:X.eC.length<=σ.steps
 el:X.es.length=X.bZ.length+1
structure Ap(X:FX)(fA:U):Prop where
 x3:fA≠X.rA
 vC:fA≠X.oA
 vE:fA≠X.rw
 tI:fA≠X.lA
 tH:fA≠X.dC
 vA:fA≠X.fd
 vB:∀x∈X.ks,fA≠x.2
 vD:∀L∈X.bZ,fA≠L.la
 zf:X.rA≠X.oA
 zh:X.rA≠X.rw
 wH:X.rA≠X.lA
 wG:X.rA≠X.dC
 CS:X.rA≠X.fd
 CT:∀x∈X.ks,X.rA≠x.2
 zg:∀L∈X.bZ,X.rA≠L.la
 BS:X.oA≠X.rw
 ug:X.oA≠X.lA
 uf:X.oA≠X.dC
 wm:X.oA≠X.fd
 wo:∀x∈X.ks,X.oA≠x.2
 wp:∀L∈X.bZ,X.oA≠L.la
 uC:X.rw≠X.lA
 uB:X.rw≠X.dC
 wZ:X.rw≠X.fd
 w6:∀x∈X.ks,X.rw≠x.2
 w8:∀L∈X.bZ,X.rw≠L.la
 rM:X.lA≠X.dC
 t6:X.lA≠X.fd
 t7:∀x∈X.ks,X.lA≠x.2
 t8:∀L∈X.bZ,X.lA≠L.la
 tw:X.dC≠X.fd
 tz:∀x∈X.ks,X.dC≠x.2
 tE:∀L∈X.bZ,X.dC≠L.la
 AI:∀x∈X.ks,X.fd≠x.2
 vm:∀L∈X.bZ,X.fd≠L.la
 kn:(X.ks.map (·.2)).Nodup
 v9:∀x∈X.ks,∀L∈X.bZ,x.2≠L.la
 pn:(X.bZ.map (·.la)).Nodup
theorem qS{X:FX}{fA:U}(h:(X.mut fA).Nodup):Ap X fA:=by simp?[FX.mut,gE,bw,cz,not_or,jj]at h;obtain⟨⟨a1,a2,a3,a4,a5,a6,a7,a8⟩,⟨b2,b3,b4,b5,b6,b7,b8⟩,⟨c3,c4,c5,c6,c7,c8⟩,⟨d4,d5,d6,d7,d8⟩,⟨e5,e6,e7,e8⟩,⟨g6,g7,g8⟩,⟨i7,i8⟩,j1,j2,j3⟩:=h;have mk:∀{a:U},¬ a∈X.ks.map (·.2)->∀x∈X.ks,a≠x.2:=fun h x m z=>h (by rw[z];exact bt.mpr {(x),m,rfl});have ml:∀{a:U},¬ a∈X.bZ.map (·.la)->∀L∈X.bZ,a≠L.la:=fun h L m z=>h (by rw[z];exact bt.mpr {(L),m,rfl});exact{a1,a2,a3,a4,a5,a6,mk a7,ml a8,b2,b3,b4,b5,b6,mk b7,ml b8,c3,c4,c5,c6,mk c7,ml c8,d4,d5,d6,mk d7,ml d8,e5,e6,mk e7,ml e8,g6,mk g7,ml g8,mk i7,ml i8,j1,fun x m L n=>j3 _ (bt.mpr {(x),m,rfl}) _ (bt.mpr {(L),n,rfl}),j2}
theorem Ap.nd{X:FX}{fA:U}(a:Ap X fA):(X.mut fA).Nodup:=by
 have mk:∀{a:U},(∀x∈X.ks,a≠x.2)->¬ a∈X.ks.map (·.2):=fun h z=>by obtain⟨x,m,e⟩:=bt.mp z;exact h x m e.symm
 have ml:∀{a:U},(∀L∈X.bZ,a≠L.la)->¬ a∈X.bZ.map (·.la):=fun h z=>by obtain⟨x,m,e⟩:=bt.mp z;exact h x m e.symm
 simp?[FX.mut,gE,bw,cz,not_or,jj];refine{{a.x3,a.vC,a.vE,a.tI,a.tH,a.vA,mk a.vB,ml a.vD},{a.zf,a.zh,a.wH,a.wG,a.CS,mk a.CT,ml a.zg},{a.BS,a.ug,a.uf,a.wm,mk a.wo,ml a.wp},{a.uC,a.uB,a.wZ,mk a.w6,ml a.w8},{a.rM,a.t6,mk a.t7,ml a.t8},{a.tw,mk a.tz,ml a.tE},{mk a.AI,ml a.vm},a.kn,a.pn,fun x hx y hy=>?_};obtain⟨u,hu,rfl⟩:=bt.mp hx;obtain⟨v,hv,rfl⟩:=bt.mp hy;exact a.v9 u hu v hv
section
variable{t:aE}{N H H':Hp}{fA:U}{X:FX}{sh:Sh}
theorem cC.ja(h:cC t N H fA X sh)(e:N b=some o):b ∉ X.mut fA:=fun m=>by rw[h.fr b m]at e;cases e
theorem Lp.Ok.aP{L:Lp}{M:List aG}{A:U->Prop}(h:L.Ok t N H T M)(b:ah A H H')(n:¬ A L.la):L.Ok t N H' T M:={b _ _ n h.ob,h.ls,h.kd,h.on}
theorem Rt.Ok.aP{r:Rt}{A:U->Prop}(h:r.Ok t N H)(b:ah A H H')(n:¬ A r.ra):r.Ok t N H':={b _ _ n h.ob,h.pt}
theorem yK:fA∈X.mut fA:=by simp[FX.mut]
theorem RJ:X.rA∈X.mut fA:=by simp[FX.mut]
theorem Ji:X.oA∈X.mut fA:=by simp[FX.mut]
theorem Jk:X.rw∈X.mut fA:=by simp[FX.mut]
theorem yL:X.lA∈X.mut fA:=by simp[FX.mut]
theorem wj:X.dC∈X.mut fA:=by simp[FX.mut]
theorem Jh:X.fd∈X.mut fA:=by simp[FX.mut]
theorem RI{x:aa×U}(m:x∈X.ks):x.2∈X.mut fA:=by simp?[FX.mut,bw,cz];exact .inr (.inr (.inr (.inr (.inr (.inr (.inr (.inl (bt.mpr {(x),m,rfl}))))))))
theorem Jj{L:Lp}(m:L∈X.bZ):L.la∈X.mut fA:=by simp?[FX.mut,bw,cz];exact .inr (.inr (.inr (.inr (.inr (.inr (.inr (.inr (bt.mpr {(L),m,rfl}))))))))
theorem cC.same(h:cC t N H fA X sh)(s:aw H H'):cC t N H' fA X sh:={s _ _ h.ob,h.ku,h.iy,h.rd.same s,h.da,h.fm.aP (A:=fun _=>False) (aw.aP s) (fun z=>z) (fun z=>z),s _ _ h.ll,fun L m=>(h.lo L m).aP (A:=fun _=>False) (aw.aP s) (fun z=>z),s _ _ h.rl,fun r m=>(h.ro r m).aP (A:=fun _=>False) (aw.aP s) (fun z=>z),h.rn,h.nd,h.fr}
theorem cC.sg(h:cC t N H fA X sh){P:PL}(at_ st:Nat)(hp:nG t N pA P):cC t N (_L.ae H fA (FX.obj {X with pA:=pA,P:=P,at_:=at_,st:=st} t)) fA {X with pA:=pA,P:=P,at_:=at_,st:=st} sh:=by have a:=qS h.nd;have b:ah (· =fA) H (_L.ae H fA (FX.obj {X with pA:=pA,P:=P,at_:=at_,st:=st} t)):=ah.here;exact{ay,h.ku,hp,h.rd.aP b a.x3.symm a.vA.symm (fun x m=>(a.vB x m).symm) (fun c o e z=>h.ja e (by rw[z];exact yK)),h.da,h.fm.aP b a.vC.symm a.vE.symm,b _ _ a.tI.symm h.ll,fun L m=>(h.lo L m).aP b (a.vD L m).symm,b _ _ a.tH.symm h.rl,fun r m=>(h.ro r m).aP b (fun z=>h.rn r m (by rw[z];exact yK)),h.rn,h.nd,h.fr}
theorem cC.Lr(h:cC t N H fA X sh){f:FS}(b:ah (fun x=>x=X.oA∨x=X.rw) H H')(hf:fi t H' X.oA X.rw f):cC t N H' fA {X with f:=f} sh:=by
 have a:=qS h.nd;have n:∀{x:U},x≠X.oA->x≠X.rw->¬(x=X.oA∨x=X.rw):=fun h1 h2 z=>by rcases z with z |z;exact h1 z;exact h2 z
 have nm:∀{x:U},x ∉ X.mut fA->¬(x=X.oA∨x=X.rw):=fun h1=>n (fun z=>h1 (by rw[z];exact Ji)) (fun z=>h1 (by rw[z];exact Jk));exact{b _ _ (n a.vC a.vE) h.ob,h.ku,h.iy,h.rd.aP b (n a.zf a.zh) (n a.wm.symm a.wZ.symm) (fun x m=>n (a.wo x m).symm (a.w6 x m).symm) (fun c o e=>nm (h.ja e)),h.da,hf,b _ _ (n a.ug.symm a.uC.symm) h.ll,fun L m=>(h.lo L m).aP b (n (a.wp L m).symm (a.w8 L m).symm),b _ _ (n a.uf.symm a.uB.symm) h.rl,fun r m=>(h.ro r m).aP b (nm (h.rn r m)),h.rn,h.nd,h.fr}
end
end
variable{L:Lp}
section
section
variable{t:aE}{N H H' H1:Hp}{fA:U}{X:FX}{sh:Sh}
theorem cC.rN(h:cC t N H fA X sh):∀x∈X.mut fA,∃o,H x=some o:=fun x m=>by
 simp?[FX.mut,bw,cz]at m;obtain⟨dr,er⟩:=h.rd.ob;obtain⟨dx,eo⟩:=h.fm.ob;rcases m with m |m |m |m |m |m |m |m |m
 .rw[m];exact{_,h.ob}
 .rw[m];exact{_,er}
 .rw[m];exact{_,eo}
 .rw[m];exact{_,h.fm.rw}
 .rw[m];exact{_,h.ll}
 .rw[m];exact{_,h.rl}
 .rw[m];exact{_,h.rd.dr.dk}
 .obtain⟨y,hy,rfl⟩:=bt.mp m;exact{_,h.rd.dr.rw y.1 y.2 hy}
 obtain⟨y,hy,rfl⟩:=bt.mp m;exact{_,(h.lo y hy).ob}
theorem cC.Lv{ks':List (aa×U)}{iZ:List (List (aa×U))}{js:List U}{R':List (List aG)}(h:cC t N H fA X sh)(b:ah (fun x=>x=X.fd∨x∈X.ks.map (·.2)) H H')(r:gX t N H' X.T X.M X.rA X.dA X.fd ks' iZ js R')(rX:∀x∈ks',x∈X.ks∨H x.2=none):
  cC t N H' fA {X with ks:=ks',es:=iZ,as:=js,R:=R'} sh:=by
 have a:=qS h.nd;have lv:=h.rN;have n:∀{x:U},x≠X.fd->(∀y∈X.ks,x≠y.2)->¬(x=X.fd∨x∈X.ks.map (·.2)):=fun h1 h2 z=>by
  rcases z with z |z
  .exact h1 z
  obtain⟨y,hy,q⟩:=bt.mp z;exact h2 y hy q.symm
 have nm:∀{x:U},x ∉ X.mut fA->¬(x=X.fd∨x∈X.ks.map (·.2)):=fun h1=>n (fun z=>h1 (by rw[z];exact Jh)) (fun y hy z=>h1 (by rw[z];exact RI hy));have nk:∀{x:U},(∃o,H x=some o)->(∀y∈X.ks,x≠y.2)->∀y∈ks',x≠y.2:=fun{x} hx h2 y hy=>by
  rcases rX y hy with q |q
  .exact h2 y q
  obtain⟨o,e⟩:=hx;exact aC e q
 have xG:Ap {X with ks:=ks',es:=iZ,as:=js,R:=R'} fA:={a.x3,a.vC,a.vE,a.tI,a.tH,a.vA,nk (lv _ yK) a.vB,a.vD,a.zf,a.zh,a.wH,a.wG,a.CS,nk (lv _ RJ) a.CT,a.zg,a.BS,a.ug,a.uf,a.wm,nk (lv _ Ji) a.wo,a.wp,a.uC,a.uB,a.wZ,nk (lv _ Jk) a.w6,a.w8,a.rM,a.t6,nk (lv _ yL) a.t7,a.t8,a.tw,nk (lv _ wj) a.tz,a.tE,nk (lv _ Jh) a.AI,a.vm,r.dr.na,fun x m L hL=>(nk (lv _ (Jj hL)) (fun y hy=>(a.v9 y hy L hL).symm) x m).symm,a.pn};have sub:∀x∈FX.mut {X with ks:=ks',es:=iZ,as:=js,R:=R'} fA,x∈X.mut fA∨H x=none:=fun x m=>by
  simp?[FX.mut,bw,cz]at m⊢;rcases m with m |m |m |m |m |m |m |m |m
  .exact .inl (.inl m)
  .exact .inl (.inr (.inl m))
  .exact .inl (.inr (.inr (.inl m)))
  .exact .inl (.inr (.inr (.inr (.inl m))))
  .exact .inl (.inr (.inr (.inr (.inr (.inl m)))))
  .exact .inl (.inr (.inr (.inr (.inr (.inr (.inl m))))))
  .exact .inl (.inr (.inr (.inr (.inr (.inr (.inr (.inl m)))))))
  .obtain⟨y,hy,rfl⟩:=bt.mp m;rcases rX y hy with q |q
   .exact .inl (.inr (.inr (.inr (.inr (.inr (.inr (.inr (.inl (bt.mpr {(y),q,rfl})))))))))
   exact .inr q
  exact .inl (.inr (.inr (.inr (.inr (.inr (.inr (.inr (.inr m))))))))
 exact{b _ _ (n a.vA a.vB) h.ob,h.ku,h.iy,r,h.da,h.fm.aP b (n a.wm a.wo) (n a.wZ a.w6),b _ _ (n a.t6 a.t7) h.ll,fun L m=>(h.lo L m).aP b (n (a.vm L m).symm fun y hy=>(a.v9 y hy L m).symm),b _ _ (n a.tw a.tz) h.rl,fun r m=>(h.ro r m).aP b (nm (h.rn r m)),fun r m z=>(by
   rcases sub _ z with q |q
   .exact h.rn r m q
   .rw[(h.ro r m).ob]at q;cases q),xG.nd,fun x m=>(by
   rcases sub x m with q |q
   .exact h.fr x q
   exact gM h.rd.sm q)}
theorem cC.alk{L:Lp}(h:cC t N H fA X sh)(s:aw H H1)(nl:H L.la=none)(ok:L.Ok t N H1 X.T X.M):cC t N (_L.ae H1 X.lA (.ag (((X.bZ.map fun L=>V.ref L.la).reverse)++[V.ref L.la]))) fA {X with bZ:=L::X.bZ} sh:=by
 have a:=qS h.nd;have lv:=h.rN;have h1:=h.same s;have nn:∀{x:U},(∃o,H x=some o)->x≠L.la:=fun{x} hx=>by obtain⟨o,e⟩:=hx;exact aC e nl
 have b:ah (· =X.lA) H1 (_L.ae H1 X.lA (.ag (((X.bZ.map fun L=>V.ref L.la).reverse)++[V.ref L.la]))):=ah.here;have nm:∀{x:U},x ∉ X.mut fA->x≠X.lA:=fun h1 z=>h1 (by rw[z];exact yL);have mc:∀{x:U},(∃o,H x=some o)->(∀M∈X.bZ,x≠M.la)->∀M∈L::X.bZ,x≠M.la:=fun{x} hx h2 M m=>by
  rcases bw.mp m with rfl |m
  .exact nn hx
  exact h2 M m
 have xG:Ap {X with bZ:=L::X.bZ} fA:={a.x3,a.vC,a.vE,a.tI,a.tH,a.vA,a.vB,mc (lv _ yK) a.vD,a.zf,a.zh,a.wH,a.wG,a.CS,a.CT,mc (lv _ RJ) a.zg,a.BS,a.ug,a.uf,a.wm,a.wo,mc (lv _ Ji) a.wp,a.uC,a.uB,a.wZ,a.w6,mc (lv _ Jk) a.w8,a.rM,a.t6,a.t7,mc (lv _ yL) a.t8,a.tw,a.tz,mc (lv _ wj) a.tE,a.AI,mc (lv _ Jh) a.vm,a.kn,fun x m=>mc (lv _ (RI m)) (a.v9 x m),gE.mpr ⟨fun z=>by obtain⟨M,hM,q⟩:=bt.mp z;exact nn (lv _ (Jj hM)) q,a.pn⟩};have sub:∀x∈FX.mut {X with bZ:=L::X.bZ} fA,x∈X.mut fA∨x=L.la:=fun x m=>by
  simp?[FX.mut,bw,cz,cI]at m⊢;rcases m with m |m |m |m |m |m |m |m |m |m
  .exact .inl (.inl m)
  .exact .inl (.inr (.inl m))
  .exact .inl (.inr (.inr (.inl m)))
  .exact .inl (.inr (.inr (.inr (.inl m))))
  .exact .inl (.inr (.inr (.inr (.inr (.inl m)))))
  .exact .inl (.inr (.inr (.inr (.inr (.inr (.inl m))))))
  .exact .inl (.inr (.inr (.inr (.inr (.inr (.inr (.inl m)))))))
  .exact .inl (.inr (.inr (.inr (.inr (.inr (.inr (.inr (.inl m))))))))
  .exact .inr m
  exact .inl (.inr (.inr (.inr (.inr (.inr (.inr (.inr (.inr m))))))))
 exact⟨b _ _ a.tI h1.ob,h.ku,h.iy,h1.rd.aP b a.wH a.t6.symm (fun x m=>(a.t7 x m).symm) (fun c o e=>nm (h.ja e)),h.da,h1.fm.aP b a.ug a.uC,by rw[ay];simp,fun M m=>by
   rcases bw.mp m with rfl |m
   .exact ok.aP b (nn (lv _ yL)).symm
   .exact(h1.lo M m).aP b (a.t8 M m).symm,b _ _ a.rM.symm h1.rl,fun r m=>(h1.ro r m).aP b (nm (h.rn r m)),fun r m z=>by
   rcases sub _ z with q |q
   .exact h.rn r m q
   .exact nn {_,(h.ro r m).ob} q,xG.nd,fun x m=>by
   rcases sub x m with q |q
   .exact h.fr x q
   rw[q];exact gM h.rd.sm nl⟩
theorem cC.agP{ls:List Lp}(h:cC t N H fA X sh)(hl:X.bZ=L::ls):cC t N (_L.ae H L.la (.am t.mD L.dx (jY (.ref L.l) (.int ((L.q+1:Nat):Int))))) fA {X with bZ:={L with q:=L.q+1}::ls} sh:=by
 have a:=qS h.nd;have mL:L∈X.bZ:=by rw[hl];simp
 have b:ah (· =L.la) H (_L.ae H L.la (.am t.mD L.dx (jY (.ref L.l) (.int ((L.q+1:Nat):Int))))):=ah.here;have nm:∀{x:U},x ∉ X.mut fA->x≠L.la:=fun h1 z=>h1 (by rw[z];exact Jj mL);have em:FX.mut {X with bZ:={L with q:=L.q+1}::ls} fA=X.mut fA:=by simp[FX.mut,hl]
 have oL:=h.lo L mL;have hpn:=a.pn;rw[hl,cI,gE]at hpn
 exact⟨b _ _ (a.vD L mL) h.ob,h.ku,h.iy,h.rd.aP b (a.zg L mL) (a.vm L mL) (fun x m=>a.v9 x m L mL) (fun c o e=>nm (h.ja e)),h.da,h.fm.aP b (a.wp L mL) (a.w8 L mL),by have:=b _ _ (a.t8 L mL) h.ll;rw[hl]at this;exact this,fun M m=>by
   rcases bw.mp m with rfl |m
   .exact{(ay),oL.ls,oL.kd,oL.on}
   exact(h.lo M (by rw[hl];simp[m])).aP b (fun z=>hpn.1 (bt.mpr {(M),m,z})),b _ _ (a.tE L mL) h.rl,fun r m=>(h.ro r m).aP b (nm (h.rn r m)),by rw[em];exact h.rn,by rw[em];exact h.nd,by rw[em];exact h.fr⟩
theorem cC.ald{L:Lp}{ls:List Lp}(h:cC t N H fA X sh)(hl:X.bZ=L::ls):cC t N (_L.ae H X.lA (.ag ((ls.map fun L=>V.ref L.la).reverse))) fA {X with bZ:=ls} sh:=by
 have a:=qS h.nd;have b:ah (· =X.lA) H (_L.ae H X.lA (.ag ((ls.map fun L=>V.ref L.la).reverse))):=ah.here;have nm:∀{x:U},x ∉ X.mut fA->x≠X.lA:=fun h1 z=>h1 (by rw[z];exact yL);have sub:∀x∈FX.mut {X with bZ:=ls} fA,x∈X.mut fA:=fun x m=>by
  simp?[FX.mut,bw,cz,hl,cI]at m⊢;rcases m with m |m |m |m |m |m |m |m |m
  .exact .inl m
  .exact .inr (.inl m)
  .exact .inr (.inr (.inl m))
  .exact .inr (.inr (.inr (.inl m)))
  .exact .inr (.inr (.inr (.inr (.inl m))))
  .exact .inr (.inr (.inr (.inr (.inr (.inl m)))))
  .exact .inr (.inr (.inr (.inr (.inr (.inr (.inl m))))))
  .exact .inr (.inr (.inr (.inr (.inr (.inr (.inr (.inl m)))))))
  exact .inr (.inr (.inr (.inr (.inr (.inr (.inr (.inr (.inr m))))))))
 have ml:∀{x:U},(∀M∈X.bZ,x≠M.la)->∀M∈ls,x≠M.la:=fun h1 M m=>h1 M (by rw[hl];simp[m]);have hpn:=a.pn;rw[hl,cI,gE]at hpn;have xG:Ap {X with bZ:=ls} fA:={a.x3,a.vC,a.vE,a.tI,a.tH,a.vA,a.vB,ml a.vD,a.zf,a.zh,a.wH,a.wG,a.CS,a.CT,ml a.zg,a.BS,a.ug,a.uf,a.wm,a.wo,ml a.wp,a.uC,a.uB,a.wZ,a.w6,ml a.w8,a.rM,a.t6,a.t7,ml a.t8,a.tw,a.tz,ml a.tE,a.AI,ml a.vm,a.kn,fun x m=>ml (a.v9 x m),hpn.2};exact{b _ _ a.tI h.ob,h.ku,h.iy,h.rd.aP b a.wH a.t6.symm (fun x m=>(a.t7 x m).symm) (fun c o e=>nm (h.ja e)),h.da,h.fm.aP b a.ug a.uC,ay,fun M m=>(h.lo M (by rw[hl];simp[m])).aP b (a.t8 M (by rw[hl];simp[m])).symm,b _ _ a.rM.symm h.rl,fun r m=>(h.ro r m).aP b (nm (h.rn r m)),fun r m z=>h.rn r m (sub _ z),xG.nd,fun x m=>h.fr x (sub x m)}
theorem cC.alm{r:Rt}(h:cC t N H fA X sh)(s:aw H H1)(nr:H r.ra=none)(ok:r.Ok t N H1):cC t N (_L.ae H1 X.dC (.ag (((X.eC.map fun r=>V.ref r.ra).reverse)++[V.ref r.ra]))) fA {X with eC:=r::X.eC} sh:=by
 have a:=qS h.nd;have lv:=h.rN;have h1:=h.same s;have nn:∀{x:U},(∃o,H x=some o)->x≠r.ra:=fun{x} hx=>by obtain⟨o,e⟩:=hx;exact aC e nr
 have b:ah (· =X.dC) H1 (_L.ae H1 X.dC (.ag (((X.eC.map fun r=>V.ref r.ra).reverse)++[V.ref r.ra]))):=ah.here;have nm:∀{x:U},x ∉ X.mut fA->x≠X.dC:=fun h1 z=>h1 (by rw[z];exact wj)
 exact⟨b _ _ a.tH h1.ob,h.ku,h.iy,h1.rd.aP b a.wG a.tw.symm (fun x m=>(a.tz x m).symm) (fun c o e=>nm (h.ja e)),h.da,h1.fm.aP b a.uf a.uB,b _ _ a.rM h1.ll,fun M m=>(h1.lo M m).aP b (a.tE M m).symm,by rw[ay];simp,fun q m=>by
   rcases bw.mp m with rfl |m
   .exact ok.aP b (nn (lv _ wj)).symm
   .exact(h1.ro q m).aP b (nm (h.rn q m)),fun q m z=>by
   rcases bw.mp m with rfl |m
   .exact nn (lv _ z) rfl
   exact h.rn q m z,h.nd,h.fr⟩
theorem cC.ale{r:Rt}{rs:List Rt}(h:cC t N H fA X sh)(hr:X.eC=r::rs):cC t N (_L.ae H X.dC (.ag ((rs.map fun r=>V.ref r.ra).reverse))) fA {X with eC:=rs} sh:=by
 have a:=qS h.nd;have b:ah (· =X.dC) H (_L.ae H X.dC (.ag ((rs.map fun r=>V.ref r.ra).reverse))):=ah.here;have nm:∀{x:U},x ∉ X.mut fA->x≠X.dC:=fun h1 z=>h1 (by rw[z];exact wj);have mr:∀{q:Rt},q∈rs->q∈X.eC:=fun m=>by rw[hr];simp[m]
 exact{b _ _ a.tH h.ob,h.ku,h.iy,h.rd.aP b a.wG a.tw.symm (fun x m=>(a.tz x m).symm) (fun c o e=>nm (h.ja e)),h.da,h.fm.aP b a.uf a.uB,b _ _ a.rM h.ll,fun M m=>(h.lo M m).aP b (a.tE M m).symm,ay,fun q m=>(h.ro q (mr m)).aP b (nm (h.rn q (mr m))),fun q m=>h.rn q (mr m),h.nd,h.fr}
end
end
theorem Ye{sh:Sh}{Pq:PL}(h:u7 t N tD sh)(hg:iA sh n=some Pq):∃tp dx v1 v2 pA,(∀H,aw N H->kR H tD (S n) (some (.ref tp)))/\N tp=some (.am t.g9 dx (gl (.ref pA) v1 v2))/\nG t N pA Pq:=by
 obtain⟨tps,e,nd,hn,hat⟩:=h.ex;unfold iA at hg;cases hf:sh.find? (fun q=>q.1==n)with
 |none=>rw[hf]at hg;cases hg|some y=>
  rw[hf]at hg;have hg:y.2=Pq:=by simpa using hg
  have hy:y.1=n:=by simpa using YJ hf
  obtain⟨i,hi⟩:=YM (DI hf);have hlen:tps.length=sh.length:=by have:=eU kE hn;simpa using this
  have bX:i<tps.length:=by rw[hlen];exact(fB.mp hi).1
  have hx:tps[i]?=some tps[i]:=gU bX;have Bz:tps[i].1=n:=by
   have h1:(tps.map (·.1))[i]?=some tps[i].1:=by rw[dQ,hx];rfl
   rw[hn,dQ,hi]at h1;have h1:some y.1=some tps[i].1:=h1;injection h1 with h1
   rwa[←h1]
  obtain⟨dx,v1,v2,pA,h1,h2⟩:=hat i _ y hx hi;generalize tps[i]=x at hx Bz h1 h2;obtain⟨x1,x2⟩:=x;have Bz:x1=n:=Bz;subst Bz hg;exact{x2,dx,v1,v2,pA,fun H s=>vo (.inl (s _ _ e)) nd (fh hx),h1,h2}
inductive Xi(t:aE)(vs:List V)(H:Hp)(Q:VK)(E:XK):Prop|mk:∀N fA X sh,vs=[.ref fA]->cC t N H fA X sh->Q (.bl (decide (20000<X.st))) H->Xi t vs H Q E
theorem Sv(T:Txt K mg t):aQ P w K mg base 1 t.Fp B5 (Xi t):=by exists T.abF,alZ;obtain⟨N,fA,X,sh,rfl,F,k⟩:=h;have e:=F.ob;unfold FX.obj at e;refine{_,au (aM (fw gp (pf 0) (bS T.agD) (bD _))),?_};simp![e];rwa[show decide ((20000:Int)<(X.st:Int))=decide (20000<X.st)from oC.mpr (by lia)]
theorem nG.list{P:PL}(h:nG t N pA P):∃pa:List U,N pA=some (.ag (pa.map V.ref))/\pa.length=P.length:=by obtain⟨_,_,pa,h1,h2,_⟩:=h;exact{(pa),h1,h2}
theorem nG.at_{P:PL}{x:MP×Nat}(h:nG t N pA P)(hx:P[i]?=some x):∃(pa:List U) (a:U),N pA=some (.ag (pa.map V.ref))/\pa[i]?=some a/\fS t N N a x/\pQ x.1/\Aq x.1/\(iW x.1).length<=8:=by
 obtain⟨hk,hz,pa,h1,h2,h3⟩:=h;have bX:i<pa.length:=by rw[h2];exact(fB.mp hx).1
 have ha:pa[i]?=some pa[i]:=gU bX;obtain⟨k1,k2,k3⟩:=hk x (fh hx);exact{pa,pa[i],h1,ha,h3 i _ x ha hx,k1,k2,k3}
inductive WH(t:aE)(vs:List V)(H:Hp)(Q:VK)(E:XK):Prop|mk:∀N fA X sh,vs=[.ref fA]->cC t N H fA X sh->Q (.bl (decide (X.at_=X.P.length/\X.eC=[]))) H->WH t vs H Q E
theorem aj1(T:Txt K mg t):aQ P w K mg base 1 t.Fj B2 (WH t):=by
 exists T.abA,alW;obtain⟨N,fA,X,sh,rfl,F,k⟩:=h;have e:=F.ob;unfold FX.obj at e;obtain⟨pa,h1,h2⟩:=F.iy.list;refine{_,au (aM (wu (fw cV (pf 0) (cN dH T.cK (pf 0)) (bD _)) (oq (fw cV (cN dH T.cK (pf 0)) bV (bD _))))),?_};simp![e];refine{_,.inl (aB.of (F.rd.sm _ _ h1)),?_};rw[bL,h2];by_cases ha:X.at_=X.P.length
 .simp![e];rw[az (by lia)];simp![e];refine{_,.inl (aB.of F.rl),?_};have:decide ((((X.eC.map fun r=>V.ref r.ra).reverse).length:Int)=0)=decide (X.at_=X.P.length/\X.eC=[]):=by
   apply oC.mpr;rw[zT,bL];constructor
   .intro z;exact{ha,jN.mp (by lia)}
   rintro ⟨_,z⟩;rw[z];rfl
  simp![e];first
   |(rwa[this])|(rwa[show decide (V.int _=V.int 0)=_ from this])
 simp![e];rw[ao (by lia)];rwa[dM (fun z=>ha z.1)]at k
inductive Wg(t:aE)(vs:List V)(H:Hp)(Q:VK)(E:XK):Prop|mk:∀N fA X sh a n kk Pq,vs=[.ref fA,.ref a]->cC t N H fA X sh->fS t N N a (.use n,kk)->iA sh n=some Pq->X.eC.length<50000->(∀H' r pA',r.P=X.P->r.at_=X.at_->cC t N H' fA {X with eC:=r::X.eC,pA:=pA',P:=Pq,at_:=0} sh->Q .aN H')->Wg t vs H Q E
theorem ajV(T:Txt K mg t):aQ P w K mg base 3 t.Fg B1 (Wg t):=by
 exists T.abx,alV;obtain⟨N,fA,X,sh,a,n,kk,Pq,rfl,F,hp,hg,hl,k⟩:=h;have e:=F.ob;have e0:=e;unfold FX.obj at e;obtain⟨o,ea,dp,lA,adr,wv,pk,rfl,_⟩:=hp;obtain⟨tp,dt,v1,v2,pA',tg,et,yt⟩:=Ye F.ku hg;refine{_,ak (cj (fb ej iE iF h9 (pf 0) (aq (iu T.Q2 (ajI T) hr (aq (pf 0) (aq (pf 0) aA))) aA)))
  (ak (bT (pv 0) (om (wx (k5 hr) (pf 0) (pf 1) (fun _ _=>rfl)) rfl) rfl)
  (au (bT (pv 0) bV rfl))),?_}
 simp![e];refine{.inl {rfl,_,aB.of F.rl},?_};intro ra dr nr kh nrd;refine{ra,dr,X.pA,_,rfl,ay,fun H1 b1 e1 D1=>{rfl,?_}};have s1:aw H H1:=iq nr kh b1;have F1:=F.same s1;refine{X.dC,_,_,rfl,rfl,F1.rl,by simp?[zT,bL];exact cx (by lia),?_};have F2:=F.alm (r:={(ra),dr,X.pA,X.P,X.at_}) s1 nr {(e1),F.iy};generalize _L.ae H1 X.dC (.ag (((X.eC.map fun r=>V.ref r.ra).reverse)++[V.ref ra]))=H2 at F2⊢;have e2:=F2.ob;unfold FX.obj at e2;simp![wR,e2,F2.rd.sm _ _ ea];refine{_,tg H2 F2.rd.sm,?_};simp![e2,F2.rd.sm _ _ et,ay,gT];simp![e2,F2.rd.sm _ _ et,ay,gT];exact k _ {(ra),dr,X.pA,X.P,X.at_} pA' rfl rfl (F2.sg 0 X.st yt)
inductive WA(t:aE)(vs:List V)(H:Hp)(Q:VK)(E:XK):Prop|mk:∀N fA X sh r rs,vs=[.ref fA]->cC t N H fA X sh->(X.eC=r::rs)->(∀H',cC t N H' fA {X with eC:=rs,pA:=r.pA,P:=r.P,at_:=r.at_} sh->Q .aN H')->WA t vs H Q E
theorem ajZ(T:Txt K mg t):aQ P w K mg base 1 t.Fi JO (WA t):=by
 exists T.abz,VC;obtain⟨N,fA,X,sh,r,rs,rfl,F,o9,k⟩:=h;have e:=F.ob;unfold FX.obj at e;have orr:=F.ro r (by rw[o9];simp);refine{_,ak (b9 (i:=1) VC.nd rfl (bx rfl) (zc ej DO DP yJ (pf 0))) (ak (bT (pv 0) (pf 1) rfl) (au (bT (pv 0) (pf 1) rfl))),?_};simp![e];have hJ:=F.rl;rw[o9]at hJ;refine{.inl {rfl,_,aB.of hJ},X.dC,_,V.ref r.ra,rfl,rfl,hJ,by simp,?_};have F2:=F.ale o9;have mP:(((r::rs).map fun r=>V.ref r.ra).reverse).dropLast=(rs.map fun r=>V.ref r.ra).reverse:=by simp
 rw[mP];have kW:_L.ae H X.dC (.ag ((rs.map fun r=>V.ref r.ra).reverse)) r.ra=some (.am t.tf r.dx (vG (.ref r.pA) (.int (r.at_:Int)))):=by rw[aj (fun z=>F.rn r (by rw[o9];simp) (by rw[z];exact wj))];exact orr.ob
 generalize _L.ae H X.dC (.ag ((rs.map fun r=>V.ref r.ra).reverse))=H2 at F2 kW⊢;have e2:=F2.ob;unfold FX.obj at e2;have ue:r.ra≠fA:=fun z=>F.rn r (by rw[o9];simp) (by rw[z];exact yK);simp![e2,kW,ay,gT,aj ue];exact k _ (F2.sg r.at_ X.st orr.pt)
theorem pT.NQ:∀{es:List (List (aa×U))} {as:List U} {R:List (List aG)},pT t N T es as R->∀m∈R,dW m
 |[],[],[],_=>fun m hm=>by cases hm|_::_,_::_,_::_,h=>fun m hm=>by
  rcases bw.mp hm with rfl |hm
  .exact h.1.1
  exact pT.NQ h.2 m hm
 |[],_::_,_,h=>h.elim|[],[],_::_,h=>h.elim
 |_::_,[],_,h=>h.elim|_::_,_::_,[],h=>h.elim
inductive Wo(t:aE)(vs:List V)(H:Hp)(Q:VK)(E:XK):Prop|mk:∀N fA X sh a h n k,vs=[.ref fA,.ref a]->cC t N H fA X sh->fS t N N a (.aU h n,k)->(h=63∨h=33)->X.es.length<50000->(∀H',cC t N H' fA {X with at_:=if ((h==63)==!(named X.R n).isEmpty)=true then X.at_ else k+1} sh->Q .aN H')->Wo t vs H Q E
theorem ajS(T:Txt K mg t):aQ P w K mg base 2 t.Fe JL (Wo t):=by
 exists T.abv,Vz;obtain⟨N,fA,X,sh,a,hh,n,kk,rfl,F,hp,hh2,fq,k⟩:=h;have e:=F.ob;unfold FX.obj at e;obtain⟨o,ea,dp,lA,adr,wv,pk,rfl,_,_,_,yy⟩:=hp;have yu:pk=kk:=yy rfl;subst yu;refine{_,ak (b9 (i:=2) Vz.nd rfl (bx rfl) (fw gp (cN dH T.cK (bY (pf 0) T.oh.cl T.IV (JE T) hr (aq (pf 1) aA))) bV (bD _))) (au (bA (cg uo (pv 2) (fw cV (pf 1) (gf T.alO) (bD _)) (bD _)) (au (bT (pv 0) (iL rY (pf 1) bV) rfl)) bH)),?_};obtain⟨dr,er⟩:=F.rd.ob;simp![e,F.rd.sm _ _ ea,er];refine{N,X.T,X.M,X.rA,X.dA,X.fd,X.ks,X.es,X.as,X.R,n,rfl,F.rd,fq,fun H1 l f ds xs s1 I=>?_};have F1:=F.same s1;have e1:=F1.ob;unfold FX.obj at e1;simp![F1.rd.sm _ _ ea];refine{_,.inl (aB.of I.ls),?_};simp![F1.rd.sm _ _ ea];refine{rfl,?_};have h1:decide ((0:Int)<(((ds.map fun x=>V.ref x.2).length:Nat):Int))=!(named X.R n).isEmpty:=by rw[I.nm,bL,I.kd.bu];cases xs with|nil=>rfl|cons x xs=>exact gG (by simp)
 have h2:decide (S (kindOf (.aU hh n))=V.str (Str.ofString "{?"))=(hh==63):=by
  rcases hh2 with rfl |rfl
  .exact gG rfl
  exact dM (fun z=>aJ (lL (a:=[123,33]) (b:=[123,63]) z) (by decide))
 have hc:(!decide (decide ((0:Int)<(((ds.map fun x=>V.ref x.2).length:Nat):Int))=decide (S (kindOf (.aU hh n))=V.str (Str.ofString "{?"))))=!((hh==63)==!(named X.R n).isEmpty):=by rw[h1,h2];cases(hh==63)<;>cases(named X.R n).isEmpty<;>rfl
 simp![F1.rd.sm _ _ ea];rw[hc];cases hb:((hh==63)==!(named X.R n).isEmpty)with|true=>rw[ao (by decide)];have:=k H1;rw[az hb]at this;exact this F1|false=>rw[az (by decide)];simp![e1,F1.rd.sm _ _ ea];have:=k (_L.ae H1 fA (FX.obj {X with at_:=pk+1} t));rw[ao (by rw[hb];decide)]at this;exact this (F1.sg (pk+1) X.st F.iy)
inductive WT(t:aE)(vs:List V)(H:Hp)(Q:VK)(E:XK):Prop|mk:∀N fA X sh a n k,vs=[.ref fA,.ref a]->cC t N H fA X sh->fS t N N a (.aU 42 n,k)->X.es.length<50000->X.bZ.length<50000->((named X.R n=[]∨X.at_=k)->∀H',cC t N H' fA {X with at_:=k+1} sh->Q .aN H')->(∀m ms,named X.R n=m::ms->X.at_≠k->∀H' L ks' kl,L.xs.map pK=m::ms->L.q=0->L.rR=m->cC t N H' fA {X with bZ:=L::X.bZ,ks:=ks',es:=kl::X.es,as:=L.dB::X.as,R:=m::X.R} sh->Q .aN H')->WT t vs H Q E
theorem ajU(T:Txt K mg t):aQ P w K mg base 3 t.Ff JM (WT t):=by
 exists T.abw,VA;obtain⟨N,fA,X,sh,a,n,kk,rfl,F,hp,fq,qi,k1,k2⟩:=h;have e:=F.ob;unfold FX.obj at e;obtain⟨o,ea,dp,lA,adr,wv,pk,rfl,_,_,_,yy⟩:=hp;have yu:pk=kk:=yy rfl;subst yu;have bG:=hr.mono (show 1<=2 by decide);refine{_,ak (b9 (i:=2) VA.nd rfl (bx rfl) (bY (pf 0) T.oh.cl T.IV (JE T) bG (aq (pf 1) aA)))
  (ak (bA (iN (cg cV (cN dH T.cK (pv 2)) bV (bD _)) (jE (cg cV (pf 0) (pf 1) (bD _)))).pt (ak (bT (pv 0) (iL rY (pf 1) bV) rfl) (au wD)) bH)
  (ak (cj (fb ej iE iF h9 (pf 0) (aq (iu T.BG (ajF T) hr (aq (pv 2) aA)) aA)))
  (au (cj (bY (pf 0) T.oh.cl T.IU (JC T) bG (aq (dY eN (pv 2) bV (fun _ _=>rfl)) aA)))))),?_}
 obtain⟨dr,er⟩:=F.rd.ob;simp![e,F.rd.sm _ _ ea,er];refine{N,X.T,X.M,X.rA,X.dA,X.fd,X.ks,X.es,X.as,X.R,n,rfl,F.rd,fq,fun H1 l f ds xs s1 I=>?_};have F1:=F.same s1;have e1:=F1.ob;unfold FX.obj at e1;simp![];refine{_,.inl (aB.of I.ls),?_};rw[bL,I.kd.bu];simp![e1,F1.rd.sm _ _ ea];have QN:=I.nm;cases xs with
 |nil=>rw[az (by simp)];simp![e1,F1.rd.sm _ _ ea];exact k1 (.inl QN) _ (F1.sg (pk+1) X.st F.iy)|cons x xs=>
  rw[ao (by simp;lia)];by_cases hat:X.at_=pk
  .simp![e1,F1.rd.sm _ _ ea];rw[az (by lia)];simp![e1,F1.rd.sm _ _ ea];exact k1 (.inr hat) _ (F1.sg (pk+1) X.st F.iy)
  simp![e1,F1.rd.sm _ _ ea];rw[ao (by lia)];obtain⟨hN,m',hm',hst⟩:=I.ja (by simp);cases ds with|nil=>exact I.kd.elim|cons c ds=>
  obtain⟨kl,rk⟩:=I.kd.2.1.Tu;have Qj:∀y∈x::xs,∀n∈aS y.2,n∈aS X.M:=fun y hy n hn=>F.rd.on m' hm' n ((SD (F.rd.rs.NQ m' hm') y (hst y hy)).2 n hn);simp![e1];refine{.inl {rfl,_,aB.of F1.ll},fun la dl nl pw Jr=>{la,dl,l,rfl,ay,fun H2 b2 e2 D2=>{rfl,?_}}};have s2:aw H1 H2:=iq nl pw b2;have F3:=F1.alk (L:={la,dl,l,c::ds,x::xs,f,0}) s2 nl {(e2),hN,I.kd,Qj};refine{X.lA,_,_,rfl,rfl,(F1.same s2).ll,by simp?[zT,bL];exact cx (by lia),?_};generalize _L.ae H2 X.lA (.ag (((X.bZ.map fun L=>V.ref L.la).reverse)++[V.ref la]))=H3 at F3⊢;have e3:=F3.ob;unfold FX.obj at e3;obtain⟨ER,tG⟩:=F3.rd.ob;simp![e3,tG];refine{l,_,_,_,rfl,rfl,aB.of (F3.rd.sm _ _ hN),(show iV _ ((0:Nat):Int)=_ from lO rfl),N,X.T,X.M,X.rA,X.dA,X.fd,X.ks,X.es,X.as,X.R,c.2,kl,x.2,rfl,F3.rd,rk,Qj x (by simp),fq,fun H4 ks' b4 r4 akJ D4=>?_};exact k2 x.2 (xs.map pK) QN hat H4 {la,dl,l,c::ds,x::xs,f,0} ks' kl rfl rfl rfl (F3.Lv b4 r4 akJ)
inductive Wy(t:aE)(vs:List V)(H:Hp)(Q:VK)(E:XK):Prop
 |mk:∀N fA X sh a i h n k,vs=[.ref fA,.ref a]->cC t N H fA X sh->fS t N N a (.fin,i)->(X.P[i]?=some (.aU h n,k))->(h≠42->Q .aN H)->(h=42->∃L ls kl es as m R,X.bZ=L::ls/\X.es=kl::es/\X.as=L.dB::as/\X.R=m::R/\L.q<L.xs.length/\X.es.length<50000/\
  (L.q+1=L.xs.length->∀H',cC t N H' fA {X with bZ:=ls,es:=es,as:=as,R:=R} sh->Q .aN H')/\
  (∀m',(L.xs.map pK)[L.q+1]?=some m'->∀H' ks' kl',cC t N H' fA {X with bZ:={L with q:=L.q+1}::ls,ks:=ks',es:=kl'::es,as:=Lp.dB {L with q:=L.q+1}::as,R:=m'::R,at_:=i+1} sh->Q .aN H'))->Wy t vs H Q E
theorem ajY(T:Txt K mg t):aQ P w K mg base 2 t.Fh JN (Wy t):=by
 exists T.aby,VB;obtain⟨N,fA,X,sh,a,i,h,n,kk,rfl,F,hp,hb,k1,k2⟩:=h;have e:=F.ob;unfold FX.obj at e;obtain⟨o,ea,dp,lA,adr,wv,pk,rfl,_,_,_,yy⟩:=hp;have yu:pk=i:=yy rfl;subst yu;obtain⟨pa,b,hpl,hpb,⟨o2,eb,db,lB,adb,wb,pb,rfl,_⟩,aO,_⟩:=F.iy.at_ hb;refine{_,ak (bA (cg uo (om (dY eN (pf 0) (pf 1) (fun _ _=>rfl)) rfl) (gf T.TV) (bD _)) (au wD) bH)
  (ak (b9 (i:=2) VB.nd rfl (bx rfl) (dY eN (pf 0) (r6 sr bV) (fun _ _=>rfl)))
  (ak (cj (bY (pf 0) T.oh.cl T.ah4 (aka T) hr (aq (cE (pv 2) T.BG.cl T.Rp (Sf T) hr) aA)))
  (ak (l9 (pv 2) bV mR)
  (ak (bA (cg cV (pf 2) (cN dH T.cK (pf 2)) (bD _)) (ak (cj (zc ej DO DP yJ (pf 0))) (au wD)) bH)
  (ak (cj (bY (pf 0) T.oh.cl T.IU (JC T) hr (aq (cE (pv 2) T.BG.cl T.Rp (Sf T) hr) aA)))
  (au (bT (pv 0) (iL rY (pf 1) bV) rfl))))))),?_}
 simp![e,F.rd.sm _ _ ea];refine{X.pA,_,_,_,rfl,rfl,aB.of (F.rd.sm _ _ hpl),lO (by rw[dQ,hpb];rfl),?_};simp![F.rd.sm _ _ eb];refine{rfl,?_};by_cases h42:h=42
 .subst h42;simp![F.rd.sm _ _ eb];rw[ao (by rw[gG (show S (kindOf (.aU 42 n))=V.str (Str.ofString "{*")from rfl)];decide)];obtain⟨L,ls,kl,es,as,m,R,kZ,qf,has,hR,hq,fq,k3,k4⟩:=k2 rfl;have mL:L∈X.bZ:=by rw[kZ];simp
  have oL:=F.lo L mL;have qi:=F.ll;rw[kZ]at qi;have hkl:=oL.kd.bu;simp![e];have rH:iV (((L::ls).map fun L=>V.ref L.la).reverse) (-1)=some (V.ref L.la):=by rw[cI,YW];exact vd _ _
  refine{X.lA,_,_,_,rfl,rfl,aB.of qi,rH,?_};obtain⟨dr,er⟩:=F.rd.ob;simp![e,er,oL.ob];have PK:L.ds[L.q]?=some (L.ds[L.q]'(by lia)):=gU _;have afR:L.dB=(L.ds[L.q]'(by lia)).2:=by unfold Lp.dB;rw[PK];rfl
  refine{L.la,L.dx,L.l,V.ref L.dB,_,L.q,rfl,oL.ob,F.rd.sm _ _ oL.ls,by rw[dQ,PK,afR];rfl,?_};have o8:=F.rd;rw[qf,has,hR]at o8;refine{N,X.T,X.M,X.rA,X.dA,X.fd,X.ks,kl,es,L.dB,as,m,R,rfl,o8,fun H1 b1 r1 D1=>?_};have F1:=F.Lv (b1.mono fun x z=>.inr z) r1 (fun x mx=>.inl mx);have oL1:=F1.lo L mL;have e1:=F1.ob;unfold FX.obj at e1;simp![oL1.ob];have F2:=F1.agP (L:=L) (ls:=ls) kZ;rw[show((L.q:Int)+1)=((L.q+1:Nat):Int) by lia];generalize _L.ae H1 L.la (.am t.mD L.dx (jY (.ref L.l) (.int ((L.q+1:Nat):Int))))=H2 at F2⊢;have oL2:=F2.lo {L with q:=L.q+1} (by simp);have e2:=F2.ob;unfold FX.obj at e2;have BU:H2 L.la=some (.am t.mD L.dx (jY (.ref L.l) (.int ((L.q+1:Nat):Int)))):=oL2.ob;simp![BU];refine{_,.inl (aB.of (F2.rd.sm _ _ oL.ls)),?_};rw[bL,hkl];by_cases Bi:L.q+1=L.xs.length
  .simp![BU];rw[az (by lia)];simp![e2];have P7:=F2.ll;refine{.inl {rfl,_,aB.of P7},X.lA,_,V.ref L.la,rfl,rfl,P7,by simp,?_};have F3:=F2.ald (L:={L with q:=L.q+1}) (ls:=ls) rfl;have mP:((({L with q:=L.q+1}::ls).map fun L=>V.ref L.la).reverse).dropLast=(ls.map fun L=>V.ref L.la).reverse:=by simp
   rw[mP];simp![e2];exact k3 Bi _ F3
  simp![e2];rw[ao (by lia)];obtain⟨xQ,kW⟩:=F2.rd.ob;simp![e2,kW,BU];have bX:L.q+1<L.ds.length:=by lia
  have tO:L.ds[L.q+1]?=some L.ds[L.q+1]:=gU bX;have yz:L.xs[L.q+1]?=some (L.xs[L.q+1]'(by lia)):=gU _;have PM:Lp.dB {L with q:=L.q+1}=L.ds[L.q+1].2:=by unfold Lp.dB;rw[tO];rfl
  obtain⟨_,Bh⟩:=oL.kd.gN tO yz;obtain⟨kl',rk⟩:=Bh.Tu;refine{L.la,L.dx,L.l,V.ref (Lp.dB {L with q:=L.q+1}),_,L.q+1,rfl,BU,F2.rd.sm _ _ oL.ls,by rw[dQ,tO,PM];rfl,?_};refine{N,X.T,X.M,X.rA,X.dA,X.fd,X.ks,es,as,R,Lp.dB {L with q:=L.q+1},kl',(L.xs[L.q+1]'(by lia)).2,rfl,F2.rd,by rw[PM];exact rk,oL.on _ (fh yz),by rw[qf]at fq;simp at fq;lia,fun H3 ks' b3 r3 akI D3=>?_};have F3:=F2.Lv b3 r3 akI;have e3:=F3.ob;unfold FX.obj at e3;simp![e3,F3.rd.sm _ _ ea];rw[show((pk:Int)+1)=((pk+1:Nat):Int) by lia];exact k4 _ (by rw[dQ,yz];rfl) _ ks' kl' (F3.sg (pk+1) X.st F.iy)
 simp![];rw[az (by rw[dM (Q4 (mp:=.aU h n) (fun m z=>h42 (by injection z)))];rfl)];exact k1 h42
theorem ahu(n:aa):qj (S n) [V.str "href",V.str "src",V.str "action",V.str "formaction",V.str "poster",V.str "cite"]=leads n:=by have:=Ix n (["href","src","action","formaction","poster","cite"].map lD);rwa[←show [V.str "href",V.str "src",V.str "action",V.str "formaction",V.str "poster",V.str "cite"]=(["href","src","action","formaction","poster","cite"].map lD).map S from rfl]at this
theorem afM{b r:aa}(h:b=r++z)(c:sM b r):harmless r=harmless b:=by
 rcases c with c |⟨c1,c2⟩
 .rw[c]
 have tk:∀n:Nat,n<=16384->b.take n=r.take n:=fun n hn=>by rw[h,ao1 (by lia)]
 rw[Hy,Hy,rq,rq,rq,rq,rq,rq,tk _ (by simp),tk _ (by simp),tk _ (by simp)]
inductive LC(t:aE)(vs:List V)(H:Hp)(Q:VK)(E:XK):Prop|mk:∀N fA X sh aT x,vs=[.ref fA,.ref aT]->cC t N H fA X sh->oE t N aT x->X.es.length<50000->(∀(H':Hp) (p:U) (r:aa),H p=none->aw H H'->H' p=some (.ag (vb r))->sM (value X.R x).2 r->r.length<=40000->Q (.ref p) H')->LC t vs H Q E
theorem akG(T:Txt K mg t):aQ P w K mg base 5 t.Fq JR (LC t):=by
 exists T.abG,VE;obtain⟨N,fA,X,sh,aT,x,rfl,F,⟨dy,wA,ey,hw⟩,fq,k⟩:=h;have e:=F.ob;unfold FX.obj at e;have Ie:=hw;obtain⟨pA,fx,hA,gs,hs,W,ip,kY⟩:=hw;obtain⟨dw,ew⟩:=W.ob;have bG:=hr.mono (show 1<=4 by decide);have dS:=hr.mono (show 3<=4 by decide);refine{_,ak (b9 (i:=2) VE.nd rfl (bx rfl) (bY (pf 1) T.k7.cl T.RB (Si T) hr (aq (pf 0) aA)))
  (ak (bA (jD (bW (cE (pf 1) T.k7.cl T.IX (JD T) bG)) (jD (cg rZ (pf 1) (l7 T.aly) (by rfl)) (mh (fe (bW (dh (aj9 T) T.aeW dS (aq (pv 2) aA))))))).pt (au (aM (dh (ui T) T.tM bG (aq cM aA)))) bH)
  (au (aM (pv 2)))),?_}
 simp![F.rd.sm _ _ ey,F.rd.sm _ _ ew,e];refine{N,X.T,X.M,X.rA,X.dA,X.fd,X.ks,X.es,X.as,X.R,wA,x.2,rfl,F.rd,F.da,fq,Ie,fun H1 p r hp s1 ep hc hz hJ=>?_};obtain⟨z,hz⟩:=hz;have sN:aw N H1:=fun b o hb=>s1 b o (F.rd.sm b o hb);have hh:=afM hz hc;simp![sN _ _ ey,sN _ _ ew];refine{wA,pA,fx,hA,gs,hs,rfl,W.mono sN,_,rfl,?_};rw[ip];have hv:(value X.R x).2=if (leads x.1&&x.2.any gC&&!harmless (filled X.R x.2))=true then [35]else filled X.R x.2:=rfl
 cases h1:x.2.any gC with|false=>rw[h1,zG,zH,ao (by decide)]at hv;dsimp only;rw[ao (by decide)];simp![sN _ _ ey,sN _ _ ew];exact k H1 p r hp s1 ep (by rwa[hv]) hJ|true=>rw[h1,aoo]at hv;dsimp only;rw[az rfl];simp![sN _ _ ey];refine{_,_,rfl,.inr (T.alo H1),rfl,rfl,_,rfl,?_};simp?[eE,cT];rw[ahu];cases h2:leads x.1 with|false=>rw[h2,zH,ao (by decide)]at hv;simp?[eE,cT];simp![sN _ _ ey];exact k H1 p r hp s1 ep (by rwa[hv]) hJ|true=>rw[h2,uE]at hv;simp?[du];simp![bC];refine{p,r,rfl,ep,fun H2 s2=>{_,rfl,?_}};rw[hh];cases h3:harmless (filled X.R x.2)with|true=>rw[h3]at hv;simp?[zI,eE,cT]at hv⊢;simp![bC];exact k H2 p r hp (s1.trans s2) (s2 _ _ ep) (by rwa[hv]) hJ|false=>rw[h3]at hv;simp?[Mn,du]at hv⊢;refine{[35],rfl,by decide,fun q H3 hq s3 e3=>?_};exact k H3 q [35] (gM (s1.trans s2) hq) ((s1.trans s2).trans s3) e3 (.inl hv.symm) (by decide)
theorem fD.same(s:aw H H'):∀{l:List U} {m:List (aa×aa)},fD H rw l m->fD H' rw l m
 |[],[],_=>trivial|_::_,_::_,⟨⟨va,h1,h2,h3⟩,h4⟩=>{{va,s _ _ h1,s _ _ h2,h3},h4.same s}
 |[],_::_,h=>h.elim|_::_,[],h=>h.elim
theorem fD.put{acc ys:List V}(hD:H D=some (.ag acc)):∀{l:List U} {m:List (aa×aa)},fD H rw l m->fD H D l m->fD (_L.ae H D (.ag ys)) rw l m/\fD (_L.ae H D (.ag ys)) D l m
 |[],[],_,_=>{(trivial),trivial}|_::_,_::_,⟨⟨va,h1,h2,h3⟩,h4⟩,⟨⟨vb',g1,g2,g3⟩,g4⟩=>by
  have nt:=cr h1 hD (by intro z;cases z);rw[h1]at g1;injection g1 with g1;injection g1 with g1;injection g1 with _ g1;injection g1 with g1;injection g1 with g1
  subst g1;obtain⟨i1,i2⟩:=fD.put hD (ys:=ys) h4 g4;exact{{{va,by rw[aj nt];exact h1,by rw[aj g3.1];exact h2,h3},i1},{{va,by rw[aj nt];exact h1,by rw[aj g3.1];exact h2,g3},i2}}
 |[],_::_,h,_=>h.elim|_::_,[],h,_=>h.elim
theorem fD.snoc{H:Hp}{rw ta va:U}{x:aa×aa}(h:H ta=some (.cH [S x.1,.ref va]))(h2:H va=some (.ag (vb x.2)))(h3:va≠rw)(h4:x.1.length<1000)(h5:x.2.length<=50000):∀{l:List U} {m:List (aa×aa)},fD H rw l m->fD H rw (l++[ta]) (m++[x])
 |[],[],_=>{{(va),h,h2,h3,h4,h5},trivial}|_::_,_::_,⟨g,g'⟩=>{g,fD.snoc h h2 h3 h4 h5 g'}
 |[],_::_,h=>h.elim|_::_,[],h=>h.elim
theorem nB.snoc{x y:aa×aa}(h1:x.1=y.1)(h2:sM x.2 y.2):∀{a b:List (aa×aa)},nB a b->nB (a++[x]) (b++[y])
 |[],[],_=>{(h1),h2,trivial}|_::_,_::_,⟨g1,g2,g3⟩=>{g1,g2,nB.snoc h1 h2 g3}
 |[],_::_,h=>h.elim|_::_,[],h=>h.elim
noncomputable def Pk(R:List (List aG)):MP->List aG
 |.bE ps=>[.text (filled R ps)]|.aS n a=>[.open_ n (a.map (value R))]
 |.cls _=>[.close]|_=>[]
def QR:MP->Bool
 |.bE _=>true|.aS _ _=>true
 |.cls _=>true|_=>false
theorem gI.row{f:FS}(h:gI f m)(hm:f.gP=false):f.row.length<=16384:=by
 rcases h.ex with⟨_,E⟩ |⟨z,_⟩
 .exact E.KZ
 rw[hm]at z;cases z
inductive WJ(t:aE)(vs:List V)(H:Hp)(Q:VK)(E:XK):Prop|mk:∀N fA X sh a mp k out,vs=[.ref fA,.ref a]->cC t N H fA X sh->fS t N N a (mp,k)->QR mp=true->Aq mp->(iW mp).length<=8->X.es.length<50000->X.f.gP=false->gI X.f out->(∀n,mp=.cls n->∃s,cY [] out=n::s)->(∀H' f',gI f' (out++Pk X.R mp)->cC t N H' fA {X with f:=f'} sh->Q .aN H')->WJ t vs H Q E
theorem aj3(T:Txt K mg t):aQ P w K mg base 6 t.Fk JP (WJ t):=by
 exists T.abB,K6;obtain⟨N,fA,X,sh,a,mp,kk,out,rfl,F,hp,hg,yx,hat,fq,j4,Bk,mO,k⟩:=h;have e:=F.ob;unfold FX.obj at e;obtain⟨o,ea,dp,lA,adr,wv,pk,rfl,h1,h2,h3,h4⟩:=hp;have dS:=hr.mono (show 3<=5 by decide);have lY:=hr.mono (show 4<=5 by decide);have hrow:=Bk.row j4;obtain⟨Om,nQ⟩:=F.fm.ob;refine{_,au (bA (cg cV (pf 1) (gf T.CY) (bD _))
  (ak (alh (i:=2) (own:=[("attribute",3)]) (te:=L0 (lw (kt K (dz 3) "name") (lw (qB t.dj "value_of" (LC t) [] E0 (dz 0) (lw (dz 3) gQ)) gQ))) rfl K6.nd rfl rfl (am1 rfl rfl rfl rfl) (l8 (pf 1)) (oO (by rfl)) (fun _ _ _ _ _=>gq (i:=3) K6.nd rfl (bx rfl)) (fun _ _ _ _ _=>qy)
   (fun _ _ _ _ _=>S4 (aq (pf 3) (aq (bY (pv 0) T.k6.cl T.ahN (akG T) hr (aq (pv 3) aA)) aA))))
  (au (cj (bY (pf 0) T.mS.cl T.ahV (ajO T) dS (aq (pf 1) (aq (pv 2) aA))))))
  (au (bA (cg cV (pf 1) (gf T.CW) (bD _)) (au (cj (bY (pf 0) T.mS.cl T.ahU (ajM T) dS (aq (pf 1) aA))))
   (au (cj (bY (pf 0) T.mS.cl T.ahW (ajP T) dS (aq (bY (pf 1) T.k7.cl T.RB (Si T) lY (aq (pf 0) aA)) aA))))))),?_}
 simp![F.rd.sm _ _ ea];refine{rfl,?_};cases mp with
 |aS n as=>
  simp![F.rd.sm _ _ ea];rw[az (show S (kindOf (.aS n as))=V.str (Str.ofString "opening")from rfl)];have la:=h2.bu;have Po:=F.rd.sm _ _ h1;refine{_,rfl,a,_,_,_,_,rfl,F.rd.sm _ _ ea,T.og.cl,T.Eo,O1 ..,lA,rfl,{_,aB.of Po},fun D hD=>Q8 (K:=K) (xs:=adr.map V.ref)
   (fun i H'=>aw H H'/\∃tas js,H' D=some (.ag (tas.map V.ref))/\fD H' X.rw tas js/\fD H' D tas js/\nB ((as.take i).map (value X.R)) js/\tas.length=i)
   {aw.new hD,[],[],ay,trivial,trivial,trivial,rfl} (fun i H' _ hp'=>aB.of (hp'.1 _ _ Po)) ?_ ?_}
  .rintro i v H1 hi ⟨s1,tas,js,g1,g2,g3,g4,g5⟩;obtain⟨c,hc,rfl⟩:=pj hi;have bX:i<as.length:=by have:=(fB.mp hc).1;rwa[la]at this
   have hx:as[i]?=some as[i]:=gU bX;have PD:=fO.gN h2 hc hx;have hsx:as[i].1.length<=16:=yx.2 _ (xh bX);have htk:(as.take (i+1)).map (value X.R)=(as.take i).map (value X.R)++[value X.R as[i]]:=by rw[jO,hx,dJ];rfl
   generalize as[i]=x at hx PD hsx htk;have F1:=F.same s1;have e1:=F1.ob;unfold FX.obj at e1;obtain⟨dy,wA,ey,hw⟩:=PD;simp![cu,je,F1.rd.sm _ _ ey,e1];refine{N,fA,X,sh,c,x,rfl,F1,{(dy),wA,ey,hw},fq,fun H2 p r hp s2 ep yk hJ=>{by decide,fun ta tT=>?_}};have nDp:D≠p:=aC g1 hp;have nwp:X.rw≠p:=aC F1.fm.rw hp;have O8:=s2 _ _ g1;have RK:D≠ta:=aC O8 tT;have s3:aw H2 (_L.ae H2 ta (.cH [S x.1,V.ref p])):=aw.new tT;have et:_L.ae H2 ta (.cH [S x.1,V.ref p]) ta=some (.cH [S x.1,V.ref p]):=ay;have vx:=s3 _ _ ep;generalize _L.ae H2 ta (.cH [S x.1,V.ref p])=H3 at s3 et vx⊢;have O9:=s3 _ _ O8;have hb1:=fD.snoc (rw:=X.rw) (x:=(x.1,r)) et vx nwp.symm (by show x.1.length<1000;lia) (by show r.length<=50000;lia) ((g2.same s2).same s3);have hb2:=fD.snoc (rw:=D) (x:=(x.1,r)) et vx nDp.symm (by show x.1.length<1000;lia) (by show r.length<=50000;lia) ((g3.same s2).same s3);obtain⟨c1,c2⟩:=fD.put O9 (ys:=tas.map V.ref++[V.ref ta]) hb1 hb2;simp![cu,je,F1.rd.sm _ _ ey,e1];refine{_,O9,by rw[bL,g5];exact cx (by simp?[iW]at hat;lia),fun b o hb=>?_,tas++[ta],?_,js++[(x.1,r)],c1,c2,?_,by simp[g5]}
   .rw[aj (aC hb hD)];exact s3 b o (s2 b o (s1 b o hb))
   .rw[ay,dJ];rfl
   rw[htk];exact nB.snoc (x:=value X.R x) (y:=(x.1,r)) rfl yk g4
  rintro H1 ⟨s1,tas,js,g1,g2,g3,g4,g5⟩;rw[bL,la]at g4 g5;have g4:nB ((as.take as.length).map (value X.R)) js:=g4;rw[kJ]at g4;have F1:=F.same s1;have e1:=F1.ob;unfold FX.obj at e1;obtain⟨df1,AN⟩:=F1.fm.ob;simp![e1,AN,F1.rd.sm _ _ ea];have iK:js.length<=8:=by rwa[←g2.bu,g5]
  have nDw:D≠X.rw:=(aC F.fm.rw hD).symm;refine⟨X.oA,X.rw,X.f,n,D,tas,js,rfl,F1.fm,g1,nDw,g2,iK,by lia,by have:=yx.1;simp?[dI]at this;lia,fun H2 b2 F2 D2=>?_⟩;exact k H2 _ (adU Bk j4 n g4) (F1.Lr b2 F2)
 |cls n=>simp![];rw[ao (tZ (by simp))];simp![F.rd.sm _ _ ea];refine{rfl,?_};simp![F.rd.sm _ _ ea];rw[az (show S (kindOf (.cls n))=V.str (Str.ofString "closing")from rfl)];simp![e,nQ,F.rd.sm _ _ ea];obtain⟨s0,hs0⟩:=mO n rfl;refine⟨X.oA,X.rw,X.f,n,rfl,F.fm,by lia,by have:=yx.1;simp?[dI]at this;lia,fun H2 b2 F2 D2=>?_⟩;exact k H2 _ (adQ Bk j4 hs0) (F.Lr b2 F2)|bE ps=>simp![e,nQ,F.rd.sm _ _ ea];rw[ao (tZ (by simp))];simp![F.rd.sm _ _ ea];refine{rfl,?_};simp![F.rd.sm _ _ ea];rw[ao (we (by simp))];obtain⟨wA,rfl,hw⟩:=h3;have Ie:=hw;obtain⟨pA,fx,hA,gs,hs,W,ip,kY⟩:=hw;obtain⟨dw,ew⟩:=W.ob;simp![e,nQ,F.rd.sm _ _ ea,F.rd.sm _ _ ew];refine{N,X.T,X.M,X.rA,X.dA,X.fd,X.ks,X.es,X.as,X.R,wA,ps,rfl,F.rd,F.da,fq,Ie,fun H1 p r hp s1 ep yk _ hJ=>?_};have F1:=F.same s1;refine{X.oA,X.rw,X.f,p,r,rfl,F1.fm,ep,(aC F.fm.rw hp).symm,by lia,fun H2 b2 F2 D2=>?_};exact k H2 _ (adZ Bk j4 yk) (F1.Lr b2 F2)
 |aU h n=>cases hg|fin=>cases hg
 |use n=>cases hg
inductive WK(t:aE)(vs:List V)(H:Hp)(Q:VK)(E:XK):Prop|mk:∀N fA sh σ τ X pg,vs=[.ref fA]->cC t N H fA X sh->uX X σ pg->¬ iT σ->di sh σ τ->(∀H' X',cC t N H' fA X' sh->uX X' τ pg->Q .aN H')->WK t vs H Q E
theorem aj4(T:Txt K mg t):aQ P w K mg base 7 t.Fl JQ (WK t):=by
 exists T.abC,VD;obtain⟨N,fA,sh,σ,τ,X,pg,rfl,F,S0,nf,st,k⟩:=h;have e:=F.ob;unfold FX.obj at e;have bG:=hr.mono (show 1<=6 by decide);have cD:=hr.mono (show 2<=6 by decide);have dS:=hr.mono (show 3<=6 by decide);obtain⟨pa0,agd,agf⟩:=F.iy.list;have hst:σ.steps<=20000:=by
  rcases ao3 20000 σ.steps with z |z
  .exact aJ (.inl z) nf
  exact z
 have Bo:=S0.s1;have Qr:=S0.s2;have Bj:=S0.el;refine{_,ak (bA (cg cV (pf 0) (cN dH T.cK (pf 0)) (bD _)) (ak (cj (cE (pv 0) T.k6.cl T.ahI (ajZ T) bG)) (au wD)) bH)
  (ak (b9 (i:=1) VD.nd rfl (bx rfl) (dY eN (pf 0) (pf 0) (fun _ _=>rfl)))
  (ak (l9 (pv 0) bV mR)
  (ak (bA (cg cV (pf 1) (gf T.TH) (bD _)) (ak (cj (bY (pv 0) T.k6.cl T.ahH (ajY T) cD (aq (pv 1) aA))) (au wD)) bH)
  (ak (l9 (pv 0) bV mR)
  (au (bA (cg cV (pf 1) (gf T.wJ) (bD _)) (au (cj (bY (pv 0) T.k6.cl T.ahG (ajV T) dS (aq (pv 1) aA))))
   (au (bA (cg cV (pf 1) (gf T.TV) (bD _)) (au (cj (bY (pv 0) T.k6.cl T.ahF (ajU T) dS (aq (pv 1) aA))))
   (au (bA (cg rZ (pf 1) (l7 T.KS) (by rfl)) (au (cj (bY (pv 0) T.k6.cl T.ahE (ajS T) cD (aq (pv 1) aA))))
   (au (bA (fe (bW (om (pf 0) rfl))) (au (cj (bY (pv 0) T.k6.cl T.ahK (aj3 T) hr (aq (pv 1) aA)))) bH)))))))))))),?_}
 simp![e];refine{_,.inl (aB.of (F.rd.sm _ _ agd)),?_};rw[bL,agf];by_cases Bi:X.at_=X.P.length
 .simp![e];rw[az (by lia)];obtain⟨P',a',rs',q1,q2⟩:=agS (by rw[←S0.a,←S0.p];exact Bi) st;cases o9:X.eC with
  |nil=>have:=S0.rm;rw[o9,q1]at this;cases this|cons r rs=>
   have Qo:=S0.rm;rw[o9,q1,cI]at Qo;injection Qo with HW agk
   injection HW with HW agl;simp![e];refine{N,fA,X,sh,r,rs,rfl,F,o9,fun H' F'=>?_};simp![e];refine k H' _ F' ?_;rw[q2];exact{HW.symm,agl.symm,S0.s,S0.r,S0.as,S0.fo,S0.lm,S0.rr,agk,S0.s1,by rw[o9]at Qr;simp at Qr;show rs.length<=σ.steps;lia,S0.el}
 simp![e];rw[ao (by lia)];obtain⟨⟨mp,kk⟩,hx⟩:=step_at (by rw[←S0.a,←S0.p];exact Bi) st;have Ih:X.P[X.at_]?=some (mp,kk):=by rwa[S0.a,S0.p]
 obtain⟨pa,a,hpl,yt,vT,aO,yx,hat⟩:=F.iy.at_ Ih;have vU:=vT;obtain⟨o,ea,dp,lA,adr,wv,pk,rfl,h1,h2,h3,h4⟩:=vT;simp![e];refine{X.pA,_,_,_,rfl,rfl,aB.of (F.rd.sm _ _ hpl),lO (by rw[dQ,yt];rfl),?_};simp![e];rw[show((X.at_:Int)+1)=((X.at_+1:Nat):Int) by lia];have F0:=F.sg (X.at_+1) X.st F.iy;have eu:_L.ae H fA (.am t.dj X.dx (c9 (.ref X.tD) (.ref X.rA) (.ref X.oA) (.ref X.pA) (.int ((X.at_+1:Nat):Int)) (.int (X.st:Int)) (.ref X.lA) (.ref X.dC)))=_L.ae H fA (FX.obj {X with at_:=X.at_+1} t):=rfl;rw[eu];have F0:cC t N (_L.ae H fA (FX.obj {X with at_:=X.at_+1} t)) fA {X with at_:=X.at_+1} sh:=F0;generalize _L.ae H fA (FX.obj {X with at_:=X.at_+1} t)=H0 at F0⊢;have e0:=F0.ob;unfold FX.obj at e0;simp![F0.rd.sm _ _ ea];refine{rfl,?_};by_cases HE:mp=.fin
 .subst HE;simp![F0.rd.sm _ _ ea];rw[az (show S (kindOf .fin)=V.str (Str.ofString "{/")from rfl)];simp![e0];rcases agT hx st with⟨ww,n,k',q1,q2,q3⟩ |⟨n,k',row,q,ls',m,R',q1,q2,q3,q4,q5⟩
  .refine{N,fA,_,sh,a,kk,ww,n,k',rfl,F0,vU,by show X.P[kk]?=_;rw[S0.p];exact q1,fun _=>?_,fun z=>aJ z q2};simp![e0];refine k H0 _ F0 ?_;rw[q3];exact{S0.p,by show X.at_+1=σ.at_+1;rw[S0.a],S0.s,S0.r,S0.as,S0.fo,S0.lm,S0.rr,S0.rm,S0.s1,S0.s2,S0.el}
  refine{N,fA,_,sh,a,kk,42,n,k',rfl,F0,vU,by show X.P[kk]?=_;rw[S0.p];exact q1,fun z=>aJ rfl z,fun _=>?_};have rJ:=S0.lm;rw[q2]at rJ;cases kZ:X.bZ with
  |nil=>rw[kZ]at rJ;cases rJ|cons L ls=>
   rw[kZ,cI]at rJ;injection rJ with tQ P8
   injection tQ with tQ HM;have qf:∃kl es,X.es=kl::es:=by cases qf:X.es with|nil=>rw[qf,kZ]at Bj;simp at Bj|cons kl es=>exact{(kl),es,rfl}
   obtain⟨kl,es,qf⟩:=qf;have has:=S0.as;rw[kZ,cI,fQ]at has;have hR:X.R=m::R':=S0.r.trans q4;have Qm:q<row.length:=(fB.mp q3).1;have Qp:=S0.rr;rw[q4,kZ,cI,fQ]at Qp;injection Qp with apU Qq;have qi:ls.length<=σ.steps:=by rw[kZ]at Bo;simp at Bo;lia
   have Bh:es.length=ls.length+1:=by rw[qf,kZ]at Bj;simp at Bj;lia
   refine{L,ls,kl,es,ls.map Lp.dB++[pg],m,R',rfl,qf,has,hR,by rw[tQ,bL,HM]at Qm;exact Qm,by show X.es.length<50000;lia,fun hq1 H' F'=>?_,fun m' hm' H' ks' kl' F'=>?_}
   .rcases q5 with⟨r1,r2⟩ |⟨m2,r1,r2⟩
    .simp![e0];refine k H' _ F' ?_;rw[r2];exact{S0.p,by show X.at_+1=σ.at_+1;rw[S0.a],S0.s,rfl,rfl,S0.fo,P8,Qq,S0.rm,qi,S0.s2,Bh}
    exfalso;have:=(fB.mp r1).1;rw[tQ,bL]at this;lia
   rcases q5 with⟨r1,r2⟩ |⟨m2,r1,r2⟩
   .exfalso;have:=(fB.mp hm').1;rw[tQ,bL]at r1;rw[bL]at this;lia
   have hmm:m'=m2:=by rw[tQ,HM,hm']at r1;injection r1
   subst hmm;simp![e0];refine k H' _ F' ?_;rw[r2];refine{S0.p,rfl,S0.s,rfl,rfl,S0.fo,?_,?_,S0.rm,by show({L with q:=L.q+1}::ls).length<=σ.steps;rw[kZ]at Bo;exact Bo,S0.s2,by show(kl'::es).length=({L with q:=L.q+1}::ls).length+1;simp[Bh]}
   .show(row,q+1)::ls'=(L.xs.map pK,L.q+1)::_;rw[tQ,HM,P8]
   show m'::R'=Lp.rR {L with q:=L.q+1}::(ls.map Lp.rR++[X.M]);rw[Qq];congr 1;unfold Lp.rR;rw[dQ]at hm';cases Ql:L.xs[L.q+1]? with|none=>rw[Ql]at hm';cases hm'|some y=>rw[Ql]at hm';injection hm' with hm';rw[←hm'];rfl
 simp![e0];rw[ao (ahp aO HE)];simp![e0];rw[show((X.st:Int)+1)=((X.st+1:Nat):Int) by lia];have F1:=F0.sg (X.at_+1) (X.st+1) F.iy;have eu1:_L.ae H0 fA (.am t.dj X.dx (c9 (.ref X.tD) (.ref X.rA) (.ref X.oA) (.ref X.pA) (.int ((X.at_+1:Nat):Int)) (.int ((X.st+1:Nat):Int)) (.ref X.lA) (.ref X.dC)))=_L.ae H0 fA (FX.obj {X with at_:=X.at_+1,st:=X.st+1} t):=rfl;rw[eu1];have F1:cC t N (_L.ae H0 fA (FX.obj {X with at_:=X.at_+1,st:=X.st+1} t)) fA {X with at_:=X.at_+1,st:=X.st+1} sh:=F1;generalize _L.ae H0 fA (FX.obj {X with at_:=X.at_+1,st:=X.st+1} t)=H1 at F1⊢;have e1:=F1.ob;unfold FX.obj at e1;have S1:∀{f:FS} {out:List aG},gI f out->uX {X with at_:=X.at_+1,st:=X.st+1,f:=f} {σ with at_:=σ.at_+1,steps:=σ.steps+1,out:=out} pg:=fun hf=>{S0.p,by show X.at_+1=σ.at_+1;rw[S0.a],by show X.st+1=σ.steps+1;rw[S0.s],S0.r,S0.as,hf,S0.lm,S0.rr,S0.rm,uN S0.s1,uN S0.s2,S0.el};simp![F1.rd.sm _ _ ea];refine{rfl,?_};by_cases huse:∃n,mp=.use n
 .obtain⟨n,rfl⟩:=huse;simp![F1.rd.sm _ _ ea];rw[az (show S (kindOf (.use n))=V.str (Str.ofString "{>")from rfl)];obtain⟨Pq,q1,q2⟩:=agX hx st;simp![e1];refine{N,fA,_,sh,a,n,kk,Pq,rfl,F1,vU,q1,by show X.eC.length<50000;lia,fun H' r pA' r1 r2 F'=>?_};refine k H' _ F' ?_;rw[q2];exact{rfl,rfl,by show X.st+1=σ.steps+1;rw[S0.s],S0.r,S0.as,S0.fo,S0.lm,S0.rr,by show(σ.P,σ.at_+1)::σ.jc=(r.P,r.at_)::_;rw[r1,r2,S0.rm];show(σ.P,σ.at_+1)::_=(X.P,X.at_+1)::_;rw[S0.p,S0.a],uN S0.s1,by show X.eC.length+1<=σ.steps+1;lia,S0.el}
 simp![e1];rw[ao (BH aO fun n z=>huse {(n),z})];simp![F1.rd.sm _ _ ea];refine{rfl,?_};by_cases hfor:∃n,mp=.aU 42 n
 .obtain⟨n,rfl⟩:=hfor;simp![F1.rd.sm _ _ ea];rw[az (show S (kindOf (.aU 42 n))=V.str (Str.ofString "{*")from rfl)];simp![e1];refine{N,fA,_,sh,a,n,kk,rfl,F1,vU,by show X.es.length<50000;lia,by show X.bZ.length<50000;lia,fun hc H' F'=>?_,fun m ms hn Bc H' L ks' kl l1 l2 l3 F'=>?_}
  .have hc:named X.R n=[]∨X.at_+1=kk:=hc;rw[S0.r,S0.a]at hc;rcases QQ hx st with⟨_,q2⟩ |⟨m,ms,q1,q2,q3⟩
   .refine k H' _ F' ?_;rw[q2];exact{S0.p,rfl,by show X.st+1=σ.steps+1;rw[S0.s],S0.r,S0.as,S0.fo,S0.lm,S0.rr,S0.rm,uN S0.s1,uN S0.s2,S0.el}
   rcases hc with z |z
   .rw[q1]at z;cases z
   exact aJ z q2
  have hn:named X.R n=m::ms:=hn;have Bc:X.at_+1≠kk:=Bc;rw[S0.r]at hn;rw[S0.a]at Bc;rcases QQ hx st with⟨z,_⟩ |⟨m2,ms2,q1,q2,q3⟩
  .rcases z with z |z
   .rw[hn]at z;cases z
   exact aJ z Bc
  rw[hn]at q1;injection q1 with q1 q1'
  subst q1 q1';refine k H' _ F' ?_;rw[q3];refine{S0.p,by show X.at_+1=σ.at_+1;rw[S0.a],by show X.st+1=σ.steps+1;rw[S0.s],by show m::X.R=m::σ.rounds;rw[S0.r],by show L.dB::X.as=L.dB::(X.bZ.map Lp.dB++[pg]);rw[S0.as],S0.fo,?_,?_,S0.rm,by show X.bZ.length+1<=σ.steps+1;lia,uN S0.s2,by show X.es.length+1=X.bZ.length+1+1;lia}
  .show(m::ms,0)::σ.loops=(L.xs.map pK,L.q)::_;rw[l1,l2,S0.lm]
  show m::σ.rounds=L.rR::(X.bZ.map Lp.rR++[X.M]);rw[l3,S0.rr]
 simp![e1];rw[ao (Q4 fun n z=>hfor {(n),z})];simp![F1.rd.sm _ _ ea];refine{_,_,rfl,.inr (T.CN H1),rfl,rfl,_,rfl,?_};simp?[eE,cT];rw[QM mp aO];by_cases PF:∃ww n,mp=.aU ww n
 .obtain⟨ww,n,rfl⟩:=PF;rw[az (show BD (.aU ww n)=true from rfl)];have Qw:ww≠42:=fun z=>hfor {n,by rw[z]};have hw2:ww=63∨ww=33:=by
   rcases aO ww n rfl with z |z |z
   .exact .inl z
   .exact .inr z
   exact aJ z Qw
  have q2:=agR Qw hx st;simp![e1];refine{N,fA,_,sh,a,ww,n,kk,rfl,F1,vU,hw2,by show X.es.length<50000;lia,fun H' F'=>?_};refine k H' _ F' ?_;rw[q2];refine{S0.p,?_,by show X.st+1=σ.steps+1;rw[S0.s],S0.r,S0.as,S0.fo,S0.lm,S0.rr,S0.rm,uN S0.s1,uN S0.s2,S0.el};show(if ((ww==63)==!(named X.R n).isEmpty)=true then X.at_+1 else kk+1)=if ((ww==63)==!(named σ.rounds n).isEmpty)=true then σ.at_+1 else kk+1
  rw[S0.r,S0.a]
 have oZ:BD mp=false:=by cases mp with|aU ww n=>exact aJ {(ww),n,rfl} PF|_=>rfl
 rw[oZ];simp?[eE,cT];have PZ:QR mp=true:=by
  cases mp with
  |aU ww n=>cases oZ|fin=>exact aJ rfl HE
  |use n=>exact aJ {(n),rfl} huse|_=>rfl
 have hτ:τ={σ with at_:=σ.at_+1,steps:=σ.steps+1,out:=σ.out++Pk X.R mp}:=by
  rw[S0.r];cases mp with
  |bE ps=>exact agW hx st|aS n as=>exact agU hx st
  |cls n=>exact(QP hx st).2|_=>cases PZ
 obtain⟨Om,nQ⟩:=F1.fm.ob;simp![e1,nQ];cases j4:X.f.gP with
 |true=>simp?[zI,eE,cT];refine k H1 _ F1 ?_;rw[hτ];exact S1 (gI.nI _ S0.fo j4 j4)|false=>
  simp?[Mn,du];simp![e1,nQ];refine{N,fA,_,sh,a,mp,kk,σ.out,rfl,F1,vU,PZ,yx,hat,by show X.es.length<50000;lia,j4,S0.fo,fun n hn=>?_,fun H' f' hf F'=>?_}
  .subst hn;exact(QP hx st).1
  refine k H' _ F' ?_;rw[hτ];exact S1 hf
inductive Xb(t:aE)(vs:List V)(H:Hp)(Q:VK)(E:XK):Prop|mk:∀N rA dx dA T M,vs=[.ref rA,.ref dA]->H rA=some (.am t.fU dx [])->aw N H->N rA=none->nD t N dA T M->(∀H' fd ks kl pg,ah (· =rA) H H'->H fd=none->(∀x∈ks,H x.2=none)->gX t N H' T M rA dA fd ks [kl] [pg] [M]->bI H H'->Q .aN H')->Xb t vs H Q E
theorem ajJ(T:Txt K mg t):aQ P w K mg base 2 t.Gk Cq (Xb t):=by
 exists T.acm,amj;obtain⟨N,rA,dx,dA,Tx,M,rfl,e,sN,nr,da,k⟩:=h;obtain⟨dd,pg,tA,v3,v4,ed,et,Hw,Hz,hml,o8⟩:=da;obtain⟨kl,rk⟩:=qP.of o8 Hz;refine{_,ak (bT (pv 0) (pv 1) rfl) (ak (bT (pv 0) wy rfl) (au (cj (bY (pv 0) T.oh.cl T.IU (JC T) hr (aq (pf 1) aA))))),?_};simp![e,ay,OX,eT];intro fd vP;have kh:rA≠fd:=aC (H:=_L.ae H rA (.am t.fU dx [("data",V.ref dA)])) ay vP;have HD:H fd=none:=by rwa[aj kh.symm]at vP
 have edH:H dA=some (.am t.fE dd (fj (.int 0) (.ref pg) (.ref tA) v3 v4)):=sN _ _ ed;have ndA:dA≠rA:=fun z=>by rw[z,nr]at ed;cases ed
 simp![aj kh,ay,gT,OX,eT];have b1:ah (· =rA) H (_L.ae (_L.ae (_L.ae H rA (.am t.fU dx [(Str.ofString "data",V.ref dA)])) fd (.dK [])) rA (.am t.fU dx (jZ (.ref dA) (.ref fd)))):=(ah.here.trans (ah.new vP)).trans ah.here;have AN:_L.ae (_L.ae (_L.ae H rA (.am t.fU dx [(Str.ofString "data",V.ref dA)])) fd (.dK [])) rA (.am t.fU dx (jZ (.ref dA) (.ref fd))) fd=some (.dK []):=by rw[aj kh.symm,ay]
 have nT:_L.ae (_L.ae (_L.ae H rA (.am t.fU dx [(Str.ofString "data",V.ref dA)])) fd (.dK [])) rA (.am t.fU dx (jZ (.ref dA) (.ref fd))) rA=some (.am t.fU dx (jZ (.ref dA) (.ref fd))):=ay;have D1:bI H (_L.ae (_L.ae (_L.ae H rA (.am t.fU dx [(Str.ofString "data",V.ref dA)])) fd (.dK [])) rA (.am t.fU dx (jZ (.ref dA) (.ref fd)))):=((bI.refl H).ae.ae).ae;obtain⟨H1,Pu⟩:∃H1,H1=_L.ae (_L.ae (_L.ae H rA (.am t.fU dx [(Str.ofString "data",V.ref dA)])) fd (.dK [])) rA (.am t.fU dx (jZ (.ref dA) (.ref fd))):={_,rfl};rw[←Pu]at b1 AN nT D1;rw[show _L.ae (_L.ae (_L.ae H rA (.am t.fU dx [(Str.ofString "data",V.ref dA)])) fd (.dK [])) rA (.am t.fU dx [(Str.ofString "data",V.ref dA),(Str.ofString "found",V.ref fd)])=H1 from Pu.symm];have nN:∀b o,N b=some o->b≠rA:=fun b o hb z=>by rw[z,nr]at hb;cases hb
 have R0:gX t N H1 Tx M rA dA fd [] [] [] []:={{(dx),nT},(DR.new AN).ext fun _=>rfl,trivial,fun m hm=>(by cases hm),fun n hn=>(by cases hn),hml,fun b o hb=>b1 b o (nN b o hb) (sN b o hb),fun b o hb=>{nN b o hb,aC (sN b o hb) HD,fun x hx=>(by cases hx)}};simp![nT,b1 _ _ ndA edH];refine{rfl,N,Tx,M,rA,dA,fd,[],[],[],[],pg,kl,M,rfl,R0,rk,fun n hn=>hn,by decide,fun H' ks' b r rX D=>k H' fd ks' kl pg (fun x o nx hx=>b x o (fun z=>?_) (b1 x o nx hx)) HD (fun x m=>?_) r (fun x hx=>D1 x (D x hx))}
 .rcases z with z |z
  .exact aC hx HD z
  cases z
 rcases rX x m with z |z
 .cases z
 exact D1 _ z
structure Nj(t:aE)(N H:Hp)(fA:U)(X:FX)(sh:Sh)(pg:U):Prop where
 ob:H fA=some (X.obj t)
 fl:∀pA P,nG t N pA P->cC t N (_L.ae H fA (FX.obj {X with pA:=pA,P:=P} t)) fA {X with pA:=pA,P:=P} sh
 at_:X.at_=0
 st:X.st=0
 f:X.f=yc
 bZ:X.bZ=[]
 eC:X.eC=[]
 es:X.es.length=1
 as:X.as=[pg]
 R:X.R=[X.M]
inductive WI(t:aE)(vs:List V)(H:Hp)(Q:VK)(E:XK):Prop|mk:∀N fA dx tD dA T M sh,vs=[.ref fA,.ref tD,.ref dA]->H fA=some (.am t.dj dx [])->aw N H->N fA=none->nD t N dA T M->u7 t N tD sh->(∀H' X pg,X.M=M->Nj t N H' fA X sh pg->u7 t N X.tD sh->ah (· =fA) H H'->Q .aN H')->WI t vs H Q E
theorem ajE(T:Txt K mg t):aQ P w K mg base 4 t.Fm B3 (WI t):=by
 exists T.abD,alX;obtain⟨N,fA,dx,tD,dA,Tx,M,sh,rfl,e,sN,nf,da,ku,k⟩:=h;have cD:=hr.mono (show 2<=3 by decide);refine{_,ak (bT (pv 0) (pv 1) rfl) (ak (bT (pv 0) (iu T.oh (ajJ T) hr (aq (pv 2) aA)) rfl) (ak (bT (pv 0) (wC T.mS (ajD T) cD) rfl) (ak (bT (pv 0) (fc aA) rfl) (ak (bT (pv 0) bV rfl) (ak (bT (pv 0) bV rfl) (ak (bT (pv 0) (fc aA) rfl) (au (bT (pv 0) (fc aA) rfl)))))))),?_};simp![e,ay,vF,eT,dE];have nN:∀{b:U} {o:HO},N b=some o->b≠fA:=fun{b o} hb z=>by rw[z,nf]at hb;cases hb
 generalize Pt:_L.ae H fA (.am t.dj dx [(Str.ofString "templates",V.ref tD)])=H0;have e0:H0 fA=some (.am t.dj dx [(Str.ofString "templates",V.ref tD)]):=by rw[←Pt,ay]
 have b0:ah (· =fA) H H0:=by rw[←Pt];exact ah.here
 have sN0:aw N H0:=fun b o hb=>b0 b o (nN hb) (sN b o hb);intro rA dr nr kh nrd;have R3:N rA=none:=gM sN0 nr;have hq:∀b o,N b=some o->_L.ae (_L.ae H0 dr (.own rA)) rA (.am t.fU dr []) b=some o:=fun b o hb=>by rw[aj (aC (sN0 b o hb) nr),aj (aC (sN0 b o hb) kh)];exact sN0 b o hb
 refine{N,rA,dr,dA,Tx,M,rfl,ay,hq,R3,da,fun H1 fd ks kl pg b1 vP hks r1 D1=>{rfl,?_}};have s1:aw H0 H1:=iq nr kh b1;have free1:∀{a:U},_L.ae (_L.ae H0 dr (.own rA)) rA (.am t.fU dr []) a=none->H0 a=none:=fun{a} h=>by cases ha:H0 a with|none=>rfl|some o=>rw[aj (aC ha nr),aj (aC ha kh),ha]at h;cases h
 have PY:=free1 vP;have hks0:∀x∈ks,H0 x.2=none:=fun x m=>free1 (hks x m);have e1:=s1 _ _ e0;simp![e1,vF,eT,dE];generalize lW:_L.ae H1 fA (.am t.dj dx [(Str.ofString "templates",V.ref tD),(Str.ofString "rounds",V.ref rA)])=H2;have e2:H2 fA=some (.am t.dj dx [(Str.ofString "templates",V.ref tD),(Str.ofString "rounds",V.ref rA)]):=by rw[←lW,ay]
 have b2:ah (· =fA) H1 H2:=by rw[←lW];exact ah.here
 intro oA dO no RR nod;refine{oA,dO,rfl,ay,fun H3 rw b3 nw F3=>{rfl,?_}};have s3:aw H2 H3:=iq no RR b3;have yZ:H2 rw=none:=by cases ha:H2 rw with|none=>rfl|some o=>rw[aj (aC ha no),aj (aC ha RR),ha]at nw;cases nw
 have e3:=s3 _ _ e2;simp![e3,vF,eT,dE];generalize rE:_L.ae H3 fA (.am t.dj dx [(Str.ofString "templates",V.ref tD),(Str.ofString "rounds",V.ref rA),(Str.ofString "form",V.ref oA)])=H4;have e4:H4 fA=some (.am t.dj dx [(Str.ofString "templates",V.ref tD),(Str.ofString "rounds",V.ref rA),(Str.ofString "form",V.ref oA)]):=by rw[←rE,ay]
 have b4:ah (· =fA) H3 H4:=by rw[←rE];exact ah.here
 intro pA np;have npf:fA≠pA:=aC e4 np;simp![aj npf,e4,ay,gT,vF,eT,dE];generalize Pw:_L.ae (_L.ae H4 pA (.ag [])) fA (.am t.dj dx [(Str.ofString "templates",V.ref tD),(Str.ofString "rounds",V.ref rA),(Str.ofString "form",V.ref oA),(Str.ofString "parts",V.ref pA),(Str.ofString "at",V.int 0),(Str.ofString "steps",V.int 0)])=H5;have e5:H5 fA=some (.am t.dj dx [(Str.ofString "templates",V.ref tD),(Str.ofString "rounds",V.ref rA),(Str.ofString "form",V.ref oA),(Str.ofString "parts",V.ref pA),(Str.ofString "at",V.int 0),(Str.ofString "steps",V.int 0)]):=by rw[←Pw,ay]
 have b5:ah (· =fA) H4 H5:=by rw[←Pw];exact(ah.new np).trans ah.here
 intro lA nl;have yS:fA≠lA:=aC e5 nl;simp![aj yS,e5,vF,eT,dE];generalize Ht:_L.ae (_L.ae H5 lA (.ag [])) fA (.am t.dj dx [(Str.ofString "templates",V.ref tD),(Str.ofString "rounds",V.ref rA),(Str.ofString "form",V.ref oA),(Str.ofString "parts",V.ref pA),(Str.ofString "at",V.int 0),(Str.ofString "steps",V.int 0),(Str.ofString "loops",V.ref lA)])=H6;have e6:H6 fA=some (.am t.dj dx [(Str.ofString "templates",V.ref tD),(Str.ofString "rounds",V.ref rA),(Str.ofString "form",V.ref oA),(Str.ofString "parts",V.ref pA),(Str.ofString "at",V.int 0),(Str.ofString "steps",V.int 0),(Str.ofString "loops",V.ref lA)]):=by rw[←Ht,ay]
 have b6:ah (· =fA) H5 H6:=by rw[←Ht];exact(ah.new nl).trans ah.here
 have OG:H6 lA=some (.ag []):=by rw[←Ht,aj yS.symm,ay]
 intro dC qu;have BN:fA≠dC:=aC e6 qu;simp![aj BN,e6,vF,eT,dE];obtain⟨X,hX⟩:∃X:FX,X=⟨dx,tD,rA,oA,pA,lA,dC,rw,dA,fd,[],0,0,yc,ks,[kl],[pg],[M],[],[],Tx,M⟩:={_,rfl};generalize Ba:_L.ae (_L.ae H6 dC (.ag [])) fA (.am t.dj dx (c9 (.ref tD) (.ref rA) (.ref oA) (.ref pA) (.int 0) (.int 0) (.ref lA) (.ref dC)))=H7;have afV:_L.ae (_L.ae H6 dC (.ag [])) fA (.am t.dj dx [(Str.ofString "templates",V.ref tD),(Str.ofString "rounds",V.ref rA),(Str.ofString "form",V.ref oA),(Str.ofString "parts",V.ref pA),(Str.ofString "at",V.int 0),(Str.ofString "steps",V.int 0),(Str.ofString "loops",V.ref lA),(Str.ofString "returns",V.ref dC)])=H7:=Ba;first
  |rw[afV]|skip
 have e7:H7 fA=some (X.obj t):=by rw[←Ba,ay,hX];rfl
 have b7:ah (· =fA) H6 H7:=by rw[←Ba];exact(ah.new qu).trans ah.here
 have ee7:H7 dC=some (.ag []):=by rw[←Ba,aj BN.symm,ay]
 have el7:=b7 _ _ yS.symm OG;have b37:ah (· =fA) H3 H7:=((b4.trans b5).trans b6).trans b7;have b17:ah (· =fA) H1 H7:=(b2.trans (aw.aP s3)).trans b37;have bH7:ah (· =fA) H H7:=(b0.trans (aw.aP s1)).trans b17;obtain⟨Op,nT⟩:=r1.ob;have ue:rA≠fA:=aC e0 nr |>.symm
 have rT:fd≠fA:=aC e0 PY |>.symm
 have nkf:∀x∈ks,x.2≠fA:=fun x m=>(aC e0 (hks0 x m)).symm;have BO:oA≠fA:=(aC e2 no).symm;have BR:rw≠fA:=(aC e2 yZ).symm;have r2:∀{b:U} {o:HO},b≠fA->H1 b=some o->H2 b=some o:=fun{b o} h q=>b2 b o h q;have r5:∀{b:U} {o:HO},b≠fA->H3 b=some o->H5 b=some o:=fun{b o} h q=>b5 b o h (b4 b o h q);have IP:=r2 ue nT;have IJ:=r2 rT r1.dr.dk;have lk2:∀x∈ks,H2 x.2=some (.ag (io [kl] x.1)):=fun x m=>r2 (nkf x m) (r1.dr.rw x.1 x.2 m);obtain⟨do3,jt⟩:=F3.ob;have Rj:=r5 ue (s3 _ _ IP);have Q9:=r5 rT (s3 _ _ IJ);have lk5:∀x∈ks,H5 x.2=some (.ag (io [kl] x.1)):=fun x m=>r5 (nkf x m) (s3 _ _ (lk2 x m));have Rg:=r5 BO jt;have Rl:=r5 BR F3.rw;have sN2:aw N H2:=fun b o hb=>r2 (nN hb) (s1 b o (sN0 b o hb));have sN5:aw N H5:=fun b o hb=>r5 (nN hb) (s3 b o (sN2 b o hb));have sN6:aw N H6:=fun b o hb=>b6 b o (nN hb) (sN5 b o hb);have ap:∀(pA':U) (P':PL),Ap {X with pA:=pA',P:=P'} fA:=fun pA' P'=>by
  rw[hX];refine{ue.symm,BO.symm,BR.symm,yS,BN,rT.symm,fun x m=>(nkf x m).symm,fun L m=>(by cases m),aC IP no,aC IP yZ,aC Rj nl,aC (b6 _ _ ue Rj) qu,cr nT r1.dr.dk (by intro z;cases z),fun x m=>cr nT (r1.dr.rw x.1 x.2 m) (by intro z;cases z),fun L m=>(by cases m),
   F3.ne,aC Rg nl,aC (b6 _ _ BO Rg) qu,(aC IJ no).symm,fun x m=>(aC (lk2 x m) no).symm,fun L m=>(by cases m),aC Rl nl,aC (b6 _ _ BR Rl) qu,(aC IJ yZ).symm,fun x m=>(aC (lk2 x m) yZ).symm,fun L m=>(by cases m),
   aC OG qu,(aC Q9 nl).symm,fun x m=>(aC (lk5 x m) nl).symm,fun L m=>(by cases m),(aC (b6 _ _ rT Q9) qu).symm,fun x m=>(aC (b6 _ _ (nkf x m) (lk5 x m)) qu).symm,fun L m=>(by cases m),fun x m=>(r1.dr.ne m).symm,fun L m=>(by cases m),r1.dr.na,fun x m L n=>(by cases n),uL}
 have frN:∀(pA':U) (P':PL),∀b∈FX.mut {X with pA:=pA',P:=P'} fA,N b=none:=fun pA' P' b m=>by
  rw[hX]at m;simp?[FX.mut,bw,cz,lF,qG,or_false]at m;rcases m with m |m |m |m |m |m |m |m
  .rwa[m]
  .rw[m];exact R3
  .rw[m];exact gM sN2 no
  .rw[m];exact gM sN2 yZ
  .rw[m];exact gM sN5 nl
  .rw[m];exact gM sN6 qu
  .rw[m];exact gM sN0 PY
  obtain⟨y,hy,rfl⟩:=bt.mp m;exact gM sN0 (hks0 y hy)
 refine k H7 X pg (by rw[hX]) {e7,fun pA' P' hp=>?_,by rw[hX],by rw[hX],by rw[hX],by rw[hX],by rw[hX],by rw[hX];rfl,by rw[hX],by rw[hX]} (by rwa[hX]) bH7;subst hX;have Az:=ah.here (H:=H7) (a:=fA) (o:=FX.obj {dx,tD,rA,oA,pA',lA,dC,rw,dA,fd,P',0,0,yc,ks,[kl],[pg],[M],[],[],Tx,M} t);exact{ay,ku,hp,r1.aP (b17.trans Az) ue rT nkf fun b o hb=>nN hb,da,F3.aP (b37.trans Az) BO BR,Az _ _ yS.symm el7,fun L m=>(by cases m),Az _ _ BN.symm ee7,fun r m=>(by cases m),fun r m=>(by cases m),(ap pA' P').nd,frN pA' P'}
inductive Xd(t:aE)(vs:List V)(H:Hp)(Q:VK)(E:XK):Prop|mk:∀N fA X sh pg n Pn c τ,vs=[.ref fA,S n]->Nj t N H fA X sh pg->u7 t N X.tD sh->aw N H->iA sh n=some Pn->Go sh (uc Pn X.M) c τ->iT τ->(∀H' X',cC t N H' fA X' sh->uX X' τ pg->Q .aN H')->Xd t vs H Q E
theorem akp(T:Txt K mg t):aQ P w K mg base 8 t.Fn B4 (Xd t):=by
 exists T.abE,alY;obtain⟨N,fA,X,sh,pg,n,Pn,c,τ,rfl,I,ku,sN,hg,go,fin,k⟩:=h;have e:=I.ob;unfold FX.obj at e;have bG:=hr.mono (show 1<=7 by decide);obtain⟨tp,dt,v1,v2,pA',tg,et,yt⟩:=Ye ku hg;refine{_,ak (bT (pv 0) (om (wx (k5 hr) (pf 0) (pv 1) (fun _ _=>rfl)) rfl) rfl)
  (au (pC PassesOwn.never (jD (fe (bW (cE (pv 0) T.k6.cl T.Rn (Sv T) bG))) (mh (fe (bW (cE (pv 0) T.k6.cl T.ahJ (aj1 T) bG))))).pt
   (au (cj (cE (pv 0) T.k6.cl T.ahL (aj4 T) hr))))),?_}
 simp![wR,e];refine{_,tg H sN,?_};simp![sN _ _ et,e];have F0:=I.fl pA' Pn yt;have eu:_L.ae H fA (.am t.dj X.dx (c9 (.ref X.tD) (.ref X.rA) (.ref X.oA) (.ref pA') (.int (X.at_:Int)) (.int (X.st:Int)) (.ref X.lA) (.ref X.dC)))=_L.ae H fA (FX.obj {X with pA:=pA',P:=Pn} t):=rfl;rw[eu];generalize _L.ae H fA (FX.obj {X with pA:=pA',P:=Pn} t)=H0 at F0⊢;have S0:uX {X with pA:=pA',P:=Pn} (uc Pn X.M) pg:={rfl,I.at_,I.st,I.R,by show X.as=X.bZ.map Lp.dB++[pg];rw[I.as,I.bZ];rfl,by show gI X.f [];rw[I.f];exact aeC,by show []=X.bZ.map _;rw[I.bZ];rfl,by show [X.M]=X.bZ.map Lp.rR++[X.M];rw[I.bZ];rfl,by show []=X.eC.map _;rw[I.eC];rfl,by show X.bZ.length<=0;rw[I.bZ];exact bR _,by show X.eC.length<=0;rw[I.eC];exact bR _,by show X.es.length=X.bZ.length+1;rw[I.es,I.bZ];rfl};refine su (fun m σ H'=>∃σm X',σ=[some (V.ref fA),some (S n)]/\Go sh σm m τ/\cC t N H' fA X' sh/\uX X' σm pg) {c,_,_,rfl,go,F0,S0} ?_;intro W Xc hW hX m σ H1 hw;obtain⟨σm,X1,rfl,g1,F1,S1⟩:=hw;have e1:=F1.ob;unfold FX.obj at e1;simp![e1];refine{N,fA,X1,sh,rfl,F1,_,rfl,?_};have done:iT σm->Q .aN H1:=fun hf=>by cases g1 with|nil=>exact k H1 X1 F1 S1|cons h _ _=>exact aJ hf h
 by_cases h1:20000<X1.st
 .rw[gG h1];simp?[zI,eE,cT];rw[hX];exact done (.inl (by rwa[←S1.s]))
 rw[dM h1];simp?[Mn,du];simp![e1];refine{N,fA,X1,sh,rfl,F1,_,rfl,?_};by_cases h2:X1.at_=X1.P.length/\X1.eC=[]
 .rw[gG h2];simp?[zI,eE,cT];rw[hX];refine done (.inr {by rw[←S1.a,←S1.p];exact h2.1,?_});rw[S1.rm,h2.2];rfl
 rw[dM h2];simp?[Mn,du];have nf:¬ iT σm:=fun z=>by
  rcases z with z |⟨z1,z2⟩
  .exact h1 (by rwa[S1.s])
  refine h2 {by rw[S1.a,S1.p];exact z1,?_};rw[S1.rm]at z2;exact List.map_eq_nil_iff.mp z2
 cases g1 with|nil=>exact aJ fin nf|@cons _ σ2 _ m2 _ st g2=>simp![e1];refine{Nx W _,fun _ _ h=>h,N,fA,sh,σm,σ2,X1,pg,rfl,F1,S1,nf,st,fun H2 X2 F2 S2=>{m2,gF _,?_}};rw[hW];exact{(σ2),X2,rfl,g2,F2,S2}
theorem BE(h:fL n=true):n.length<=16:=by unfold fL at h;rw[jJ]at h;exact of_decide_eq_true h.2
theorem X5:∀(n:Nat) {b z:aa} {as:List dF} {e:Bool},b.length<=n->gh wh b=some (as,e,z)->∀x∈as,x.1.length<=16
 |0,b,z,as,e,hn,h=>by have:b=[]:=jN.mp (by lia);subst this;rw[wU (by simp[front]) (by simp[front]) (by simp)]at h;cases h|n+1,b,z,as,e,hn,h=>by
  have ld:=(bB.dropWhile blank b).bu;cases h1:front [47,62] (b.dropWhile blank)with
  |some q=>
   rw[L6 h1]at h;injection h with h;injection h with h2 h3
   subst h2;intro x hx;cases hx
  |none=>
   cases h2:front [62] (b.dropWhile blank)with
   |some q=>
    rw[L9 h1 h2]at h;injection h with h;injection h with Hs h3
    subst Hs;intro x hx;cases hx
   |none=>
    by_cases h3:(b.dropWhile blank).length=b.length
    .rw[wU h1 h2 h3]at h;cases h
    cases h4:gk wh (b.dropWhile blank)with
    |none=>rw[L7 h1 h2 h4]at h;cases h|some y=>
     obtain⟨x,q⟩:=y;rw[L8 h1 h2 h3 h4]at h;have l4:=NL h4;have l5:=BE (xH h4).2.2;cases h5:gh wh q with
     |none=>rw[h5]at h;cases h|some y=>
      rw[h5]at h;have ih:=X5 n (b:=q) (z:=y.2.2) (as:=y.1) (e:=y.2.1) (by lia) h5;injection h with h;injection h with h6 h7
      subst h6;intro u hu;rcases bw.mp hu with rfl |hu
      .exact l5
      exact ih u hu
theorem am5{b:aa}{as:List dF}{e:Bool}(h:gS wh b=some (n,as,e,z)):∀x∈as,x.1.length<=16:=by
 rw[L4]at h;by_cases h0:bU b=[]
 .rw[az h0]at h;cases h
 rw[ao h0]at h;cases h1:gh wh (b.drop (bU b).length)with
 |none=>rw[h1]at h;cases h|some y=>
  rw[h1]at h;have l:=X5 _ (b:=b.drop (bU b).length) (z:=y.2.2) (as:=y.1) (e:=y.2.1) (bR _) h1;injection h with h;injection h with _ h
  subst h;exact l
def oH(mp:MP):Prop:=pQ mp/\Aq mp/\(iW mp).length<4000
def Ni:Ev->Prop
 |.aS n a _=>oH (.aS n a)|.cls n=>oH (.cls n)
 |.aU w n=>oH (.aU w n)|.use n=>oH (.use n)
 |_=>True
theorem yf(h1:∀h n,mp≠.aU h n)(h2:iW mp=[])(h3:(dI mp).length<=16):oH mp:={fun h n z=>aJ z (h1 h n),{h3,by rw[h2];intro x hx;cases hx},by rw[h2];decide}
theorem adN{b:aa}{e:Ev}(hb:b.length<=20000)(h:ev b=some (e,z)):Ni e:=by
 cases b with
 |nil=>cases h|cons c q=>
  have h0:=h;rw[OR]at h;split at h
  .rename_i hc;cases q with
   |nil=>cases h|cons d r=>
    by_cases rD:d=47
    .subst rD;have h:(front [125] r).map (fun q=>(Ev.fin,q))=some (e,z):=h;cases hf:front [125] r with|none=>rw[hf]at h;cases h|some y=>rw[hf]at h;injection h with h;injection h with h _;subst h;trivial
    rw[AF rD]at h;cases hn:gx r with
    |none=>rw[hn]at h;cases h|some y=>
     rw[hn]at h;have hl:=BE (yT (b:=r) (n:=y.1) (z:=y.2) hn).2.2;injection h with h;injection h with h _
     by_cases qc:d=62
     .rw[az qc]at h;subst h;exact yf (by simp) rfl hl
     rw[ao qc]at h;subst h;exact⟨fun w n z=>by injection z with z1 z2;rw[←z1];exact OQ (n:=y.1) h0,{hl,by intro x hx;cases hx},by show 0<4000;decide⟩
  split at h
  .cases hp:de true (dD true) (c::q)with|none=>rw[hp]at h;cases h|some y=>rw[hp]at h;injection h with h;injection h with h _;subst h;trivial
  cases hf:front [47] q with
  |some q2=>
   rw[hf]at h;simp?[iR]at h;cases he:ending q2 with
   |none=>rw[he]at h;cases h|some y=>
    rw[he]at h;injection h with h;injection h with h _;subst h
    exact yf (by simp) rfl (BE (AS (b:=q2) (n:=y.1) (z:=y.2) he).2.2)
  |none=>
   rw[hf]at h;simp?[jm]at h;cases ht:gS true q with
   |none=>rw[ht]at h;cases h|some y=>
    rw[ht]at h;injection h with h;injection h with h _;subst h
    have h1:=BE (L5 (b:=q) (n:=y.1) (a:=y.2.1) (e:=y.2.2.1) (z:=y.2.2.2) ht).2.2;have h2:=am5 (b:=q) (n:=y.1) (as:=y.2.1) (e:=y.2.2.1) (z:=y.2.2.2) ht;have h3:=X0 (b:=q) (n:=y.1) (as:=y.2.1) (e:=y.2.2.1) (z:=y.2.2.2) ht;simp?[bJ]at hb;exact{fun w n z=>(by cases z),{(h1),h2},by show y.2.1.length<4000;lia}
def Gd(ts:TS):Prop:=∀x∈ts.parts,oH x.1
theorem Gd.snoc{P:PL}{x:MP×Nat}{un:List Nat}{d:Nat}(h:Gd ts)(e:P=ts.parts++[x])(hx:oH x.1):Gd {(P),un,d}:=fun y m=>by
 have m:y∈P:=m;rw[e]at m;rcases cz.mp m with m |m
 .exact h y m
 have:y=x:=by simpa using m
 rwa[this]
theorem aaJ{e:Ev}(he:Ni e)(ha:app ts e=some ts')(h:Gd ts):Gd ts':=by
 cases e with
 |aS n a al=>
  cases al with
  |false=>injection ha with ha;subst ha;exact h.snoc rfl he
  |true=>injection ha with ha;subst ha;have h1:Gd (gJ ts (.aS n a)):=h.snoc rfl he;exact h1.snoc rfl (yf (by simp) rfl he.2.1.1)
 |cls n=>
  have ha:(if j6 ts n=true then some (iI ts n)else none)=some ts':=ha;split at ha
  .injection ha with ha;subst ha;exact h.snoc rfl he
  cases ha
 |bE l=>injection ha with ha;subst ha;exact h.snoc rfl (yf (by simp) rfl (by show 0<=16;decide))
 |aU w n=>injection ha with ha;subst ha;exact h.snoc rfl he
 |fin=>
  have ha:(if j5 ts=true then some (jX ts)else none)=some ts':=ha;split at ha
  .injection ha with ha;subst ha;intro y m;rcases cz.mp m with m |m
   .obtain⟨k',hm⟩:=V5 m;exact(h (y.1,k') hm:oH y.1)
   have:y=(.fin,ts.un.headD 0):=by simpa using m
   rw[this];exact yf (by simp) rfl (by show 0<=16;decide)
  cases ha
 |use n=>injection ha with ha;subst ha;exact h.snoc rfl he
theorem XX:∀(f:Nat) (b:aa) (ts t:TS),Gd ts->pN ts->b.length<=20000->iC f ts b=some t->Gd t/\t.parts.length<=ts.parts.length+2*b.length
 |0,_,_,_,_,_,_,h=>by cases h|f+1,[],ts,t,h,_,_,e=>by injection e with e;subst e;exact{h,by simp}
 |f+1,c::r,ts,t,h,hb,hl,e=>by unfold iC at e;cases h1:ev (c::r)with|none=>rw[h1]at e;cases e|some x=>obtain⟨ee,z⟩:=x;rw[h1]at e;simp?[bM]at e;have lz:=(xZ h1).2;cases h2:app ts ee with|none=>rw[h2]at e;cases e|some ts'=>rw[h2]at e;obtain⟨o1,o2,_⟩:=Au h1 h2 hb;obtain⟨g1,g2⟩:=XX f z ts' t (aaJ (adN hl h1) h2 h) o1 (by lia) e;exact{g1,by lia}
theorem anh{b:aa}{ts:TS}(hb:b.length<=20000)(h:ib b=some ts):xF ts/\∀x∈ts.parts,oH x.1:=by obtain⟨h1,h2⟩:=XX _ _ _ _ (fun x m=>by cases m) (fun x m=>by cases m) hb (Yb h).1;have h2:ts.parts.length<=0+2*b.length:=h2;exact{{fun x m=>(h1 x m).1,fun x m=>(h1 x m).2.2,by lia},h1}
noncomputable def jH(names:List aa)(mp:MP):Bool:=match ou mp with|some n=>decide (n ∉ names)|none=>false
def r9(ts:TS)(names:List aa):Int:=if (ts.parts.any fun x=>qE x.1)=true then-22 else if (decide (32<ts.depth) ||decide (1024<ts.parts.length) ||ts.parts.any fun x=>ke x.1)=true then-28 else if gL 0 (ts.parts.map (·.1))=true then-13 else if (ts.parts.any fun x=>jH names x.1)=true then-2 else 0
theorem anw(ok:pQ mp)(names:List aa):jH names mp=if S (kindOf mp)=V.str (Str.ofString "{>")then decide (dI mp ∉ names)else false:=by
 by_cases h:∃m,mp=.use m
 .obtain⟨m,rfl⟩:=h;rw[az (show S (kindOf (.use m))=V.str (Str.ofString "{>")from rfl)];rfl
 have h':∀m,mp≠.use m:=fun m z=>h {(m),z};rw[ao (BH ok h')];cases mp with|use m=>exact aJ rfl (h' m)|_=>rfl
inductive Xa(t:aE)(vs:List V)(H:Hp)(Q:VK)(E:XK):Prop|mk:∀tp ts tD,∀(tps:List (aa×U)),vs=[.ref tp,.ref tD]->oM t H tp ts->xF ts->H tD=some (.dK (tps.map fun x=>(bf x.1,V.ref x.2)))->(∀H',aw H H'->Q (.int (r9 ts (tps.map (·.1)))) H')->Xa t vs H Q E
theorem ako(T:Txt K mg t):aQ P w K mg base 4 t.Hb KC (Xa t):=by
 exists T.adm,Lo;obtain⟨tp,ts,tD,tps,rfl,hT,ok,hD,k⟩:=h;have bG:=hr.mono (show 1<=3 by decide);have cD:=hr.mono (show 2<=3 by decide);refine{_,ak (bA (bW (dh (akE T) T.aeT cD (aq (pv 0) aA))) (au (aM (bS T.QL))) bH)
  (ak (bA (bW (dh (akb T) T.aeV bG (aq (pv 0) aA))) (au (aM (bS T.vW))) bH)
  (ak (bA (bW (dh (aj2 T) T.aeS hr (aq (pv 0) aA))) (au (aM (bS T.agy))) bH)
  (ak (bA (bW (mU (vk rfl) (by rfl) T.ve vh (aq (qx (own:=[("part",2)]) (te:=zt (pF qz (kt K (dz 2) "kind") (tC (.str "{>"))) (pE (kt K (dz 2) "name") (dz 1))) rfl Lo.nd (l8 (pf 0)) (oO (by rfl)) (fun _ _ _ _ _=>gq (i:=2) Lo.nd rfl (bx rfl)) (fun _ _ _ _ _=>qy)
   (fun _ _ _ _ _=>wu (fw cV (pf 2) (gf T.wJ) (bD _)) (oq (SV (KI (k5 hr) (pf 2) (pv 1)))))) aA))) (au (aM (bS T.Iu))) bH)
  (au (aM bV))))),?_}
 unfold r9 at k;simp![bC];refine{tp,ts,rfl,hT,ok,fun H1 s1=>{_,rfl,?_}};show if (ts.parts.any fun x=>qE x.1)=true then _ else _
 by_cases c1:(ts.parts.any fun x=>qE x.1)=true
 .rw[az c1]at k⊢;exact k H1 s1
 rw[ao c1]at k⊢;simp![bC];refine{tp,ts,rfl,hT.mono s1,ok,fun H2 s2=>{_,rfl,?_}};show if (decide (32<ts.depth) ||decide (1024<ts.parts.length) ||ts.parts.any fun x=>ke x.1)=true then _ else _
 by_cases c2:(decide (32<ts.depth) ||decide (1024<ts.parts.length) ||ts.parts.any fun x=>ke x.1)=true
 .rw[az c2]at k⊢;exact k H2 (s1.trans s2)
 rw[ao c2]at k⊢;simp![bC];refine{tp,ts,rfl,(hT.mono s1).mono s2,ok,fun H3 s3=>{_,rfl,?_}};have s03:=(s1.trans s2).trans s3;show if gL 0 (ts.parts.map (·.1))=true then _ else _
 by_cases c3:gL 0 (ts.parts.map (·.1))=true
 .rw[az c3]at k⊢;exact k H3 s03
 rw[ao c3]at k⊢;obtain⟨dx,pA,uA,pa,e,hp,hl,hat⟩:=hT.mono s03;simp![bC];refine{_,rfl,tp,_,_,_,_,rfl,e,T.j7.cl,T.u9,x6 ..,pA,rfl,{_,aB.of hp},fun D A9=>yG (K:=K) (xs:=pa.map V.ref) ((ts.parts.map fun x=>jH (tps.map (·.1)) x.1).map V.bl) A9 hp (by simp[hl]) (by simp?[bL];have:=ok.sz;exact cx (by lia)) ?_ ?_}
 .intro i x y H' F Z hx hy s4 kF;obtain⟨a,ha,rfl⟩:=pj hx;rw[ic]at hy;obtain⟨z,hz,rfl⟩:=pj hy;obtain⟨o,ea,dp,lA,adr,wv,pk,rfl,h1,h2,h3,h4⟩:=(hat i a z ha hz).same s4;have lZ:F (V.bl (jH (tps.map (·.1)) z.1)) H':=kF H' (aw.refl _);rw[anw (ok.bk z (fh hz))]at lZ;simp![cu,je,ea,pE];refine{rfl,?_};by_cases hk:S (kindOf z.1)=V.str (Str.ofString "{>")
  .simp![cu,je,ea,pE];rw[az hk]at lZ⊢;obtain⟨o2,g1,g2⟩:=xP (s4 _ _ (s03 _ _ hD)) (dI z.1);simp![cu,je,ea,pE];refine{_,g1,?_};rwa[g2,←decide_not]
  simp![cu,je,ea,pE];rw[ao hk]at lZ⊢;exact lZ
 intro H' s4 qd;refine{D,_,rfl,aB.of qd,_,rfl,?_};have:((ts.parts.map fun x=>jH (tps.map (·.1)) x.1).any id)=ts.parts.any fun x=>jH (tps.map (·.1)) x.1:=by rw[qF];rfl
 rw[this];cases c4:ts.parts.any fun x=>jH (tps.map (·.1)) x.1 with|true=>rw[az c4]at k;simp![bC];exact k H' (s03.trans s4)|false=>rw[ao (by rw[c4];decide)]at k;simp![bC];exact k H' (s03.trans s4)
structure MT where
 n:aa
 a:U
 ts:TS
noncomputable def eQ(l:List MT):List (aa×U):=l.map fun m=>(m.n,m.a)
def cv(l:List MT):Kp173.Abs:=l.map fun m=>(m.n,cn m.ts.parts)
noncomputable def m6(l:List MT):Sh:=l.map fun m=>(m.n,m.ts.parts)
theorem pB(l:List MT):(eQ l).map (·.1)=l.map MT.n:=by unfold eQ;rw[ic];rfl
theorem NC(l:List MT)(n:aa):((cv l).any fun q=>q.1==n)=decide (n∈l.map MT.n):=by
 unfold cv;rw[qF];by_cases h:n∈l.map MT.n
 .rw[gG h,sy];obtain⟨m,hm,e⟩:=bt.mp h;exact{m,hm,by simp[e]}
 rw[dM h,DF];intro m hm z;have:m.n=n:=by simpa using z
 exact h (bt.mpr {(m),hm,this})
theorem anB{b:aa}(l:List MT):((DC (cn ts.parts)).all fun x=>(cv l).any fun q=>q.1==x)=!(ts.parts.any fun x=>jH (l.map MT.n) x.1):=by
 rw[Ym];have:(fun x=>(cv l).any fun q=>q.1==x)=fun x=>decide (x∈l.map MT.n):=by funext x;exact NC l x
 rw[this];generalize ts.parts=P;induction P with
 |nil=>rfl|cons x P ih=>
  rw[DG,pI,Bool.not_or];cases h:ou x.1 with
  |none=>rw[show jH (l.map MT.n) x.1=false by unfold jH;rw[h]];simpa using ih|some n=>
   rw[show jH (l.map MT.n) x.1=decide (n ∉ l.map MT.n) by unfold jH;rw[h]];rw[DE,ih];congr 1;by_cases hm:n∈l.map MT.n
   .simp[hm]
   simp[hm]
theorem aaE(l:List MT)(nb row:aa):act (cv l) (.put nb (if row.length<=8192 then some row else none))=
  if fL nb=false then (cv l,.num (-22))else if nb∈l.map MT.n then (cv l,.num (-17))else if 32<=l.length∨8192<row.length then (cv l,.num (-28))else (ib row).elim (cv l,.num (-71)) fun ts=>if r9 ts (l.map MT.n)<0 then (cv l,.num (r9 ts (l.map MT.n)))else (cv l++[(nb,cn ts.parts)],.num ((l.length+1:Nat):Int)):=by
 have la:(cv l).length=l.length:=by simp[cv]
 unfold act;dsimp only;by_cases h1:fL nb=false
 .rw[az h1,az h1]
 rw[ao h1,ao h1,NC];by_cases h2:nb∈l.map MT.n
 .rw[az (gG h2),az h2]
 rw[ao (by rw[dM h2];decide),ao h2];by_cases h3:row.length<=8192
 .rw[az h3];dsimp only;rw[la];by_cases h4:32<=l.length
  .rw[az (show aoy<=l.length from h4),az (show 32<=l.length∨8192<row.length from .inl h4)]
  rw[ao (show ¬(32<=l.length∨8192<row.length) by lia)];rw[ao (show ¬ aoy<=l.length from h4)];rw[ani];cases ht:ib row with
  |none=>rfl|some ts=>
   simp?[iD,iR];rw[anv,anl ht,anG ht,anB (b:=row)];unfold r9;cases c1:ts.parts.any fun x=>qE x.1 with|true=>simp|false=>
   simp?[eE,cT];cases c2:(decide (32<ts.depth) ||decide (1024<ts.parts.length) ||ts.parts.any fun x=>ke x.1)with|true=>simp|false=>
   simp?[eE,cT];cases c3:gL 0 (ts.parts.map (·.1))with|true=>simp|false=>
   simp?[eE,cT];cases c4:ts.parts.any fun x=>jH (l.map MT.n) x.1 with|true=>simp|false=>simp
 rw[ao h3,az (show 32<=l.length∨8192<row.length by lia)]
structure fP(t:aE)(N H:Hp)(mA tD:U)(l:List MT):Prop where
 ob:∃dx,H mA=some (.am t.pY dx (p7 (.ref tD)))
 dk:H tD=some (.dK ((eQ l).map fun x=>(bf x.1,V.ref x.2)))
 nd:(l.map MT.n).Nodup
 at_:∀m∈l,oM t N m.a m.ts
 gd:∀m∈l,xF m.ts/\(∀x∈m.ts.parts,oH x.1/\(iW x.1).length<=8)/\Code m.ts.parts 0 m.ts.parts.length [] [] (m.ts.parts.map (·.1))/\fL m.n=true
 us:∀m∈l,∀n,MP.use n∈m.ts.parts.map (·.1)->n∈l.map MT.n
 sm:aw N H
 n1:N mA=none
 n2:N tD=none
 ln:l.length<=32
theorem fP.same{l:List MT}(h:fP t N H mA tD l)(s:aw H H'):fP t N H' mA tD l:=by obtain⟨dx,e⟩:=h.ob;exact{{dx,s _ _ e},s _ _ h.dk,h.nd,h.at_,h.gd,h.us,fun b o hb=>s b o (h.sm b o hb),h.n1,h.n2,h.ln}
theorem fP.ne{l:List MT}(h:fP t N H mA tD l):mA≠tD:=by obtain⟨dx,e⟩:=h.ob;exact cr e h.dk (by intro z;cases z)
theorem Mi{nb:aa}:jI nb=[]↔fL nb=false:=by
 rw[Yu];by_cases h:fL nb=true
 .rw[az h];constructor
  .intro z;rw[z]at h;cases h
  intro z;rw[h]at z;cases z
 rw[ao h];simpa using h
theorem zE{nb:aa}(h:fL nb=true):jI nb=nb:=by rw[Yu,az h]
def Fo(mA tD:U)(H H':Hp):Prop:=ah (fun b=>b=mA∨b=tD) H H'/\bI H H'
theorem Fo.same(s:aw H H'):Fo mA tD H H':={aw.aP s,(bI.refl H).same s}
inductive W4(t:aE)(vs:List V)(H:Hp)(Q:VK)(E:XK):Prop|mk:∀N mA tD l nb R row,vs=[.ref mA,S (jI nb),.ref R]->fP t N H mA tD l->H R=some (.ag (vb row))->row.length<=20000->(∀H' N' l' z,fP t N' H' mA tD l'->act (cv l) (.put nb (if row.length<=8192 then some row else none))=(cv l',.num z)->Fo mA tD H H'->(∀b o,H b=some o->N b=none->N' b=none)->Q (.int z) H')->W4 t vs H Q E
theorem aie(h:ke mp=false):(iW mp).length<=8:=by cases mp with|aS n a=>have:=of_decide_eq_false h;show a.length<=8;lia|_=>show 0<=8;decide
theorem anx{names:List aa}{P:PL}(h:(P.any fun x=>jH names x.1)=false)(hu:MP.use n∈P.map (·.1)):n∈names:=by obtain⟨x,hx,e⟩:=bt.mp hu;have:=DF.mp h x hx;rw[e]at this;have:¬ decide (n ∉ names)=true:=this;simpa using this
theorem akc(T:Txt K mg t):aQ P w K mg base 14 t.FA JV (W4 t):=by
 exists T.abP,K8;obtain⟨N,mA,tD,l,nb,R,row,rfl,M,hR,hJ,k⟩:=h;obtain⟨dm,eo⟩:=M.ob;rw[aaE]at k;have lY:=hr.mono (show 4<=13 by decide);refine{_,ak (bA (cg cV (pv 1) cM (bD _)) (au (aM (bS T.agM))) bH)
  (ak (bA (ot (SG (k5 hr) (pv 1) (pf 0))) (au (aM (bS T.agH))) bH)
  (ak (bA (iN (cg JF (cN qU T.cK (pf 0)) (bS T.agE) (bD _)) (jE (cg gp (cN dH T.cK (pv 2)) (bS T.agF) (bD _)))).pt (au (aM (bS T.vW))) bH)
  (ak (b9 (i:=3) K8.nd rfl (bx rfl) (dh (akl T) T.ae5 hr (aq (pv 2) aA)))
  (ak (bA (ot (wt (pv 3))) (au (aM (bS T.yB))) bH)
  (ak (b9 (i:=4) K8.nd rfl (bx rfl) (dh (ako T) T.ae8 lY (aq (pv 3) (aq (pf 0) aA))))
  (ak (bA (cg y4 (pv 4) bV (bD _)) (au (aM (pv 4))) bH)
  (ak (Th (k5 hr) (pf 0) (pv 1) (pv 3) rfl)
  (au (aM (cN qU T.cK (pf 0))))))))))),?_}
 simp![eo,lx];refine{rfl,?_};have A3:Fo mA tD H H:=Fo.same (aw.refl _);by_cases hn:fL nb=false
 .rw[az hn]at k;simp![eo,lx];rw[az (show S (jI nb)=V.str (Str.ofString "") by rw[Mi.mpr hn];rfl)];exact k H N l _ M rfl A3 (fun _ _ _ h=>h)
 rw[ao hn]at k;have Bq:fL nb=true:=by simpa using hn
 simp![eo,lx];rw[ao (show ¬ S (jI nb)=V.str (Str.ofString "")from fun z=>hn (Mi.mp (lL z)))];rw[zE Bq];obtain⟨o,g1,g2⟩:=xP M.dk nb;rw[pB]at g2;simp![eo,lx];refine{o,g1,?_};rw[g2];by_cases hin:nb∈l.map MT.n
 .rw[az hin]at k;rw[az (gG hin)];exact k H N l _ M rfl A3 (fun _ _ _ h=>h)
 rw[ao hin]at k;rw[ao (by rw[dM hin];decide)];have hpl:((eQ l).map fun x=>(bf x.1,V.ref x.2)).length=l.length:=by simp[eQ]
 simp![eo,lx];refine{_,M.dk,?_};rw[hpl];by_cases Pr:32<=l.length
 .rw[az (show 32<=l.length∨8192<row.length from .inl Pr)]at k;simp![eo,lx];rw[az (by lia)];exact k H N l _ M rfl A3 (fun _ _ _ h=>h)
 simp![eo,lx];rw[ao (by lia)];simp![eo,lx];refine{_,.inl (aB.of hR),?_};rw[eD];by_cases h8:8192<row.length
 .rw[az (show 32<=l.length∨8192<row.length from .inr h8)]at k;simp![eo,lx];rw[az (by lia)];exact k H N l _ M rfl A3 (fun _ _ _ h=>h)
 rw[ao (show ¬(32<=l.length∨8192<row.length) by lia)]at k;simp![eo,lx];rw[ao (by lia)];simp![eo,lx];refine{R,row,rfl,hR,hJ,?_};cases ht:ib row with
 |none=>rw[ht]at k;intro H1 s1;simp![];exact k H1 N l _ (M.same s1) rfl (Fo.same s1) (fun _ _ _ h=>h)|some ts=>
  rw[ht]at k;simp?[iR]at k;intro H1 tp s1 hT;simp![];rw[ao (by intro z;cases z)];have M1:=M.same s1;obtain⟨dm1,rb⟩:=M1.ob;obtain⟨ok,afd⟩:=anh hJ ht;have sn:aw (aH H H1) H1:=fun b o hb=>aH.of hb;simp![rb];refine{tp,ts,tD,eQ l,rfl,hT.mono sn,ok,M1.dk,fun H2 s2=>?_};rw[pB];have s02:=s1.trans s2;have M2:=M1.same s2;simp![bC];by_cases hz:r9 ts (l.map MT.n)<0
  .rw[az hz]at k⊢;simp![bC];exact k H2 N l _ M2 rfl (Fo.same s02) (fun _ _ _ h=>h)
  rw[ao hz]at k⊢;obtain⟨AL,lS⟩:=M2.ob;simp![K2,lS];have tS:iM ((eQ l).map fun x=>(bf x.1,V.ref x.2)) (bf nb) (V.ref tp)=(eQ l).map (fun x=>(bf x.1,V.ref x.2))++[(bf nb,V.ref tp)]:=CM _ (by
   rw[m7];rcases mK (hs:=eQ l) (n:=nb)with⟨a,h1,h2⟩ |⟨h1,h2⟩
   .exact aJ (by rw[←pB];exact bt.mpr {_,h2,rfl}) hin
   rw[h1];rfl)
  refine{_,.inl {_,bf nb,M2.dk,rfl,by rw[hpl];exact cx (by lia),rfl},?_};rw[tS];have hne:=M2.ne;simp![aj hne,lS];refine{_,ay,?_};have hl1:((eQ l).map (fun x=>(bf x.1,V.ref x.2))++[(bf nb,V.ref tp)]).length=l.length+1:=by simp[eQ]
  rw[hl1];have rG:∀b o,N b=some o->aH H H1 b=none:=fun b o hb=>by cases hx:aH H H1 b with|none=>rfl|some o'=>have:=aH.free hx;rw[M.sm b o hb]at this;cases this
  have Ik:r9 ts (l.map MT.n)=0/\(ts.parts.any fun x=>ke x.1)=false/\(ts.parts.any fun x=>jH (l.map MT.n) x.1)=false:=by
   unfold r9 at hz⊢;by_cases c1:(ts.parts.any fun x=>qE x.1)=true
   .rw[az c1]at hz;exact aJ (by decide) hz
   rw[ao c1]at hz⊢;by_cases c2:(decide (32<ts.depth) ||decide (1024<ts.parts.length) ||ts.parts.any fun x=>ke x.1)=true
   .rw[az c2]at hz;exact aJ (by decide) hz
   rw[ao c2]at hz⊢;by_cases c3:gL 0 (ts.parts.map (·.1))=true
   .rw[az c3]at hz;exact aJ (by decide) hz
   rw[ao c3]at hz⊢;by_cases c4:(ts.parts.any fun x=>jH (l.map MT.n) x.1)=true
   .rw[az c4]at hz;exact aJ (by decide) hz
   rw[ao c4];refine{rfl,?_,by simpa using c4};cases hm:ts.parts.any fun x=>ke x.1 with|false=>rfl|true=>rw[hm,Mp]at c2;exact aJ rfl c2
  have sU:aw (mn N (aH H H1)) (_L.ae H2 tD (.dK ((eQ l).map (fun x=>(bf x.1,V.ref x.2))++[(bf nb,V.ref tp)]))):=fun b o hb=>by
   have vM:b≠tD:=fun z=>by
    rcases Dt hb with q |q
    .rw[z,M.n2]at q;cases q
    have:=aH.free q;rw[z,M.dk]at this;cases this
   rw[aj vM];rcases Dt hb with q |q
   .exact s02 b o (M.sm b o q)
   exact s2 b o (aH.of q)
  refine k _ (mn N (aH H H1)) (l++[{(nb),tp,ts}]) _ {{AL,by rw[aj hne];exact lS},by rw[ay];simp[eQ],?_,fun m hm=>?_,fun m hm=>?_,fun m hm n hn=>?_,sU,?_,?_,by simp;lia} ?_ ?_ (fun b o hb hN=>wX hN (by cases hx:aH H H1 b with|none=>rfl|some o'=>have:=aH.free hx;rw[hb]at this;cases this))
  .rw[dJ,jj];refine{M.nd,by simp,fun a ha b hb=>?_};have:b=nb:=by simpa using hb
   subst this;exact fun z=>hin (z▸ha)
  .rcases cz.mp hm with hm |hm
   .exact(M.at_ m hm).mono (Yk _ _)
   have:m={(nb),tp,ts}:=by simpa using hm
   subst this;refine hT.mono (Yl fun b o hb=>?_);cases hx:N b with|none=>rfl|some o'=>rw[rG b o' hx]at hb;cases hb
  .rcases cz.mp hm with hm |hm
   .exact M.gd m hm
   have:m={(nb),tp,ts}:=by simpa using hm
   subst this;exact{ok,fun x hx=>{afd x hx,aie (by have:=DF.mp Ik.2.1 x hx;simpa using this)},Ya ht,Bq}
  .rw[dJ];rcases cz.mp hm with hm |hm
   .exact nh _ (M.us m hm n hn)
   have:m={(nb),tp,ts}:=by simpa using hm
   subst this;exact nh _ (anx Ik.2.2 hn)
  .refine wX M.n1 ?_;cases hx:aH H H1 mA with|none=>rfl|some o'=>have:=aH.free hx;rw[eo]at this;cases this
  .refine wX M.n2 ?_;cases hx:aH H H1 tD with|none=>rfl|some o'=>have:=aH.free hx;rw[M.dk]at this;cases this
  .simp[cv]
  exact{(aw.aP s02).trans (ah.ae (.inr rfl)),((bI.refl H).same s02).ae}
inductive Xh(t:aE)(vs:List V)(H:Hp)(Q:VK)(E:XK):Prop|mk:∀N mA tD l,vs=[.ref mA]->fP t N H mA tD l->(∀H' N' tD',H tD'=none->fP t N' H' mA tD' []->Fo mA tD H H'->(∀b,N' b=none)->Q (.int 0) H')->Xh t vs H Q E
theorem akt(T:Txt K mg t):aQ P w K mg base 1 t.FC Cb (Xh t):=by exists T.abQ,al5;obtain⟨N,mA,tD,l,rfl,M,k⟩:=h;obtain⟨dm,eo⟩:=M.ob;refine{_,ak (bT (pv 0) wy rfl) (au (aM bV)),?_};simp![eo];intro d hd;have n1:mA≠d:=aC eo hd;simp![aj n1,eo];refine k _ (fun _=>none) d hd {{(dm),ay},by rw[aj n1.symm,ay];rfl,uL,fun m hm=>(by cases hm),fun m hm=>(by cases hm),fun m hm=>(by cases hm),fun b o hb=>(by cases hb),rfl,rfl,by decide} {(ah.new hd).trans (ah.ae (.inl rfl)),(bI.refl H).ae.ae} (fun _=>rfl)
variable{l:List MT}
theorem OT(l:List MT)(n:aa):((cv l).find? fun q=>q.1==n)=(l.find? fun m=>m.n==n).map fun m=>(m.n,cn m.ts.parts):=by unfold cv;rw[My];rfl
theorem He(h:n∈l.map MT.n):∃m,(l.find? fun m=>m.n==n)=some m/\m∈l/\m.n=n:=by cases hf:l.find? fun m=>m.n==n with|none=>obtain⟨m,hm,e⟩:=bt.mp h;have:=YI.mp hf m hm;exact aJ (by simpa using e) this|some m=>exact{m,rfl,DI hf,by simpa using YJ hf}
theorem OU(h:n ∉ l.map MT.n):(l.find? fun m=>m.n==n)=none:=YI.mpr fun m hm z=>h (bt.mpr {m,hm,by simpa using z})
theorem aaH(l:List MT)(n:aa):((cv l).any fun q=>(DC q.2).contains n)=l.any fun m=>kx m.ts n:=by
 unfold cv;rw[qF];congr 1;funext m;show(DC (cn m.ts.parts)).contains n=kx m.ts n;rw[Ym];unfold kx;generalize m.ts.parts=P;induction P with
 |nil=>rfl|cons x P ih=>
  rw[DG,pI];cases h:ou x.1 with
  |none=>simpa using ih|some k=>
   simp?[aoI,ih];congr 1;by_cases e:k=n
   .subst e;simp
   have:n≠k:=fun z=>e z.symm;simp[e,this]
theorem aaF(l:List MT)(nb:aa):act (cv l) (.take nb)=if nb∈l.map MT.n then (if (l.any fun m=>kx m.ts nb)=true then (cv l,.num (-16))else (cv (l.filter fun m=>m.n !=nb),.num ((l.length-1:Nat):Int)))else (cv l,.num (-2)):=by
 unfold act;dsimp only;rw[OT,aaH];by_cases h:nb∈l.map MT.n
 .obtain⟨m,h1,h2,h3⟩:=He h;rw[h1,az h];simp?[iD];split
  .rfl
  have:(cv l).filter (fun q=>q.1 !=nb)=cv (l.filter fun m=>m.n !=nb):=by unfold cv;rw[aoQ];rfl
  rw[this];simp[cv]
 rw[OU h,ao h];rfl
theorem fP.wn(M:fP t N H mA tD l)(nb:aa):jI nb∈l.map MT.n↔nb∈l.map MT.n:=by
 constructor
 .intro h;obtain⟨m,hm,e⟩:=bt.mp h;have h1:=(M.gd m hm).2.2.2;rw[e]at h1;by_cases hn:fL nb=true
  .rwa[zE hn]at h
  rw[Mi.mpr (by simpa using hn)]at h1;cases h1
 intro h;obtain⟨m,hm,e⟩:=bt.mp h;have h1:=(M.gd m hm).2.2.2;rw[e]at h1;rwa[zE h1]
inductive Xn(t:aE)(vs:List V)(H:Hp)(Q:VK)(E:XK):Prop|mk:∀N mA tD l nb,vs=[.ref mA,S (jI nb)]->fP t N H mA tD l->(∀H' l' z,fP t N H' mA tD l'->act (cv l) (.take nb)=(cv l',.num z)->Fo mA tD H H'->Q (.int z) H')->Xn t vs H Q E
theorem aku(T:Txt K mg t):aQ P w K mg base 2 t.FD JW (Xn t):=by
 exists T.abR,K9;obtain⟨N,mA,tD,l,nb,rfl,M,k⟩:=h;obtain⟨dm,eo⟩:=M.ob;rw[aaF]at k;refine{_,ak (bA (ot (KI (k5 hr) (pv 1) (pf 0))) (au (aM (bS T.Iu))) bH)
  (ak (bA (bW (mU (vk rfl) (by rfl) T.ve vh (aq (SX (qx (own:=[("template",2)]) (te:=qB t.g9 "uses" (LB t) [] E0 (dz 2) (lw (dz 1) gQ)) rfl K9.nd (ak8 (pf 0)) (oO (by rfl)) (fun _ _ _ _ _=>gq (i:=2) K9.nd rfl (bx rfl)) (fun _ _ _ _ _=>qy)
   (fun _ _ _ _ _=>bY (pv 2) T.j7.cl T.ah8 (akF T) hr (aq (pv 1) aA)))) aA))) (au (aM (bS T.agA))) bH)
  (ak (cj (akX (pf 0) (pv 1) {(rfl),rfl,rfl,rfl}))
  (au (aM (cN qU T.cK (pf 0)))))),?_}
 simp![eo,pE];obtain⟨o,g1,g2⟩:=xP M.dk (jI nb);rw[pB]at g2;refine{o,g1,?_};rw[g2];by_cases hin:nb∈l.map MT.n
 .rw[az hin]at k;have HI:=(M.wn nb).mpr hin;have By:jI nb=nb:=by obtain⟨m,hm,e⟩:=bt.mp hin;have h1:=(M.gd m hm).2.2.2;rw[e]at h1;exact zE h1
  rw[ao (by rw[gG HI];decide)];simp![eo,pE];refine{tD,_,M.dk,trivial,fun od=>?_};generalize gO:_L.ae H tD (.br od (.dK ((eQ l).map fun x=>(bf x.1,V.ref x.2))))=Hl;have oR:Hl tD=some (.br od (.dK ((eQ l).map fun x=>(bf x.1,V.ref x.2)))):=by rw[←gO,ay]
  have bl:ah (· =tD) H Hl:=by rw[←gO];exact ah.here
  have sNl:aw N Hl:=fun b o hb=>bl b o (fun z=>by rw[z,M.n2]at hb;cases hb) (M.sm b o hb);have el:Hl mA=some (.am t.pY dm (p7 (.ref tD))):=bl _ _ M.ne eo;have hlen:((eQ l).map fun x=>(bf x.1,V.ref x.2)).length=l.length:=by simp[eQ]
  refine{_,rfl,mA,_,_,_,_,rfl,el,T.tY.cl,T.Nv,aen ..,tD,od,_,rfl,oR,fun D hD=>Q7 (n:=l.length) (val:=fun i x=>∃m,l[i]?=some m/\x=V.ref m.a)
   (fun i H'=>aw Hl H'/\H' D=some (.ag (((l.take i).map fun m=>kx m.ts nb).map V.bl)))
   {aw.new hD,by rw[ay];rfl} (fun i H' hi hp=>{hp.1 _ _ oR,by rw[hlen];exact hi}) (fun H' hp=>{hp.1 _ _ oR,by rw[hlen];exact bR _}) (fun i H' x oI hi _ hy=>?_) ?_ ?_}
  .obtain⟨e1,kk,e2⟩:=hy;refine{e1.symm,?_};rw[dQ]at e2;unfold eQ at e2;rw[dQ]at e2;cases hx:l[i]? with
   |none=>rw[hx]at e2;cases e2|some m=>
    rw[hx]at e2;injection e2 with e2;injection e2 with e2 e3
    exact{(m),rfl,e3.symm}
  .rintro i x H1 hi ⟨m,hg,rfl⟩ ⟨s1,h1⟩;have hm:=fh hg;have hT:=((M.at_ m hm).mono sNl).mono s1;have hT0:=hT;obtain⟨dx,pA,uA,pa,et,_⟩:=hT;have htk:(l.take (i+1)).map (fun m=>kx m.ts nb)=(l.take i).map (fun m=>kx m.ts nb)++[kx m.ts nb]:=by rw[jO,hg,dJ];rfl
   simp![cu,je,et];refine{m.a,m.ts,nb,by rw[By],hT0,(M.gd m hm).1,fun H2 s2=>{_,s2 _ _ h1,?_,fun b o hb=>?_,?_}}
   .simp?[bL,nc];have:=M.ln;exact cx (by lia)
   .rw[aj (aC hb hD)];exact s2 b o (s1 b o hb)
   rw[ay,htk,dJ];rfl
  rintro H1 ⟨s1,h1⟩;rw[kJ]at h1;refine{s1 _ _ oR,?_};have RK:D≠tD:=(aC oR hD).symm;have s2:aw H (_L.ae H1 tD (.dK ((eQ l).map fun x=>(bf x.1,V.ref x.2)))):=fun b o hb=>by
   by_cases vM:b=tD
   .rw[vM,M.dk]at hb;rwa[vM,ay]
   rw[aj vM];exact s1 b o (bl b o vM hb)
  have A9:_L.ae H1 tD (.dK ((eQ l).map fun x=>(bf x.1,V.ref x.2))) D=some (.ag ((l.map fun m=>kx m.ts nb).map V.bl)):=by rwa[aj RK]
  generalize _L.ae H1 tD (.dK ((eQ l).map fun x=>(bf x.1,V.ref x.2)))=H2 at s2 A9⊢;have M2:=M.same s2;obtain⟨AL,lS⟩:=M2.ob;refine{D,_,rfl,aB.of A9,_,rfl,?_};have qe:((l.map fun m=>kx m.ts nb).any id)=l.any fun m=>kx m.ts nb:=by rw[qF];rfl
  rw[qe];by_cases hu:(l.any fun m=>kx m.ts nb)=true
  .simp![];rw[az hu]at k⊢;exact k H2 l _ M2 rfl (Fo.same s2)
  simp![];rw[ao hu]at k⊢;simp![lS,XS];have agp:∃v,fg ((eQ l).map fun x=>(bf x.1,V.ref x.2)) (bf nb)=some v:=by
   rw[m7];rcases mK (hs:=eQ l) (n:=nb)with⟨a,h1,h2⟩ |⟨h1,h2⟩
   .exact{_,by rw[h1];rfl}
   rw[pB]at h2;exact aJ hin h2
  obtain⟨v,hv⟩:=agp;rw[By];refine{.inl {_,.inl M2.dk},_,M2.dk,bf nb,rfl,v,hv,?_};have Bg:jU ((eQ l).map fun x=>(bf x.1,V.ref x.2)) (bf nb)=(eQ (l.filter fun m=>m.n !=nb)).map fun x=>(bf x.1,V.ref x.2):=by
   unfold jU eQ;rw[ic,ic,aoQ];congr 1;apply YE;intro m hm;show decide (bf m.n≠bf nb)=(m.n !=nb);by_cases e:m.n=nb
   .rw[e];simp
   have:bf m.n≠bf nb:=fun z=>e (ID z);simp[e,this]
  rw[Bg];have hne:=M2.ne;simp![aj hne,lS];refine{_,ay,?_};have iK:((eQ (l.filter fun m=>m.n !=nb)).map fun x=>(bf x.1,V.ref x.2)).length=l.length-1:=by
   rw[←Bg];have:=Oq (kvs:=(eQ l).map fun x=>(bf x.1,V.ref x.2)) (k:=bf nb) (by
    rw[ic];have hnd:=M.nd;have:((fun x:Key×V=>x.1)∘fun x:aa×U=>(bf x.1,V.ref x.2))=bf∘(fun x:aa×U=>x.1):=rfl;rw[this,←ic,pB,aoG,YU];exact hnd.imp fun{a b} h z=>h (ID z)) (by
    rw[ic];have:((fun x:Key×V=>x.1)∘fun x:aa×U=>(bf x.1,V.ref x.2))=bf∘(fun x:aa×U=>x.1):=rfl;rw[this,←ic,pB];exact bt.mpr {(nb),hin,rfl})
   rw[hlen]at this;lia
  rw[iK];have mf:∀{m:MT},m∈l.filter (fun m=>m.n !=nb)->m∈l:=fun hm=>(uK.mp hm).1;refine k _ (l.filter fun m=>m.n !=nb) _ {{AL,by rw[aj hne];exact lS},ay,?_,fun m hm=>M.at_ m (mf hm),fun m hm=>M.gd m (mf hm),fun m hm n hn=>?_,fun b o hb=>?_,M.n1,M.n2,jk (xi _ _) M.ln} rfl {(aw.aP s2).trans (ah.ae (.inr rfl)),((bI.refl H).same s2).ae}
  .exact M.nd.sublist ((List.filter_sublist).map _)
  .obtain⟨m',hm',e⟩:=bt.mp (M.us m (mf hm) n hn);refine bt.mpr {m',uK.mpr {hm',?_},e};refine DB fun z=>hu ?_;have HN:m'.n=nb:=by simpa using z
   refine sy.mpr {m,mf hm,?_};obtain⟨x,hx,hxe⟩:=bt.mp hn;unfold kx;refine sy.mpr {x,hx,?_};rw[hxe];exact gG (by show some n=some nb;rw[←e,HN])
  rw[aj (fun z=>by rw[z,M.n2]at hb;cases hb)];exact M2.sm b o hb
 rw[ao hin]at k;rw[az (by rw[dM (fun z=>hin ((M.wn nb).mp z))];rfl)];exact k H l _ M rfl (Fo.same (aw.refl _))
theorem alE(row:aa):numOf (aow (if row.length<=16384 then some row else none))=numOf (uF row):=by
 by_cases h:row.length<=16384
 .rw[az h];rfl
 rw[ao h,Ts,az (by lia)];rfl
theorem ND(l:List MT)(nb row:aa):act (cv l) (.fill nb (if row.length<=16384 then some row else none))=(cv l,(l.find? fun m=>m.n==nb).elim (.num (-2)) fun m=>match numOf (uF row)with
  |.inl z=>.num z|.inr d=>(m9 (cv l) (cn m.ts.parts) d).elim (.num (-62)) fun r=>if zM r=true then .page (sv r)else .num (-28)):=by
 unfold act;dsimp only;rw[OT,←alE];cases l.find? fun m=>m.n==nb with
 |none=>rfl|some m=>
  simp?[iD,iR];cases aow (if row.length<=16384 then some row else none)with
  |inl x=>rfl|inr d=>
   show(cv l,_)=(cv l,_);congr 1;show(match m9 (cv l) (cn m.ts.parts) d with |none=>_ |some r=>_)=(m9 (cv l) (cn m.ts.parts) d).elim (uH (-62)) fun r=>if zM r=true then Yx (sv r)else uH (-28)
   cases m9 (cv l) (cn m.ts.parts) d<;>rfl
theorem nD.mono(h:nD t N dA T m)(s:aw N N'):nD t N' dA T m:=by obtain⟨dx,pg,tA,v3,v4,h1,h2,h3,h4,h5,dy,v0,v1,v2,sd,f,h6,h7⟩:=h;exact{dx,pg,tA,v3,v4,s _ _ h1,s _ _ h2,h3,h4,h5,dy,v0,v1,v2,sd,f,s _ _ h6,h7.mono s fun _ _ q=>q.same s}
theorem amL(l:List MT):dv (m6 l)=cv l:=by unfold dv m6 cv;rw[ic];rfl
theorem C4:iA (m6 l) n=(l.find? fun m=>m.n==n).map fun m=>m.ts.parts:=by unfold iA m6;rw[My];cases h:l.find? ((fun q:aa×PL=>q.1==n)∘fun m:MT=>(m.n,m.ts.parts))with|none=>have h:(l.find? fun m=>m.n==n)=none:=h;rw[h];rfl|some m=>have h:(l.find? fun m=>m.n==n)=some m:=h;rw[h];rfl
theorem fP.amK(M:fP t N H mA tD l):Ek (m6 l):=by
 constructor
 .intro n Q h;rw[C4]at h;cases hf:l.find? fun m=>m.n==n with
  |none=>rw[hf]at h;cases h|some m=>
   rw[hf]at h;injection h with h;subst h
   exact(M.gd m (DI hf)).2.2.1
 intro n Q h k hk;rw[C4]at h;cases hf:l.find? fun m=>m.n==n with
 |none=>rw[hf]at h;cases h|some m=>
  rw[hf]at h;injection h with h;subst h
  have:=M.us m (DI hf) k hk;obtain⟨m',h1,_,_⟩:=He this;rw[C4,h1];rfl
theorem fP.anm(M:fP t N H mA tD l):u7 t H tD (m6 l):=by
 refine{eQ l,M.dk,by rw[pB];exact M.nd,by rw[pB];unfold m6;rw[ic];rfl,fun i x y hx hy=>?_};unfold eQ at hx;unfold m6 at hy;rw[dQ]at hx hy;cases hm:l[i]? with
 |none=>rw[hm]at hx;cases hx|some m=>
  rw[hm]at hx hy;injection hx with hx;injection hy with hy
  subst hx hy;have mm:=fh hm;obtain⟨dx,pA,uA,pa,e1,e2,e3,e4⟩:=(M.at_ m mm).mono M.sm;obtain⟨g1,g2,_⟩:=M.gd m mm;exact{dx,_,_,pA,e1,fun x hx=>{(g2 x hx).1.1,(g2 x hx).1.2.1,(g2 x hx).2},g1.sz,pa,e2,e3,e4}
noncomputable def lN:aox->List Int|.num v=>[0,v]|.page b=>1::(b.length:Int)::b.map fun(n:Nat)=>(n:Int)
theorem NE(a:aox):aoE a=lN a:=by
 cases a with
 |num v=>rfl|page b=>
  show [1]++((b.length:Int)::b.flatMap aoF)=_;have:b.flatMap aoF=b.map fun(n:Nat)=>(n:Int):=by induction b with|nil=>rfl|cons c b ih=>rw[kD,ih];rfl
  rw[this];rfl
inductive WF(t:aE)(vs:List V)(H:Hp)(Q:VK)(E:XK):Prop|mk:∀N mA tD l nb R row,vs=[.ref mA,S (jI nb),.ref R]->fP t N H mA tD l->H R=some (.ag (vb row))->row.length<=20000->uZ H Q ((lN (act (cv l) (.fill nb (if row.length<=16384 then some row else none))).2).map V.int)->WF t vs H Q E
theorem aj0(T:Txt K mg t):aQ P w K mg base 14 t.Fy JU (WF t):=by
 exists T.abN,K7;obtain⟨N,mA,tD,l,nb,R,row,rfl,M,hR,hJ,k⟩:=h;obtain⟨dm,eo⟩:=M.ob;rw[ND]at k;have bG:=hr.mono (show 1<=13 by decide);have vV:=hr.mono (show 5<=13 by decide);have hr8:=hr.mono (show 8<=13 by decide);refine{_,ak (bA (ot (KI (k5 hr) (pv 1) (pf 0))) (au (aM (fc (aq (bS T.tW) (aq (bS T.Iu) aA))))) bH)
  (ak (b9 (i:=3) K7.nd rfl (bx rfl) (dh (akg T) T.ae0 hr (aq (pv 2) aA)))
  (ak (bA (cg y4 (pf 3) bV (bD _)) (au (aM (fc (aq (bS T.tW) (aq (pf 3) aA))))) bH)
  (ak (b9 (i:=4) K7.nd rfl (bx rfl) (iu T.k6 (ajE T) vV (aq (pf 0) (aq (pv 3) aA))))
  (ak (cj (bY (pv 4) T.k6.cl T.ahM (akp T) hr8 (aq (pv 1) aA)))
  (ak (bA (bW (cE (pv 4) T.k6.cl T.Rn (Sv T) bG)) (au (aM (fc (aq (bS T.tW) (aq (bS T.agI) aA))))) bH)
  (ak (bA (bW (om (pf 4) rfl)) (au (aM (fc (aq (bS T.tW) (aq (bS T.vW) aA))))) bH)
  (au (aM (iL akK (fc (aq (bS T.agC) (aq (cN dH T.cK (om (pf 4) rfl)) aA))) (om (pf 4) rfl)))))))))),?_}
 have two:∀(z:Int) (H1:Hp),aw H H1->(l.find? fun m=>m.n==nb).elim (.num (-2)) (fun m=>match numOf (uF row)with
   |.inl z=>.num z|.inr d=>(m9 (cv l) (cn m.ts.parts) d).elim (.num (-62)) fun r=>if zM r=true then .page (sv r)else .num (-28))=uH z->∀p,H1 p=none->Q (.ref p) (_L.ae H1 p (.ag [V.int 0,V.int z])):=fun z H1 s1 hz p hp=>by
  have k:uZ H Q ((lN ((l.find? fun m=>m.n==nb).elim (.num (-2)) (fun m=>match numOf (uF row)with
   |.inl z=>.num z|.inr d=>(m9 (cv l) (cn m.ts.parts) d).elim (.num (-62)) fun r=>if zM r=true then .page (sv r)else .num (-28)))).map V.int):=k
  rw[hz]at k;exact k p _ (gM s1 hp) (s1.trans (aw.new hp)) ay
 simp![eo,pE];obtain⟨o,g1,g2⟩:=xP M.dk (jI nb);rw[pB]at g2;refine{o,g1,?_};rw[g2];by_cases hin:nb∈l.map MT.n
 .have HI:=(M.wn nb).mpr hin;obtain⟨m,hf,hm,HN⟩:=He hin;have By:jI nb=nb:=by have h1:=(M.gd m hm).2.2.2;rw[HN]at h1;exact zE h1
  rw[ao (by rw[gG HI];decide)];simp![eo,pE];refine{R,row,rfl,hR,hJ,?_};rw[hf]at two k;simp?[iR]at two k;cases o8:numOf (uF row)with
  |inl z=>rw[o8]at two;intro H1 dA dx v1 v2 v3 v4 s1 hz e1;simp![e1];rw[az hz];simp![e1];exact{by decide,fun p hp=>two z H1 s1 rfl p hp}|inr d=>
   rw[o8]at two k;have two:∀(z:Int) (H1:Hp),aw H H1->(m9 (cv l) (cn m.ts.parts) d).elim (uH (-62)) (fun r=>if zM r=true then Yx (sv r)else uH (-28))=uH z->∀p,H1 p=none->Q (.ref p) (_L.ae H1 p (.ag [V.int 0,V.int z])):=two;have k:uZ H Q ((lN ((m9 (cv l) (cn m.ts.parts) d).elim (uH (-62)) (fun r=>if zM r=true then Yx (sv r)else uH (-28)))).map V.int):=k;intro H1 dA Tx s1 da;have sn:aw (aH H H1) H1:=fun b o hb=>aH.of hb;have N8:=da.mono sn;have da0:=N8;obtain⟨dd,pg0,tA,v3,v4,ed,_,_,Hz,mP,_⟩:=N8;have M1:=M.same s1;obtain⟨dm1,rb⟩:=M1.ob;simp![ed,rb];rw[ao (by decide)];simp![ed,rb];intro fA df nf rT nfd;have hP:iA (m6 l) nb=some m.ts.parts:=by rw[C4,hf];rfl
   obtain⟨c,τ,go,fin,tR⟩:=alK M1.amK hP Hz mP;rw[amL]at tR;have sH:aw H1 (_L.ae (_L.ae H1 df (.own fA)) fA (.am t.dj df [])):=fun b o hb=>by rwa[aj (aC hb nf),aj (aC hb rT)]
   refine{H1,fA,df,tD,dA,Tx,d,m6 l,rfl,ay,sH,nf,da0,M1.anm,fun H2 X pg hXM I tp2 b2=>{rfl,?_}};have s12:aw H1 H2:=iq nf rT b2;have e2:=I.ob;unfold FX.obj at e2;simp![e2];rw[By];refine{H1,fA,X,m6 l,pg,nb,m.ts.parts,c,τ,rfl,I,tp2,s12,hP,by rw[hXM];exact go,fin,fun H3 X3 F3 S3=>?_};have s13:aw H1 H3:=F3.rd.sm;have s03:=s1.trans s13;have e3:=F3.ob;unfold FX.obj at e3;simp![e3];refine{H1,fA,X3,m6 l,rfl,F3,_,rfl,?_};obtain⟨Om,nQ⟩:=F3.fm.ob;by_cases hst:20000<X3.st
   .rw[az (gG hst)];refine{by decide,fun p hp=>two (-62) H3 s03 ?_ p hp};cases hme:m9 (cv l) (cn m.ts.parts) d with|none=>rfl|some r=>rw[hme]at tR;have:=tR.1;rw[S3.s]at hst;exact aJ hst (by lia)
   rw[ao (by rw[dM hst];decide)];cases hme:m9 (cv l) (cn m.ts.parts) d with|none=>rw[hme]at tR;rw[S3.s]at hst;exact aJ tR hst|some r=>rw[hme]at tR two k;simp?[iR]at two k;obtain⟨_,cD⟩:=tR;obtain⟨f1,f2⟩:=S3.fo.fin;rw[←cD]at f1 f2;simp![e3,nQ];cases j4:X3.f.gP with|true=>simp?[du];refine{by decide,fun p hp=>two (-28) H3 s03 ?_ p hp};rw[ao (by rw[f1 j4];decide)]|false=>obtain⟨g3,g4⟩:=f2 j4;have hrow:=S3.fo.row j4;simp?[eE,cT];simp![e3,nQ];refine{_,.inl (aB.of F3.fm.rw),by decide,fun p hp=>?_};have n1:fA≠p:=aC e3 hp;have n2:X3.oA≠p:=aC nQ hp;have n3:X3.rw≠p:=aC F3.fm.rw hp;simp![aj n1,aj n2,e3,nQ];refine{p,X3.rw,_,_,rfl,rfl,ay,by rw[aj n3];exact F3.fm.rw,by rw[eD];exact gi (cx (by simp;lia)),fun q hq=>?_};rw[az g3,←g4]at k;have Qk:aw H3 (_L.ae H3 p (.ag [V.int 1,V.int (((vb X3.f.row).length:Nat):Int)])):=aw.new hp;refine k q _ (gM (s03.trans Qk) hq) ((s03.trans Qk).trans (aw.new hq)) ?_;rw[ay];show some (HO.ag ([V.int 1,V.int (((vb X3.f.row).length:Nat):Int)]++vb X3.f.row))=some (HO.ag ((lN (.page X3.f.row)).map V.int));rw[eD];simp[lN,vb]
 rw[az (by rw[dM (fun z=>hin ((M.wn nb).mp z))];rfl)];rw[OU hin]at two;exact{by decide,fun p hp=>two (-2) H (aw.refl _) rfl p hp}
theorem alB{A:U->Prop}(h:Rd H a u)(b:ah A H H')(n:¬ A a):Rd H' a u:=by
 rcases h with h |⟨o,h⟩
 .exact .inl (b _ _ n h)
 exact .inr {o,b _ _ n h}
theorem alC(h:Rd H a u):∃o,H a=some o:=by rcases h with h |⟨o,h⟩<;>exact{_,h}
def nF(K:bn)(a:U)(xs:List V):Prop:=∃(o:ba) (its:Array af) (n:Nat),K.lookup a=some o/\o.cls=.type "list"/\o.dict=none/\o.data=.seq its n/\its.size<=cp/\bF xs its.toList
theorem wK{A:U->Prop}(h:aB K H a xs)(b:ah A H H')(n:¬ nF K a xs->¬ A a):aB K H' a xs:=by
 by_cases c:nF K a xs
 .exact .inr c
 rcases h with h |h
 .exact .inl (alB h b (n c))
 exact aJ h c
theorem amV(h:aB K H a xs)(c:¬ nF K a xs):∃o,H a=some o:=by
 rcases h with h |h
 .exact alC h
 exact aJ h c
theorem XA{c:U}{fs:List (ac×V)}(h:aB K H a xs)(e:H b=some (.am c d fs))(z:¬ nF K a xs):a≠b:=by
 rcases h with h |h
 .rcases h with q |⟨o,q⟩<;>exact cr q e (by intro z;cases z)
 exact aJ h z
structure ga(K:bn)(t:aE)(H:Hp)(lA L:U)(nums rest:List Int):Prop where
 ob:∃dx,H lA=some (.am t.nJ dx (lT (.ref L) (.int ((nums.length-rest.length:Nat):Int))))
 ls:aB K H L (nums.map V.int)
 sf:∃p,nums=p++rest
theorem ga.aP{L:U}{nums rest:List Int}{A:U->Prop}(h:ga K t H lA L nums rest)(b:ah A H H')(n1:¬ A lA)(n2:¬ nF K L (nums.map V.int)->¬ A L):ga K t H' lA L nums rest:=by obtain⟨dx,e⟩:=h.ob;exact{{dx,b _ _ n1 e},wK h.ls b n2,h.sf}
theorem ga.le{L:U}{nums rest:List Int}(h:ga K t H lA L nums rest):rest.length<=nums.length:=by obtain⟨p,e⟩:=h.sf;rw[e];simp
theorem ga.ne{L:U}{nums rest:List Int}(h:ga K t H lA L nums rest):¬ nF K L (nums.map V.int)->L≠lA:=by obtain⟨dx,e⟩:=h.ob;exact XA h.ls e
theorem ga.at_{L:U}{nums r:List Int}{v:Int}(h:ga K t H lA L nums (v::r)):(nums.map V.int)[nums.length-(v::r).length]?=some (V.int v):=by
 obtain⟨p,e⟩:=h.sf;have:nums.length-(v::r).length=p.length:=by rw[e];simp
 rw[this,e,dQ];simp
theorem ga.go{L:U}{nums rest q cy:List Int}(h:ga K t H lA L nums rest)(e:rest=q++cy){fs:List (ac×V)}(ef:fs=lT (.ref L) (.int ((nums.length-cy.length:Nat):Int))):ga K t (_L.ae H lA (.am t.nJ dx fs)) lA L nums cy:=by obtain⟨p,ep⟩:=h.sf;exact{{dx,by rw[ay,ef]},wK h.ls ah.here h.ne,p++q,by rw[ep,e,fY]}
inductive WL(K:bn)(t:aE)(vs:List V)(H:Hp)(Q:VK)(E:XK):Prop|mk:∀lA L nums rest,vs=[.ref lA]->ga K t H lA L nums rest->Q (.bl (decide (rest=[]))) H->WL K t vs H Q E
theorem aj6(T:Txt K mg t):aQ P w K mg base 1 t.Fs B6 (WL K t):=by
 exists T.abH,al0;obtain⟨lA,L,nums,rest,rfl,M,k⟩:=h;obtain⟨dx,e⟩:=M.ob;have hle:=M.le;refine{_,au (aM (fw JF (pf 0) (cN dH T.cK (pf 0)) (bD _))),?_};simp![e];refine{_,.inl M.ls,?_};have:decide ((((nums.map V.int).length:Nat):Int)<=((nums.length-rest.length:Nat):Int))=decide (rest=[]):=by
  apply oC.mpr;rw[bL];constructor
  .intro z;exact jN.mp (by lia)
  intro z;rw[z];simp
 simp![e];rwa[this]
inductive Xo(K:bn)(t:aE)(vs:List V)(H:Hp)(Q:VK)(E:XK):Prop|mk:∀lA L nums v r,vs=[.ref lA]->ga K t H lA L nums (v::r)->(∀H',ah (· =lA) H H'->ga K t H' lA L nums r->Q (.int v) H')->Xo K t vs H Q E
theorem aky(T:Txt K mg t):aQ P w K mg base 1 t.Fu JS (Xo K t):=by exists T.abJ,VF;obtain⟨lA,L,nums,v,r,rfl,M,k⟩:=h;obtain⟨dx,e⟩:=M.ob;have hle:=M.le;refine{_,ak (b9 (i:=1) VF.nd rfl (bx rfl) (dY eN (pf 0) (pf 0) (fun _ _=>rfl))) (ak (l9 (pv 0) bV mR) (au (aM (pv 1)))),?_};simp![e];refine{L,_,_,_,rfl,rfl,M.ls,lO M.at_,?_};simp![e];refine k _ ah.here (M.go (q:=[v]) rfl ?_);congr 2;simp?[bJ]at hle⊢;lia
inductive Xp(K:bn)(t:aE)(vs:List V)(H:Hp)(Q:VK)(E:XK):Prop|mk:∀lA L nums r,∀(b:aa),vs=[.ref lA]->ga K t H lA L nums ((b.length:Int)::(iz b++r))->(∀H' p,ah (· =lA) H H'->ga K t H' lA L nums r->H p=none->H' p=some (.ag (vb b))->Q (.ref p) H')->Xp K t vs H Q E
theorem Ss(T:Txt K mg t):aQ P w K mg base 1 t.Fv JT (Xp K t):=by
 exists T.abK,VG;obtain⟨lA,L,nums,r,b,rfl,M,k⟩:=h;obtain⟨dx,e⟩:=M.ob;have hle:=M.le;have yo:(iz b).length=b.length:=by simp[iz]
 simp?[bJ,cw,yo]at hle;refine{_,ak (b9 (i:=1) VG.nd rfl (bx rfl) (iL rY (pf 0) bV)) (ak (bT (pv 0) (iL rY (pv 1) (dY eN (pf 0) (pf 0) (fun _ _=>rfl))) rfl) (au (aM (CK C5 (pf 0) (ur (pv 1)) (ur (pf 0)))))),?_};simp![e];refine{L,_,_,_,rfl,rfl,M.ls,lO M.at_,?_};simp![e,ay];have e1:(((nums.length-((iz b++r).length+1):Nat):Int)+1+(b.length:Int))=((nums.length-r.length:Nat):Int):=by simp?[cw,yo];lia
 have e2:(((nums.length-((iz b++r).length+1):Nat):Int)+1)=((nums.length-(b.length+r.length):Nat):Int):=by simp?[cw,yo];lia
 rw[e1,e2];have M2:ga K t (_L.ae H lA (.am t.nJ dx (lT (.ref L) (.int ((nums.length-r.length:Nat):Int))))) lA L nums r:=M.go (q:=(b.length:Int)::iz b) (by simp) rfl;refine{_,M2.ls,fun p hp=>?_};have npl:lA≠p:=aC ay hp;have o0:H p=none:=by rwa[aj npl.symm]at hp
 refine k _ p (ah.here.trans (ah.new hp)) (M2.aP (A:=fun _=>False) (aw.aP (aw.new hp)) (fun z=>z) (fun _ z=>z)) o0 ?_;rw[ay];obtain⟨q,hq⟩:=M.sf;have hl:nums.length=q.length+1+b.length+r.length:=by rw[hq];simp[yo];lia
 have yk:mG (nums.map V.int) (some ((nums.length-(b.length+r.length):Nat):Int)) (some ((nums.length-r.length:Nat):Int))=vb b:=by
  unfold mG;rw[HT.uu,HT.uu,bL,show nums.length-(b.length+r.length)=q.length+1 by lia,show nums.length-r.length=q.length+1+b.length by lia,DK (by lia),DK (by lia),show q.length+1+b.length-(q.length+1)=b.length by lia,hq,←YR,←YS];have h1:(q++(b.length:Int)::(iz b++r)).drop (q.length+1)=iz b++r:=by rw[List.drop_append];simp
  rw[h1,←yo,ao2];unfold iz vb;rw[ic];rfl
 rw[yk]
structure Zz(K:bn)(t:aE)(H H':Hp)(mA tD lA L:U)(nums cy:List Int)(l l':List MT)(x:Yy)(N':Hp)(tD' p:U):Prop where
 mm:fP t N' H' mA tD' l'
 ab:cv l'=(act (cv l) x).1
 ln:ga K t H' lA L nums cy
 an:H' p=some (.ag ((lN (act (cv l) x).2).map V.int))
 np:H p=none
 fo:ah (fun b=>b=mA∨b=tD∨b=lA) H H'
 nt:tD'=tD∨H tD'=none
inductive Wc(K:bn)(t:aE)(vs:List V)(H:Hp)(Q:VK)(E:XK):Prop|mk:∀N mA tD l lA L nums rest cy x,vs=[.ref mA,.ref lA]->fP t N H mA tD l->ga K t H lA L nums rest->Eb rest cy x->(¬ nF K L (nums.map V.int)->L≠mA)->(¬ nF K L (nums.map V.int)->L≠tD)->lA≠mA->lA≠tD->N lA=none->(∀H' l' N' tD' p,Zz K t H H' mA tD lA L nums cy l l' x N' tD' p->(∀b o,H b=some o->N b=none->N' b=none)->Q (.ref p) H')->Wc K t vs H Q E
theorem fP.aP{A:U->Prop}(h:fP t N H mA tD l)(b:ah A H H')(n1:¬ A mA)(n2:¬ A tD)(n3:∀x o,N x=some o->¬ A x):fP t N H' mA tD l:=by obtain⟨dx,e⟩:=h.ob;exact{{dx,b _ _ n1 e},b _ _ n2 h.dk,h.nd,h.at_,h.gd,h.us,fun x o hx=>b x o (n3 x o hx) (h.sm x o hx),h.n1,h.n2,h.ln}
theorem ajQ(T:Txt K mg t):aQ P w K mg base 15 t.GF Kl (Wc K t):=by
 exists T.acE,C1;obtain⟨N,mA,tD,l,lA,L,nums,rest,cy,x,rfl,M,LN,hc,q1,q2,q3,q4,nl,k⟩:=h;have bG:=hr.mono (show 1<=14 by decide);have cD:=hr.mono (show 2<=14 by decide);have vV:=hr.mono (show 5<=14 by decide);obtain⟨dx,e⟩:=LN.ob;refine{_,ak (b9 (i:=2) C1.nd rfl (bx rfl) (cE (pv 1) T.vZ.cl T.ahP (aky T) bG))
  (ak (bA (cg cV (pv 2) (bS T.agK) (bD _)) (au (aM (fc (aq (bS T.tW) (aq (cE (pv 0) T.tY.cl T.ahS (akt T) bG) aA))))) bH)
  (ak (b9 (i:=3) C1.nd rfl (bx rfl) (dh (akH T) T.afa vV (aq (cE (pv 1) T.vZ.cl T.Ro (Ss T) bG) aA)))
  (ak (bA (cg cV (pv 2) (bS T.agL) (bD _)) (au (aM (fc (aq (bS T.tW) (aq (bY (pv 0) T.tY.cl T.ahT (aku T) cD (aq (pv 3) aA)) aA))))) bH)
  (ak (b9 (i:=4) C1.nd rfl (bx rfl) (cE (pv 1) T.vZ.cl T.Ro (Ss T) bG))
  (ak (bA (cg cV (pv 2) (bS T.agJ) (bD _)) (au (aM (fc (aq (bS T.tW) (aq (bY (pv 0) T.tY.cl T.ahR (akc T) hr (aq (pv 3) (aq (pv 4) aA))) aA))))) bH)
  (au (aM (bY (pv 0) T.tY.cl T.ahQ (aj0 T) hr (aq (pv 3) (aq (pv 4) aA)))))))))),?_}
 simp![e];have hne:∃v r,rest=v::r:=by rcases hc with⟨h,_⟩ |⟨nb,h,_⟩ |⟨nb,row,h,_⟩ |⟨nb,row,h,_⟩<;>exact{_,_,h}
 obtain⟨v,r,hvr⟩:=hne;subst hvr;refine{lA,L,nums,v,r,rfl,LN,fun H1 b1 LN1=>?_};have b1':ah (fun b=>b=mA∨b=tD∨b=lA) H H1:=b1.mono fun z q=>.inr (.inr q);have M1:=M.aP b1 q3.symm q4.symm (fun y o hy z=>by rw[z,nl]at hy;cases hy);obtain⟨dm1,EX⟩:=M1.ob;have ln2:∀{H':Hp},Fo mA tD H1 H'->ga K t H' lA L nums r:=fun{H'} f=>LN1.aP f.1 (fun z=>by rcases z with z |z;exact q3 z;exact q4 z) (fun c z=>by rcases z with z |z;exact q1 c z;exact q2 c z);have D1:bI H H1:=fun b hb=>by
  cases hx:H b with
  |none=>rfl|some o=>
   by_cases jz:b=lA
   .obtain⟨d9,e9⟩:=LN1.ob;rw[jz,e9]at hb;cases hb
   rw[b1 b o jz hx]at hb;cases hb
 have nf2:∀{p:U} {o:HO},N p=some o->p≠lA:=fun{p o} hp z=>by rw[z,nl]at hp;cases hp
 obtain⟨dl1,OF⟩:=LN1.ob;have num:∀{H2:Hp} {N2:Hp} {tD2:U} {l2:List MT} {z:Int} {rs:List Int},fP t N2 H2 mA tD2 l2->act (cv l) x=(cv l2,.num z)->ga K t H2 lA L nums rs->rs=cy->ah (fun b=>b=mA∨b=tD∨b=lA) H H2->bI H H2->(tD2=tD∨H tD2=none)->(∀b o,H b=some o->N b=none->N2 b=none)->∀p,H2 p=none->Q (V.ref p) (_L.ae H2 p (.ag [V.int 0,V.int z])):=fun{H2 N2 tD2 l2 z rs} M2 ha ZJ HX f2 D2 ht hn p hp=>by subst HX;have s2:aw H2 (_L.ae H2 p (.ag [V.int 0,V.int z])):=aw.new hp;exact k _ l2 N2 tD2 p {M2.same s2,by rw[ha],ZJ.aP (A:=fun _=>False) (aw.aP s2) (fun z=>z) (fun _ z=>z),by rw[ay,ha];rfl,D2 p hp,f2.trans (aw.aP s2),ht} hn
 rcases hc with⟨hh,hx⟩ |⟨nb,hh,hn,hx⟩ |⟨nb,row,hh,hn,hrw,hx⟩ |⟨nb,row,hh,hn,hrw,hx⟩
 .injection hh with h1 h2;subst h1 h2 hx;simp![EX];refine{N,mA,tD,l,rfl,M1,fun H2 N2 tD2 HR M2 fo hN=>?_};simp![];refine{by decide,?_};exact num M2 rfl (ln2 fo) rfl (b1'.trans (fo.1.mono fun z q=>by rcases q with q |q;exact .inl q;exact .inr (.inl q))) (fun b hb=>D1 b (fo.2 b hb)) (.inr (D1 _ HR)) (fun b _ _ _=>hN b)
 .injection hh with h1 h2;subst h1 h2 hx;simp![];rw[ao (by decide)];simp![OF];refine{lA,L,nums,cy,nb,rfl,LN1,fun H2 p b2 qN np ep=>?_};have M2:=M1.aP b2 q3.symm q4.symm (fun y o hy z=>nf2 hy z);simp![];refine{p,nb,rfl,ep,by lia,fun H3 s3=>?_};simp![];have M3:=M2.same s3;obtain⟨dm3,em3⟩:=M3.ob;simp![em3];refine{N,mA,tD,l,nb,rfl,M3,fun H4 l4 z M4 ha fo=>?_};simp![];refine{by decide,?_};have D2:bI H1 H2:=fun b hb=>by
   cases hx:H1 b with
   |none=>rfl|some o=>
    by_cases jz:b=lA
    .obtain⟨d9,e9⟩:=qN.ob;rw[jz,e9]at hb;cases hb
    rw[b2 b o jz hx]at hb;cases hb
  have uY:=qN.aP (A:=fun _=>False) (aw.aP s3) (fun z=>z) (fun _ z=>z);have oJ:=uY.aP fo.1 (fun z=>by rcases z with z |z;exact q3 z;exact q4 z) (fun c z=>by rcases z with z |z;exact q1 c z;exact q2 c z);refine num M4 ha oJ rfl ?_ (fun b hb=>D1 b (D2 b (((bI.refl H2).same s3) b (fo.2 b hb)))) (.inl rfl) (fun _ _ _ h=>h);exact((b1'.trans (b2.mono fun z q=>.inr (.inr q))).trans (aw.aP s3)).trans (fo.1.mono fun z q=>by rcases q with q |q;exact .inl q;exact .inr (.inl q))
 all_goals
  injection hh with h1 h2;subst h1 h2 hx;simp![];rw[ao (by decide)];simp![OF];refine{lA,L,nums,(row.length:Int)::(iz row++cy),nb,rfl,LN1,fun H2 p b2 qN np ep=>?_};have M2:=M1.aP b2 q3.symm q4.symm (fun y o hy z=>nf2 hy z);simp![];refine{p,nb,rfl,ep,by lia,fun H3 s3=>?_};simp![];have M3:=M2.same s3;rw[ao (by decide)];have D2:bI H1 H2:=fun b hb=>by
   cases hx:H1 b with
   |none=>rfl|some o=>
    by_cases jz:b=lA
    .obtain⟨d9,e9⟩:=qN.ob;rw[jz,e9]at hb;cases hb
    rw[b2 b o jz hx]at hb;cases hb
  have uY:=qN.aP (A:=fun _=>False) (aw.aP s3) (fun z=>z) (fun _ z=>z);obtain⟨dl3,el3⟩:=uY.ob;simp![el3];refine{lA,L,nums,cy,row,rfl,uY,fun H4 R b4 oJ nR eR=>?_};simp![];have M4:=M3.aP b4 q3.symm q4.symm (fun y o hy z=>nf2 hy z);have D4:bI H3 H4:=fun b hb=>by
   cases hx:H3 b with
   |none=>rfl|some o=>
    by_cases jz:b=lA
    .obtain⟨d9,e9⟩:=oJ.ob;rw[jz,e9]at hb;cases hb
    rw[b4 b o jz hx]at hb;cases hb
  have D04:bI H H4:=fun b hb=>D1 b (D2 b (((bI.refl H2).same s3) b (D4 b hb)));have f04:ah (fun b=>b=mA∨b=tD∨b=lA) H H4:=((b1'.trans (b2.mono fun z q=>.inr (.inr q))).trans (aw.aP s3)).trans (b4.mono fun z q=>.inr (.inr q));obtain⟨dm4,AR⟩:=M4.ob;obtain⟨dl4,xT⟩:=oJ.ob
 .simp![AR];refine{N,mA,tD,l,nb,R,row,rfl,M4,eR,by lia,fun H5 N5 l5 z M5 ha fo hN=>?_};simp![];refine{by decide,?_};have ZK:=oJ.aP fo.1 (fun z=>by rcases z with z |z;exact q3 z;exact q4 z) (fun c z=>by rcases z with z |z;exact q1 c z;exact q2 c z);exact num M5 ha ZK rfl (f04.trans (fo.1.mono fun z q=>by rcases q with q |q;exact .inl q;exact .inr (.inl q))) (fun b hb=>D04 b (fo.2 b hb)) (.inl rfl) (fun b o hb Hu=>by
   by_cases z1:b=mA
   .rw[z1];exact hN mA _ AR (by rw[←z1];exact Hu)
   by_cases z2:b=tD
   .rw[z2];exact hN tD _ M4.dk (by rw[←z2];exact Hu)
   by_cases z3:b=lA
   .rw[z3];exact hN lA _ xT nl
   exact hN b _ (f04 b o (fun z=>by rcases z with z |z |z;exact z1 z;exact z2 z;exact z3 z) hb) Hu)
 rw[ao (by decide)];simp![AR];refine{N,mA,tD,l,nb,R,row,rfl,M4,eR,by lia,fun p5 H5 hp5 s5 e5=>?_};refine k H5 l N tD p5 {M4.same s5,?_,oJ.aP (A:=fun _=>False) (aw.aP s5) (fun z=>z) (fun _ z=>z),e5,D04 p5 hp5,f04.trans (aw.aP s5),.inl rfl} (fun _ _ _ h=>h);rw[ND]
inductive WU(t:aE)(vs:List V)(H:Hp)(Q:VK)(E:XK):Prop|mk:∀a dx,vs=[.ref a]->H a=some (.am t.pY dx [])->(∀H' d,ah (· =a) H H'->H d=none->fP t (fun _=>none) H' a d []->Q .aN H')->WU t vs H Q E
theorem ajH(T:Txt K mg t):aQ P w K mg base 1 t.Fz Ca (WU t):=by exists T.abO,al4;obtain⟨a,dx,rfl,e,k⟩:=h;refine{_,au (bT (pv 0) wy rfl),?_};simp![e];intro d hd;have n1:a≠d:=aC e hd;simp![aj n1,e,aej,eT];exact k _ d ((ah.new hd).trans ah.here) hd {{(dx),ay},by rw[aj n1.symm,ay];rfl,uL,fun m hm=>(by cases hm),fun m hm=>(by cases hm),fun m hm=>(by cases hm),fun b o hb=>(by cases hb),rfl,rfl,by decide}
inductive WS(K:bn)(t:aE)(vs:List V)(H:Hp)(Q:VK)(E:XK):Prop|mk:∀a dx L nums,vs=[.ref a,.ref L]->H a=some (.am t.nJ dx [])->aB K H L (nums.map V.int)->(∀H',ah (· =a) H H'->ga K t H' a L nums nums->Q .aN H')->WS K t vs H Q E
theorem ajG(T:Txt K mg t):aQ P w K mg base 1 t.Ft B7 (WS K t):=by exists T.abI,al1;obtain⟨a,dx,L,nums,rfl,e,hL,k⟩:=h;have hne:=XA hL e;refine{_,ak (bT (pv 0) (pv 1) rfl) (au (bT (pv 0) bV rfl)),?_};simp![e,ay,gT,aeh,eT];exact k _ ah.here {{dx,by rw[ay,ao5];rfl},wK hL ah.here hne,[],rfl}
inductive Lw(K:bn)(vs:List V)(H:Hp)(Q:VK)(E:XK):Prop|mk:∀L nums,vs=[.ref L]->aB K H L (nums.map V.int)->Y3 nums=true->(∀H' p,aw H H'->H' p=some (.ag ((DN nums).map V.int))->Q (.ref p) H')->Lw K vs H Q E
theorem ajR(T:Txt K mg t){fd:mw}(F:oG K "answers" "answers" K5 t.A0 fd):jQ P w K mg base sL 16 t.A0 fd wq (Lw K):=by
 refine F.ok zl (fun vs H Q E h=>?_) (fun cdv A outer s H vs Q E hr h=>?_)
 .obtain⟨L,nums,rfl,_⟩:=h;rfl
 obtain⟨L,nums,rfl,hL,afN,k⟩:=h;have eL:=fun c=>amV hL c;obtain⟨cs0,ahv,afL,hlen⟩:=aaQ afN;have bG:=hr.mono (show 1<=15 by decide);have cD:=hr.mono (show 2<=15 by decide);refine{_,ak (b9 (i:=1) zl.nd rfl (bx rfl) (wC T.tY (ajH T) cD))
  (ak (b9 (i:=2) zl.nd rfl (bx rfl) (iu T.vZ (ajG T) cD (aq (pv 0) aA)))
  (ak (b9 (i:=3) zl.nd rfl (bx rfl) (fc aA))
  (ak (pC PassesOwn.never (fe (bW (cE (pv 2) T.vZ.cl T.ahO (aj6 T) bG)))
   (ak (b9 (i:=4) zl.nd rfl (bx rfl) (dh (ajQ T) T.aeO hr (aq (pv 1) (aq (pv 2) aA))))
   (ak (cj (fb ej iE iF h9 (pv 3) (aq (cN dH T.cK (pv 4)) aA)))
   (au (cj (fb ej uQ uR rS (pv 3) (aq (pv 4) aA)))))))
  (au (aM (pv 3)))))),?_}
 simp![bC];intro mA dm nm RP nmd;refine{mA,dm,rfl,ay,fun H1 tD b1 nt M1=>{rfl,?_}};have s1:aw H H1:=iq nm RP b1;have Ju:H tD=none:=by cases hx:H tD with|none=>rfl|some o=>rw[aj (aC hx nm),aj (aC hx RP),hx]at nt;cases nt
 simp![bC];intro lA dl nl pw Jr;have eL1:¬ nF K L (nums.map V.int)->∃o,H1 L=some o:=fun c=>(by obtain⟨o,q⟩:=eL c;exact{o,s1 _ _ q});have hL1:aB K H1 L (nums.map V.int):=wK (A:=fun _=>False) hL (aw.aP s1) (fun _ z=>z);have hL2:aB K (_L.ae (_L.ae H1 dl (.own lA)) lA (.am t.nJ dl [])) L (nums.map V.int):=wK (wK hL1 ah.here (fun c=>(eL1 c).elim fun _ q=>aC q pw)) ah.here (fun c=>(eL1 c).elim fun _ q=>aC q nl);refine{lA,dl,L,nums,rfl,ay,hL2,fun H2 b2 qN=>{rfl,?_}};have s2:aw H1 H2:=iq nl pw b2;have M2:=M1.same s2;simp![dE];intro gA ng;have s3:aw H2 (_L.ae H2 gA (.ag [])):=aw.new ng;have p0:_L.ae H2 gA (.ag []) gA=some (.ag []):=ay;generalize _L.ae H2 gA (.ag [])=H3 at s3 p0⊢;have s03:aw H H3:=(s1.trans s2).trans s3;have M3:=M2.same s3;have uY:=qN.aP (A:=fun _=>False) (aw.aP s3) (fun z=>z) (fun _ z=>z);obtain⟨dm1,EX⟩:=M1.ob;obtain⟨AL,em2⟩:=M2.ob;obtain⟨dl2,el2⟩:=qN.ob;have nlH:H lA=none:=gM s1 nl;have RU:H gA=none:=gM (s1.trans s2) ng;have RZ:mA≠gA:=aC em2 ng;have RY:lA≠gA:=aC el2 ng;have nml:lA≠mA:=(aC EX nl).symm;simp![dE];refine su (fun m σ H'=>∃rest cs s l N tD g v4,σ=[some (V.ref L),some (V.ref mA),some (V.ref lA),some (V.ref gA),v4]/\fP t N H' mA tD l/\ga K t H' lA L nums rest/\sR s rest cs/\s.getD []=cv l/\m=rest.length/\H' gA=some (.ag (g.map V.int))/\DN nums=g++xn (xm jL s cs)/\aw H H'/\H tD=none/\N lA=none/\N gA=none)
  {_,nums,cs0,none,[],(fun _=>none),tD,[],none,rfl,M3,uY,ahv,rfl,rfl,p0,afL,s03,Ju,rfl,rfl} ?_
 intro W X hW hX m σ H4 hw;obtain⟨rest,cs,s4,l,N,Di,g,v4,rfl,M4,oJ,left,hs,rfl,eg,hg,s04,Jv,RX,ng4⟩:=hw;obtain⟨dl4,xT⟩:=oJ.ob;obtain⟨dm4,AR⟩:=M4.ob;simp![xT];refine{lA,L,nums,rest,rfl,oJ,_,rfl,?_};cases rest with
 |nil=>
  rw[hX];simp![fM];have:=left.nil;subst this;refine k H4 gA s04 ?_;rw[hg];have:g++xn (xm jL s4 [])=g:=by show g++[]=g;simp
  rwa[this]
 |cons v r=>
  simp![jP,reduceCtorEq];obtain⟨c,nM,tl,x,rfl,afO,hat,Ib,af3,left'⟩:=left.cons;have eM:=amZ afO af3;rw[hs]at eM;have nLm:¬ nF K L (nums.map V.int)->L≠mA:=fun c=>(eL c).elim fun _ q=>aC q nm;have nLt:¬ nF K L (nums.map V.int)->L≠Di:=fun c=>(eL c).elim fun _ q=>aC q Jv;have nlt:lA≠Di:=cr xT M4.dk (by intro z;cases z);have ngt:gA≠Di:=cr eg M4.dk (by intro z;cases z);refine{Nx W _,fun _ _ h=>h,N,mA,Di,l,lA,L,nums,v::r,tl,x,rfl,M4,oJ,hat,nLm,nLt,nml,nlt,RX,fun H5 l5 N5 XO p D hN=>?_};have EW:H5 gA=some (.ag (g.map V.int)):=D.fo _ _ (fun z=>by
   rcases z with z |z |z
   .exact RZ z.symm
   .exact ngt z
   exact RY z.symm) eg
  have npg:p≠gA:=(aC eg D.np).symm;have kY:g.length+(lN (act (cv l) x).2).length+1<=10000000:=by have h1:=eU kE hg;have h2:xn (xm jL s4 (c::nM))=(((jL s4 c).2.length:Int)::(jL s4 c).2)++xn (xm jL (jL s4 c).1 nM):=rfl;rw[h2,eM,NE]at h1;simp?[cw,bJ]at h1;lia
  simp![];refine{.inl {rfl,_,aB.of EW},_,.inl (aB.of D.an),?_};simp![];refine{gA,_,_,rfl,rfl,EW,by rw[bL];exact cx (by lia),?_};simp![];refine{.inl {rfl,_,aB.of ay},gA,p,_,_,rfl,rfl,ay,by rw[aj npg];exact D.an,?_,?_}
  .simp?[cw,bL,bJ,ox];exact gi (cx (by lia))
  rw[gT];have bg:ah (· =gA) H5 (_L.ae H5 gA (.ag (g.map V.int++[V.int ((((lN (act (cv l) x).2).map V.int).length:Nat):Int)]++(lN (act (cv l) x).2).map V.int))):=ah.here;have s05:aw H H5:=fun b o hb=>D.fo b o (fun z=>by
   rcases z with z |z |z
   .exact aC hb nm z
   .exact aC hb Jv z
   exact aC hb nlH z) (s04 b o hb)
  have ajm:XO≠gA:=cr D.mm.dk EW (by intro z;cases z);have Nn:N5 gA=none:=hN gA _ eg ng4;have ZL:N5 lA=none:=hN lA _ xT RX;refine{tl.length,Ib,?_};rw[hW];refine{tl,nM,_,l5,N5,XO,g++((lN (act (cv l) x).2).length:Int)::lN (act (cv l) x).2,_,rfl,D.mm.aP bg RZ ajm (fun y o hy z=>by rw[z,Nn]at hy;cases hy),D.ln.aP bg RY (fun c=>(eL c).elim fun _ q=>aC q RU),left',?_,rfl,?_,?_,fun b o hb=>bg b o (aC hb RU) (s05 b o hb),?_,ZL,Nn}
  .rw[eM,D.ab];rfl
  .rw[ay];simp
  .rw[hg];have h2:xn (xm jL s4 (c::nM))=(((jL s4 c).2.length:Int)::(jL s4 c).2)++xn (xm jL (jL s4 c).1 nM):=rfl;rw[h2];have h3:(jL s4 c).2=lN (act (cv l) x).2:=by rw[eM,NE]
   rw[h3];simp
  rcases D.nt with z |z
  .rw[z];exact Jv
  exact gM s04 z
section
theorem apX{K:bn}{g:U}{k0 k1 k2 k3 u0 u1 u2 u3:ny}{ep:Nat}(l:K.lookup g=some {.type "dict",none,.dict #[{60,Value.int 60 k0,Value.str "&lt;" u0},{62,Value.int 62 k1,Value.str "&gt;" u1},{38,Value.int 38 k2,Value.str "&amp;" u2},{34,Value.int 34 k3,Value.str "&quot;" u3}] ep,#[]})(ns:(g==lI)=false):∃ob es ep,KD K g ob es ep [(dL 60,V.str "&lt;"),(dL 62,V.str "&gt;"),(dL 38,V.str "&amp;"),(dL 34,V.str "&quot;")]:=by
 refine{_,_,_,l,ns,{(rfl),rfl,rfl},rfl,rfl,fun P w=>{[(dL 60,Value.str "&lt;" u0),(dL 62,Value.str "&gt;" u1),(dL 38,Value.str "&amp;" u2),(dL 34,Value.str "&quot;" u3)],?_,?_,?_,by simp}}
 .exact .cons {rfl,_,rfl} (.cons {rfl,_,rfl} (.cons {rfl,_,rfl} (.cons {rfl,_,rfl} (.nil))))
 .intro e he;simp?[List.mem_toArray,bw,qG,or_false]at he;rcases he with rfl |rfl |rfl |rfl
  .exact{dL 60,qp _ _ _ _,rfl}
  .exact{dL 62,qp _ _ _ _,rfl}
  .exact{dL 38,qp _ _ _ _,rfl}
  exact{dL 34,qp _ _ _ _,rfl}
 exact .cons (qp _ _ _ _) rfl (.cons (qp _ _ _ _) rfl (.cons (qp _ _ _ _) rfl (.cons (qp _ _ _ _) rfl (.nil))))
@[elab_as_elim] theorem ar1{C:List af->Prop}(us:List af)(hl:us.length=1)(h:∀a0,C [a0]):C us:=match us,hl with |[a0],_=>h a0
@[elab_as_elim] theorem ar2{C:List af->Prop}(us:List af)(hl:us.length=2)(h:∀a0 a1,C [a0,a1]):C us:=match us,hl with |[a0,a1],_=>h a0 a1
@[elab_as_elim] theorem ar3{C:List af->Prop}(us:List af)(hl:us.length=3)(h:∀a0 a1 a2,C [a0,a1,a2]):C us:=match us,hl with |[a0,a1,a2],_=>h a0 a1 a2
section
variable{K:bn}{h:bP}{mg:ac->Option af}{x n qual:ac}{f C g:U}
theorem bk(X:K.In h)(G:h.Ns jp mg)(a:MQ K jp x=some (some (.ref C)))(mk:Zc K C=true)(ai:oB K (.ref C) "__init__"=some (some (.ref f)))(ii:MM K (.ref f)=true)(kc:sF K (.ref C)=true)
  (pg:DU K C Str.empty=true)(hd:ML K C=true)(po:Zf K C=true)(sa:oB K (.ref C) "__setattr__"=some (some (.builtin "object.__setattr__"))):iH K mg x C f:={MO X G a,{(mk),ai,ii,kc},{(pg),hd,po,sa}}
theorem bg(X:K.In h)(G:h.Ns jp mg)(a:MQ K jp x=some (some (.ref f)))(k:sF K (.ref f)=true):ek K mg x f:={MO X G a,k}
theorem bd{st:gj}{ps:List ac}{oc:af}{od an:Option U}{osl:Array (Option af)}{kV doc pm cdv ct:af}(l:K.lookup f=some {oc,od,.func (uS x qual (vn st) (qX st) (aV st) .none kV doc pm an cdv ct),osl})
  (c:MK K cdv qual=true)(k:sF K (.ref f)=true)(hb:∀(kV doc pm:af) (an:Option U) (cdv ct:af) (us:List af),us.length=ps.length->Zi (uS x qual (vn st) (qX st) (aV st) .none kV doc pm an cdv ct) {us,[]}=pure (ps.zip us)):
  ∃fd,oG K x qual st f fd/\Binds K fd ps []:={_,O7 l c k,(O7 l c k).sY hb}
theorem bi(X:K.In h)(G:h.Ns jp mg){v:Int}{tk:ny}(a:MQ K jp n=some (some (Value.int v tk))):GI mg n v:={_,MO X G a}
theorem bs(X:K.In h)(G:h.Ns jp mg){v:ac}{tk:ny}(a:MQ K jp n=some (some (Value.str v tk))):GS mg n v:={_,MO X G a}
theorem bq{xs:List V}{od:Option U}{its:Array af}{m:Nat}{sl:Array (Option af)}(l:K.lookup g=some {.type "tuple",od,.seq its m,sl})(hv:its.size<=cp/\bF xs its.toList):∀H,eW K H g xs:=fun _=>.inr {_,_,_,l,rfl,rfl,hv.1,hv.2}
end
theorem apR{P:cA}{w:ck}{K:bn}{mg:ac->Option af}{fa:U}{t:aE}(hfa:mg "answers"=some (.ref fa))(T:Txt K mg t):
  ∃fd:mw,(∀(s:ax) (us:List af),us.length=(wq:List ac).length->z6 s fd {us,[]} ((wq:List ac).zip us))/\∀base:bP,K.In base->base.Ns jp mg->jQ P w K mg base sL 16 fa fd wq (Lw K):=by
 have e:=hfa.symm.trans T.aeP.mg;cases e;obtain⟨fd,F,_⟩:=T.acF;have F':=F;obtain⟨oc,od,kV,doc,pm,an,cdv,ct,osl,rfl,lk,hcd⟩:=F.ex;exact⟨_,fun s us hu=>match us,hu with |[_],_=>.of_eq rfl,fun base _ _=>ajR T F'⟩
end
end _S
namespace PySem.W.Fast
def u:=Nat
def tw9587505465547434778:=u
def tw16675821776913517163:=u
def tw8174535744200500525:=u
def tw7598621590588166507:=u
def tw1804158787085610670:=u
def tw1420537398132626358:=u
def tw18052130488998241829:=u
def tw4320051410271472069:=u
def tw16348710899851321035:=u
def tw13333212295155610421:=u
def tw8719092684730043244:=u
def tw13865119053042198875:=u
def tw11604399445143231298:=u
def tw3556213052418002621:=u
def tw8096702767333481598:=u
def tw17633810161494340909:=u
def tw13583830277522916129:=u
def tw16597742441339137815:=u
def tw6884629203459821906:=u
def tw7733837603534829231:=u
def tw14609835999807798287:=u
def tw785124243062849805:=u
def tw15962342719800884614:=u
def tw17151467786202905621:=u
def tw17627376070534182632:=u
def tw1071636305009127475:=u
def tw3074183426654405600:=u
def tw6481390853748379636:=u
def tw8197413201898129993:=u
def tw11295413964884088118:=u
def tw9873181878845090684:=u
def tw14061902441693563744:=u
def tw9654379222593992902:=u
def tw16346268590126848713:=u
def tw9786586369499725054:=u
def tw14707728061276870097:=u
def tw13895551363891603318:=u
def tw18127122028025717329:=u
def tw2908508332981356791:=u
def tw14851378090790998327:=u
def tw15618986325070461801:=u
def tw4513016989177338086:=u
def tw16087287909335456848:=u
def tw12266104970185520261:=u
def tw11205741223661184417:=u
def tw16471323553359991189:=u
def tw7244805320626257600:=u
def tw2652218308641575935:=u
def tw1433930796471374875:=u
def tw6794427864478688116:=u
def tw8628678442988147536:=u
def tw15014277340551688016:=u
def tw5428090693333456102:=u
def tw3982948727251594051:=u
def tw9010932309181180006:=u
def tw15335286144311323004:=u
def tw1429528589951297544:=u
def tw16214290564527440615:=u
def tw3028236695666540523:=u
def tw4403118178135856933:=u
def tw11716376648810661059:=u
def tw14679763282474144406:=u
def tw2028716407922615367:=u
def tw5368446612279865353:=u
def tw17260527438929694340:=u
def tw4305679258596090905:=u
def tw18352964277453291290:=u
def tw1095229505726326766:=u
def tw10854529738615363188:=u
def tw334002729678120116:=u
def tw1331837334902871145:=u
def tw10104101229087038728:=u
def tw17542143303877742483:=u
def tw5634046017596340489:=u
def tw3602576751563670977:=u
def tw6390599768527921020:=u
def tw3930649028280018976:=u
def tw13995671450055281631:=u
def tw16628665696391216695:=u
def tw15551788055624470485:=u
def tw12038278713818500307:=u
def tw11234562723612791851:=u
def tw14314302952550394748:=u
def tw3692797082805777524:=u
def tw6650366692544151173:=u
def tw16949793575775441890:=u
def tw17588272989704623895:=u
def tw4307408476151890342:=u
def tw5456206204248095597:=u
def tw4875367140279395990:=u
def tw551973368452206613:=u
def tw3150011188289467022:=u
def tw1018796855503431978:=u
def tw2542319524596402031:=u
def tw2779405945327347533:=u
def tw2166354616494226009:=u
def tw3793906223236455764:=u
def tw3268717383334437125:=u
def tw14784858441226957537:=u
def tw2934338232063324892:=u
def tw8034853390832798302:=u
def tw17372142524256861651:=u
def tw6719554556423029559:=u
def tw11398772412791440118:=u
def tw11740365266292736486:=u
def tw12851242624805833475:=u
def tw3314171229418050234:=u
def tw8910815572112903997:=u
def tw12434331851596672799:=u
def tw16931281167043660646:=u
def tw1887847886759573506:=u
def tw7647654639191970649:=u
def tw12218761423126035332:=u
def tw7622664050511912232:=u
def tw14302701001842091941:=u
def tw18301856919370273304:=u
def tw1019680003695824068:=u
def tw17309801053114686670:=u
def tw6459440843442403921:=u
def tw6691031151064073359:=u
def tw919488897860420993:=u
def tw5818744835934896658:=u
def tw9118779655771301897:=u
def tw8316330904585602787:=u
def tw6669127032102593511:=u
def tw11487439082650124345:=u
def tw13582668621842181772:=u
def tw16475682018265148214:=u
def tw1900931831039718:=u
def tw13005826381559534431:=u
def tw9178478686973595883:=u
def tw3898644587786304060:=u
def tw2685624141687768918:=u
def tw3073374138953853131:=u
def tw1485188827094447584:=u
def tw5390444950679910143:=u
def tw3596384107154361477:=u
def tw3228820768735032294:=u
def tw9470330175565919549:=u
def tw1766311115024975157:=u
def tw14342520806490289761:=u
def tw3994859244118221879:=u
def tw6772263434096799524:=u
def tw3805413978055798161:=u
def tw6568311973733299697:=u
def tw516662225174807266:=u
def tw13204232157231195310:=u
def tw11056619331840387684:=u
def tw1246036063867157865:=u
def tw17479661167999114559:=u
def tw15421786366342689509:=u
def tw12232026074858461318:=u
def tw15665614669765751744:=u
def tw3160104960196319780:=u
def tw5874190008517996977:=u
def tw767725510995340030:=u
def tw1565745338043685114:=u
def tw12631081397913602464:=u
def tw1813981526500634820:=u
def tw4036284874609996244:=u
def tw10148996604839439835:=u
def tw15988882874344902853:=u
def tw9827192749160268216:=u
def tw12283291761374964063:=u
def tw3788433793943620226:=u
def tw12239227216125771990:=u
def tw1603007900907956975:=u
def tw2662332159826065608:=u
def tw13212032248814724061:=u
def tw18322823916429671920:=u
def tw7392078520781807396:=u
def tw1121341030809059476:=u
def tw6482740823981075887:=u
def tw5690808969573485180:=u
def tw14012047875340135440:=u
def tw8107441982412171047:=u
def tw1769908731483458674:=u
def tw15524397229484668345:=u
def tw8687502955646134777:=u
def tw14621523948086722054:=u
def tw185003581966308721:=u
def tw5770230372225870345:=u
def tw4460161562685213550:=u
def tw798556857213592511:=u
def tw4423026951620349219:=u
def tw17378860340624570856:=u
def tw3866653775604151418:=u
def tw2623251685191760946:=u
def tw1660602395151493024:=u
def tw6964557683942482636:=u
def tw8171562038208696221:=u
def tw15161431345650538020:=u
def tw7343046468405388622:=u
def tw13867149789263319274:=u
def tw18049161697710816146:=u
def tw6358506042988750071:=u
def tw1586621210122375456:=u
def tw13401515503448811060:=u
def tw8241793269967823738:=u
def tw11021320374249953495:=u
def tw3858303179005043320:=u
def tw3061431804876042807:=u
def tw10234408262000735624:=u
def tw5378968438669200560:=u
def tw2870146229373726131:=u
def tw9072734722262578352:=u
def tw6936477306528126177:=u
def tw14488417412515648715:=u
def tw5789838529829318746:=u
def tw12649366063769852180:=u
def tw15656073293853010112:=u
def tw11144975961348273327:=u
def tw1668291332757463401:=u
def tw117112422480263000:=u
def tw8974815531235340601:=u
def tw11853927836813701428:=u
def tw16000073982110956703:=u
def tw14592811107615143050:=u
def tw9111936751374244152:=u
def tw5511763601576775073:=u
def tw3695027338497108486:=u
def tw6306068572573306771:=u
def tw13803996894002352033:=u
def tw5032936242342546011:=u
def tw17265411792067337322:=u
def tw15461399508997306571:=u
def tw8690435643788957868:=u
def tw11894000808320916531:=u
def tw12126653653018397904:=u
def tw9851478826277297265:=u
def tw8072734827731222803:=u
def tw14618071717792379790:=u
def tw13055974353875360721:=u
def tw14599387002752661923:=u
def tw9892208342820776467:=u
def tw14257038365807875185:=u
def tw12483993150359046316:=u
def tw6882235995561067622:=u
def tw12000888052406923434:=u
def tw5712571488640929782:=u
def tw11517975289578312075:=u
def tw1745622071459155002:=u
def tw17315886060770689933:=u
def tw2315085814183327304:=u
def tw5245110420326647005:=u
def tw16003831126704001665:=u
def tw17128777261165815380:=u
def tw1232217355650219821:=u
def tw10820057171962262569:=u
def tw14663809601367736744:=u
def tw6264772323443227786:=u
def tw16153231674886853748:=u
def tw2627898473202302704:=u
def tw14681335620615387621:=u
def tw16905975249833719212:=u
def tw4741441633347318409:=u
def tw2749142023973567665:=u
def tw2785812084354481631:=u
def tw1430611477080154323:=u
def tw8338297720214115701:=u
def tw9603644454001037021:=u
def tw16866034988698582222:=u
def tw3647262509540350383:=u
def tw9869834868029486947:=u
def tw2221067127236426537:=u
def tw8756784596324080614:=u
def tw4746406428283626589:=u
def tw9059166096640602774:=u
def tw4393611086715177274:=u
def tw9440736338570999258:=u
def tw1338059071290231806:=u
def tw15203524430814827900:=u
def tw13217478271287300442:=u
def tw178271775452440231:=u
def tw140595040018597115:=u
def tw14457131907617886506:=u
def tw1354195167356296202:=u
def tw15375382146386437216:=u
def tw4423164866994468896:=u
def tw17143379343437251515:=u
def tw7169616326143688248:=u
def tw10978517349932203092:=u
def tw15224511807260056713:=u
def tw18083975528566839333:=u
def tw12286987650184719443:=u
def tw478554234668771149:=u
def tw6614448261511553342:=u
def tw14915263365341916733:=u
def tw7802859670792200589:=u
def tw780058463079969956:=u
def tw14963305783032714972:=u
def tw14594668568541162162:=u
def tw12870829119097863531:=u
def tw3874037934791668972:=u
def tw2884571624278840397:=u
def tw14491265514591810171:=u
def tw18317341801625622931:=u
def tw3680017412625198138:=u
def tw1501382071734931053:=u
def tw10423481495657816344:=u
def tw553609838518818646:=u
def tw2516813634628735059:=u
def tw9981990699191225720:=u
def tw12947150361254047998:=u
def tw3946238297900664100:=u
def tw2810877776482685353:=u
def tw673098952834855657:=u
def tw10747511021427335723:=u
def tw17066965240823931323:=u
def tw6799289344693692508:=u
def tw13360210136765231332:=u
def tw17382651929728190785:=u
def tw18303093804992870440:=u
def tw18167605166566757169:=u
def tw7569778471799894741:=u
def tw4732717791186649571:=u
def tw6322775201137008137:=u
def tw16972351056265796299:=u
def tw3318639647651914347:=u
def tw11075364898707104703:=u
def tw18273675582337982571:=u
def tw10624661284534072258:=u
def tw5472593888846832707:=u
def tw3227796396024210397:=u
def tw10630428782004313276:=u
def tw4639956830642190524:=u
def tw10305986050856835286:=u
def tw224288757849939925:=u
def tw9672148332009239695:=u
def tw3814046506175332614:=u
def tw9928590736211135738:=u
def tw550258340576247106:=u
def tw7028207624215722946:=u
def tw9294471075497986040:=u
def tw17106189784025327417:=u
def tw8725867876682696233:=u
def tw17594863499464850684:=u
def tw18425498767264993222:=u
def tw2616362653105250730:=u
def tw86491508938247953:=u
def tw4827950855815323940:=u
def tw9425007171600050326:=u
def tw14375243417442641688:=u
def tw17162058983067058010:=u
def tw2384036745295806713:=u
def tw4580415551105474437:=u
def tw13937550819364148532:=u
def tw12528950729956152619:=u
def tw5490258298513081806:=u
def tw17292147350394329690:=u
def tw12359616090875080947:=u
def tw5985885864830755734:=u
def tw9534905667016188659:=u
def tw3452790238131414824:=u
def tw11923411227682264405:=u
def tw5856562178155598364:=u
def tw8666818700162787703:=u
def tw15291787554799921162:=u
def tw5077460571869693804:=u
def tw5681602404354555879:=u
def tw12632473313905335135:=u
def tw1948750685151975632:=u
def tw15255295889335394281:=u
def tw1916065667449549137:=u
def tw1495362453677000301:=u
def tw11274382390536167577:=u
def tw3965287294385009344:=u
def tw1961604405077305972:=u
def tw4077508280285046239:=u
def tw3620996350005300336:=u
def tw16486630026135633289:=u
def tw7126027259195772216:=u
def tw10692316019360716365:=u
def tw5386856857278832438:=u
def tw9359971135398386895:=u
def tw934442480911770068:=u
def tw12739620846686497932:=u
def tw3102469489448434016:=u
def tw4494685910826813001:=u
def tw14067773185484320694:=u
def tw17146197240530188593:=u
def tw14521795927093743680:=u
def tw16031641780540594462:=u
def tw15542410145174502328:=u
def tw15231927915983835289:=u
def tw8245965768279442392:=u
def tw1777104969244715737:=u
def tw5623792186121120002:=u
def tw12711499123215472879:=u
def tw2239228873143162224:=u
def tw388816926571919807:=u
def tw12381357922219638823:=u
def tw1803510312000218601:=u
def tw14414611377907788390:=u
def tw3819375410023078350:=u
def tw4260794374183690325:=u
def tw13871306864927161286:=u
def tw16928870793497966035:=u
def tw598207156657255626:=u
def tw14532658763633233919:=u
def tw17693966627216612159:=u
def tw624889658826155811:=u
def tw9866435241953474652:=u
def tw16591590144652364811:=u
def tw1968165882146298201:=u
def tw702446018662879596:=u
def tw13748984796842403844:=u
def tw12614309459353370141:=u
def tw12956244284083944450:=u
def tw12463730462927457880:=u
def tw7709015968116529050:=u
def tw7198249568687765897:=u
def tw16326560543403425103:=u
def tw43519507448294539:=u
def tw16777505851465904854:=u
def tw4562016916342814542:=u
def tw13649918734378296184:=u
def tw137578212887096373:=u
def tw18285974553066479696:=u
def tw11798233934382473451:=u
def tw3219797001029013561:=u
def tw15925321175611918667:=u
def tw8159989733748382500:=u
def tw7075808284751478606:=u
def tw13762944377890032526:=u
def tw1319402852312938368:=u
def tw17099117476614143005:=u
def tw5393511830869915825:=u
def tw925656706795104505:=u
def tw5234285058649208787:=u
def tw5838678898735958236:=u
def tw7583299723704434413:=u
def tw9777926570143409653:=u
def tw8385687216323249477:=u
def tw13449012226338714916:=u
def tw12842272899687839825:=u
def tw647820916807902165:=u
def tw5493282318830492679:=u
def tw9984595150148591227:=u
def tw16771568330607223306:=u
def tw6421075210961249109:=u
def tw15963768649892871362:=u
def tw2397365260052007119:=u
def tw16490207305792070277:=u
def tw184097478139393648:=u
def tw13355315077302045832:=u
def tw6419527354691341459:=u
def tw3370933571317854279:=u
def tw12098863420346260091:=u
def tw276072602972583693:=u
def tw10316997124869777926:=u
def tw1870752085363390397:=u
def tw2187993551263154431:=u
def tw5794085943184012847:=u
def tw7680697382674609168:=u
def tw17714691603073880089:=u
def tw12880054302631040528:=u
def tw11274623740090122107:=u
def tw12418911655654709837:=u
def tw12257977268882947775:=u
def tw371838732687509801:=u
def tw8085337209449327046:=u
def tw14378414510587300442:=u
def tw3090514965256047690:=u
def tw17968726577829147689:=u
def tw4038645552974782322:=u
def tw13698038044102050987:=u
def tw14150103745697260772:=u
def tw18192262063591251661:=u
def tw15414788666754645397:=u
def tw10434662888290902896:=u
def tw2718382058036951960:=u
def tw15599431361827744771:=u
def tw15198294620099712435:=u
def tw6011912631123601602:=u
def tw4244864881113919881:=u
def tw6797774777611909377:=u
def tw13621462513587878176:=u
def tw16513319231413199218:=u
def tw1629861613846204336:=u
def tw11481996682790956011:=u
def tw9541723610029835051:=u
def tw10172848402750636841:=u
def tw14567554246904298038:=u
def tw7470410008556468483:=u
def tw5633830416718462871:=u
def tw16081254876950168031:=u
def tw7048800891160362639:=u
def tw15387598008520346312:=u
def tw8888015441864699864:=u
def tw5040457033115444973:=u
def tw15942871613604763818:=u
def tw15259159297883834778:=u
def tw14379568451455560568:=u
def tw16503480283139316999:=u
def tw13110812323521275340:=u
def tw2368791795218555779:=u
def tw7668505427377529090:=u
def tw6049512921015660736:=u
def tw9508734073255967581:=u
def tw4576966317646657716:=u
def tw11555507661431914332:=u
def tw10710157291884819974:=u
def tw5225159417959503478:=u
def tw1381657562003414537:=u
def tw11134271748835099454:=u
def tw14084331910553889093:=u
def tw8292786700518351910:=u
def tw18250024541077545928:=u
def tw13208647126780299838:=u
def tw1921050940885032999:=u
def tw6872233338423173545:=u
def tw1395319138574432885:=u
def tw5809545851527735189:=u
def tw16380045193111879646:=u
def tw13602325977731221564:=u
def tw14602727080038290350:=u
def tw13926845389362437071:=u
def tw16567422326798132931:=u
def tw7119450476665738385:=u
def tw251646928611832219:=u
def tw988018226609278701:=u
def tw6530559766535829218:=u
def tw3919677458302323881:=u
def tw4364764459382133127:=u
def tw16393269936821236409:=u
def tw5933250595982257864:=u
def tw5920911529288271194:=u
def tw5216698851498839081:=u
def tw8411324030975749872:=u
def tw3043077971514771110:=u
def tw18008646793371514119:=u
def tw5080633534623876857:=u
def tw12970661306582182894:=u
def tw16113332216542319342:=u
def tw8142306746758576698:=u
def tw4320950011681858708:=u
def tw16815466255660784203:=u
def tw10132830043813355770:=u
def tw8397975651398637981:=u
def tw2805065363917415540:=u
def tw9710303602411719157:=u
def tw6898342401336856352:=u
def tw8382824404458456587:=u
def tw11379810822541383958:=u
def tw2439997971393859666:=u
def tw13932321607095986759:=u
def tw2391269114159231916:=u
def tw7017600814457321883:=u
def tw3968366314486421543:=u
def tw7227598828669244738:=u
def tw18427420792339641598:=u
def tw13906343707026739678:=u
def tw11744767227715048456:=u
def tw9327871727293418846:=u
def tw15009337971451583413:=u
def tw13933333102157506185:=u
def tw4620860652567279598:=u
def tw18371153203669916598:=u
def tw10443386044747356360:=u
def tw12780444274307816449:=u
def tw17519707428427783911:=u
def tw1708934002757193137:=u
def tw14315573467165552375:=u
def tw8459845088462276092:=u
def tw1943117549553425772:=u
def tw2143310668147340187:=u
def tw12582059125654087817:=u
def tw8056387426684178247:=u
def tw9024658385821561691:=u
def tw2270768939840768448:=u
def tw10030492949225082129:=u
def tw12859116880807370125:=u
def tw17992753020671722877:=u
def tw15804063838794795630:=u
def tw10993655008569485023:=u
def tw12319371812928772876:=u
def tw4607835176467676946:=u
def tw4091978713821208048:=u
def tw4952276146369874907:=u
def tw15928283786137645250:=u
def tw12445393981605241284:=u
def tw9855922713211006345:=u
def tw6699094626125587332:=u
def tw6737856472763725650:=u
def tw15568827602432765179:=u
def tw13694958687943120026:=u
def tw336043857179722014:=u
def tw10604259087472783871:=u
def tw8672276980022810485:=u
def tw7557610298853316627:=u
def tw15943436135149276349:=u
def tw2000482336472942074:=u
def tw4860491216775972289:=u
def tw5519475757001731681:=u
def tw13141097154955496514:=u
def tw8751456592748276213:=u
def tw13196780133281538241:=u
def tw5616707179733344297:=u
def tw11910742840223098146:=u
def tw13378652974836420866:=u
def tw5372922701890414259:=u
def tw10302478864906040595:=u
def tw10091517026140127488:=u
def tw316141813764467552:=u
def tw15819969425668280807:=u
def tw18014788813090205246:=u
def tw6535565586265786579:=u
def tw4789726987508168696:=u
def tw11483513187707663906:=u
def tw16856569155961999348:=u
def tw3542251163662501962:=u
def tw12864646616718899574:=u
def tw11658964256518461921:=u
def tw12355795440995621716:=u
def tw11347493808219224827:=u
def tw4540240034886303242:=u
def tw6651244298779474473:=u
def tw10460549966269261017:=u
def tw10881088572497445463:=u
def tw14472112968681673684:=u
def tw3137877904881123447:=u
def tw1783460577665591390:=u
def tw12113251425252282396:=u
def tw14431217008454415766:=u
def tw9594100188214792394:=u
def tw7276831338798681505:=u
def tw8902659780637627214:=u
def tw5071697671123161108:=u
def tw13610075828342460482:=u
def tw13296465071329936368:=u
def tw168494583805445807:=u
def tw7173224523765521887:=u
def tw272459993211012200:=u
def tw4609884364027838506:=u
def tw6350242175013086943:=u
def tw9759067775644276513:=u
def tw5122703632879713770:=u
def tw7221837522966858840:=u
def tw2487959850042123378:=u
end PySem.W.Fast
open PySem PySem.W PyProof.Rows
set_option maxRecDepth 100000 in
set_option maxHeartbeats 0 in
theorem PySem.Challenge.cw_soundpages_s01_answers_holds : PySem.Challenge.rw_soundpages_s01_answers.Holds := by
 have:¬False:=by decide+kernel
 have:=wSaid;w_on; k_headS; (case hw => exact ⟨[.list [.int 0]], by decide +kernel, by decide +kernel⟩)
 k_fillS
 refine _L.ap4 (r := PySem.Challenge.rw_soundpages_s01_answers) (k := 16) (CX := _L.sL) (ps := _S.wq) (sp := _S.Lw) (by decide +kernel) rfl rfl ⟨rfl, by decide, by decide⟩ (fun w h Y => PySem.W.kIn_of Y) ?F ?S (fun _ _ _ _ z => z)
 case F =>
  intro w mg fa h Y KX G hmg
  refine _S.apR hmg (t := ⟨114,163,224,246,267,424,448,502,616,637,733,754,803,885,927,20,27,34,41,48,55,69,76,83,90,97,104,111,132,139,146,153,160,172,186,193,200,207,214,221,243,264,276,283,297,304,311,316,323,330,337,344,351,358,365,372,379,386,393,400,407,414,421,445,466,473,480,487,494,499,513,520,527,534,541,548,553,558,565,572,579,584,592,606,613,634,655,662,669,676,683,690,697,704,711,718,723,730,751,772,779,786,793,800,814,821,828,835,842,856,863,870,875,882,903,910,917,924,938,945,229,429,430,431,585,15⟩) ?T
  case T =>
   constructor
   all_goals try dsimp only
   all_goals try (refine' _S.bk KX G ?_ ?_ ?_ ?_ ?_ ?_ ?_ ?_ ?_ <;> k_is)
   all_goals try (refine' _L.cf.mk ?_ ?_ ?_ <;> k_is)
   all_goals try (refine' _S.bg KX G ?_ ?_ <;> k_is)
   all_goals try exact _S.bd (by k_is) (by k_is) (by k_is) (by first | exact fun _ _ _ _ _ _ us hl => _S.ar1 us hl fun _ => rfl | exact fun _ _ _ _ _ _ us hl => _S.ar2 us hl fun _ _ => rfl | exact fun _ _ _ _ _ _ us hl => _S.ar3 us hl fun _ _ _ => rfl)
   all_goals try (unfold _L.bO; k_is)
   all_goals try exact _S.bi KX G (by k_is)
   all_goals try exact _S.bs KX G (by k_is)
   all_goals try (refine' PySem.W.mg_none_of KX G ?_; k_is)
   all_goals try (refine' PySem.W.mg_of KX G ?_; k_is)
   all_goals try (refine' _S.bq (by k_is) ⟨by decide, ?_⟩; repeat (first | exact .nil | refine .cons ⟨_, rfl⟩ ?_))
   all_goals try (refine' _S.apX (by k_is) (by first | rfl | decide))
 case S =>
  intro K H xs a hO Ig afN hx
  cases hx with
  | cons h1 h2 =>
   cases h2
   cases h1 with
   | ag hs ha =>
    have e := _L.agQ a.1 _ ha
    subst e
    exact ⟨_, a.1, rfl, hs, afN, fun H' p s hp => .ag (_L.aB.of hp) (_L.adA _)⟩
