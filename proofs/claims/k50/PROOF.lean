import PyProof.Rows.All
import Wide.All
import OpenK.AllK
import Wide.FinOn
import Lean
import PyProof.EqAt
import PyProof.EqKinds
import PyProof.TupleCall
import KE.KDictList
import KE.KMinKey
import PyProof.ListRange
import KE.KIntText
import PyProof.ReprRoads
import KE.KSortAsk
import KE.KSortTup
import PyProof.Rows.TupTab
import PyProof.TupleOfSeq
import PyProof.Rows.SortStr
import PyProof.Rows.SortWalk
import KE.KRevIter
import PyProof.TupleOfGen
import PyProof.StrBlockL
import PySem.Challenge.RW_leastasks_k50_groups
set_option Elab.async false
set_option linter.all false
set_option maxRecDepth 100000
set_option maxHeartbeats 4000000
set_option genSizeOf false
set_option genInjectivity false
open Option renaming some→a4,none→a7,getD_some→df,isSome_some→eA,join_some→il,getD_none→ip,map_some→iH,bind→jN
open Bool renaming false→a5,true→a6,or_eq_true→bW,eq_iff_iff→bX,not_eq_true'→eU,and_false→fU,or_false→gb,false_or→gc,false_and→jD,true_and→jP,beq_comm→jQ,and_true→jR
open PySem renaming starEach→a8,Value→aa,Addr→ae,Str→af,Shared→ah,Expr→ai,wpAny_bind→aj,sizeLine→ak,mainGlobals→aq,Program→ar,wpAny→ax,model→ay,eval→az,World→aA,wpAny_pure→aC,Around→aD,Heap→aE,FuncData→aG,foldedSetIterable→aH,reprText→aI,Stmt→aJ,Pos→aK,behindInMarks→aL,attributeBase→aM,backTo→aO,swapsWith→aP,cellsFrom→aQ,Keyword→aR,keywordEach→aT,cLine→aU,compareOp→aX,wpAny_mono→aZ,bootBuiltins→b0,binaryOp→b7,Scope→b8,wpAny_truthy_bool→bf,wpAny_Call_Name_kw→bh,backToKw→bo,assignEach→bp,NameKind→bq,sizeLine_eq→br,wpAny_newObj_type→bA,call_meets→bB,recursionLimit→bD,codeAny_mono→bU,bindArgs→bZ,holding→c8,codeAny→c9,Obj→cb,wpAny_field→cq,Env→cu,wpAny_pyIter_list→cB,assign→cI,wpAny_holding→cL,sliceBounds→cO,wpAny_passesOwn→cY,noteFrame→de,builtinsNs→dk,swapsWithSole→dC,swappedStores→dD,wpAny_call_entry→dN,wpAny_callSpecial?_slot→dO,PassesOwn→dP,Builtin→dX,letOwnedTupleGo→dZ,draw→eE,newFunctionEnv→eM,intItems→eN,Result→eO,JoinOk→eQ,IsPart→eR,wpAny_standAt→fb,wpAny_pyIter_tuple→fj,typeIs_str→fm,typeIs_int→fq,isTrue→ft,wpAny_loadPart_at→fJ,standAt→fK,intText?→fM,concat_meets→fN,callerA→fO,boot_len→fP,CmpOp→fQ,BindsTo→fR,noFill_tuple_add→fW,numAt→fZ,Model→g6,wpAny_execs_nil→gh,codeAny_builtin→gm,wpAny_newFunctionEnv_cells→gO,GenState→gP,wpAny_binaryOp_repeat_ref→hR,wpAny_comprehension_free→i4,seq_tuple_add→i5,call→i6,pushCells→ic,bindL→ie,bindC→ig,Arguments→ij,wpAny_noteFrame_againW→iB,seqSlot_of→iC,seqIndex_neg→iD,getItem→iE,wpAny_setFlight_noneW→iL,wpAny_isTrue_Compare1→iM,codeAny_call_function→iN,seqIndex_of→iT,lookup_relabel_local→iU,intItems_at→iV,codeAny_call_builtin→iW,Operator→iX,wpAny_call→jG,wpAny_Name→jH,sysModules→jI,rawInt→jJ,pyIter→jK,Tok→jL,wpAny_pyIter_enum→jU,wpAny_assign_Name→jV,relabel→jW,call_sum_walkAnyS→jX,again→jY,wpAny_execs_cons→ku,setFlight→kv,seqIndex?→kx,rule→ky,lastMarks→kz,checkBuiltinCall→kA,DictEntry→kB,pushCells_keeps→kY,Sem→kZ,wpAny_setField→lp,wpAny_seqItems→lq,wpAny_Compare1→lr,typeOf→ly,fitsIndex_both→lz,firstArgMember→lA,compEnvC→lC,Params→lD,Meets→lE,wpAny_newList→lK,intBits_le_64→lL,evalPart_none→lM,call_list_seq→lN
open List renaming replicate→ao,range→au,mem_of_mem_take→bK,not_mem_nil→bO,map_nil→bP,filterMap_cons→bT,foldl_cons→bV,take_add_one→cc,getElem?_set_self→cf,drop_zero→cg,take_length→cw,getElem_inj→cy,cons_append→cz,of_mem_zip→cC,length_nil→cD,map_congr_left→cJ,idxOf_lt_length_of_mem→cM,set_cons_succ→cQ,map_replicate→cR,getElem?_append_right→cS,foldl→cU,drop_eq_getElem_cons→d6,getElem?_cons_zero→dn,range_succ_eq_map→dy,length_replicate→dM,mem_of_mem_drop→dS,length_zipIdx→eJ,filter_append→eK,map_set→eT,nil_append→fB,find?_cons→fC,all_cons→g9,pairwise_singleton→gp,filter_cons_of_pos→gr,filter_cons_of_neg→gu,eraseIdx_cons_succ→gv,any_map→gB,singleton_append→gW,length_singleton→gX,length→hV,getElem?_mapIdx→hZ,mem_map_of_mem→i8,find?_eq_none→iq,contains_cons→ir,reverse_cons→iI,range'_succ→iO,drop_length→iP,any_toArray→iQ,mem_zipIdx→iY,idxOf_cons→iZ,nodup_nil→jC,map_drop→jO,set_set→jZ,all_map→k6,range'→kH
open Option.some renaming inj→aw
open PySem.Builtin.Str renaming strSliceIndices→aB,tooLong→cn,occurrences→f9,glued→lj
open PySem.Value renaming ref→aF,none→aV,str→bg,int→bx,bool→bI,builtin→d7,type→dr
open Or renaming inl→aN,inr→bu
open False renaming elim→aS
open PySem.Builtin.SmallTypes renaming nextOf→aW
open PySem.Builtin renaming bitXor→aY,bitAnd→cH
open PySem.NameKind renaming free→b9,cell→bC
open PyProof.Rows renaming envOfC→ba,boot_isinstance→cZ,AllBare→dw,FormattedValue_plain→eS,IntsAre→gz,seqObj→gQ,SortKind→gT,IsTup→ik,subscriptTail_builtinR→iF,StrsAre→iG,slot_tuple_getitem→jM,formatField_str→l5,slicePart_none→lH,Keyed→lI,subscriptTail→lO
open PySem.Txt renaming slice→bc,join→dU,mul→iy,split→lJ
open PySem.Builtin.Slice renaming slicePlaces→bE,sliceAdjust→cA,sliceApplied→eD,slicePartIndex→kq,sliceFields→kr
open Ne renaming symm→bF
open PySem.Builtin.Tuple renaming tupleExact→bG,tupleTooMany→eC,tupleItemsOf→ko
open PySem.Builtin.List renaming listTooLong→bH
open PySem.Heap renaming size_push→bJ,SameBut→cK,ExtBut→fh,get?_update_other→gx,get?_update_self→gJ
open Nat renaming pow_le_pow_right→bL,ne_of_gt→bS,lt_of_le_of_lt→d4,lt_succ_of_lt→dh,le_of_lt→dE,mul_comm→eX,lt_succ_self→fv,pow_succ→gU,not_lt_zero→jA,min_eq_left→jB,succ_mul→kC,sub_zero→kD,min_self→kE,lt_or_ge→kF,log2_lt→l6
open Int renaming one_mul→bM,ediv_eq_zero_of_lt→cj,pow_pos→di,pow_succ→dH,mul_comm→dJ,toNat_of_nonneg→eG,emod_eq_of_lt→eY,fdiv_eq_ediv_of_nonneg→fX,mul_assoc→gw,add_comm→gY,add_mul_ediv_left→i0,natCast_nonneg→iJ,ne_of_gt→kI,mul_one→l7,le_refl→l9
open PySem.AutoSeq1 renaming wpAny_loadPart'→bN
open ForInStep renaming yield→bQ
open PySem.F renaming slot_tuple_iterator_next→bR,slot_list_append→bY,type_list_append→cW,args_tuple_add_2→cX,entry_tuple_add→d8,slot_tuple_add→dj,slot_int_rmul→dR,excBase_ValueError→fi,args_tuple_iterator_next_1→fV,entry_tuple_iterator_next→fY,slot_tuple_index→gK,slot_list_extend→gL,slot_list_index→gZ,slot_list_clear→hJ,typeOf_object_class→i9,slot_str_join→ia,slot_list_pop→ib,args_tuple_mul_2→iS,entry_tuple_mul→ja,args_int_rmul_2→jv,slot_tuple_mul→jE,entry_int_rmul→jF,fills_int_mul→jT
open Array renaming length_toList→cE,getElem?_toList→gG,toList→jS
open PySem.SeqAt renaming EqAt→cN,RcAt→fE
open PySem.Str renaming empty→cP,ofString→dz,cps→fS,length→lh
open PySem.W renaming mg_of→cV,OpenLaw→d9,nsIn→fD,findIn→gI,WalkO→i3,looks_findIn→iu,fnOf→iw,KitX→iR,Frag→lb
open Classical renaming propDecidable→d5,byContradiction→ff
open PySem.PyData renaming int→dm,showableAll→dY,hasDictAll→eI,depthAll→eZ,showable→iz,hasDict→iK,depth→j3
open List.Perm renaming refl→du,eq_of_pairwise→fw,swap→i7
open PySem.Obj renaming mapSeq→dB,data_mapFields→iA
open Function renaming comp→dQ
open PySem.PassesOwn renaming leaving→dW
open Sum renaming inr→eV,inl→eW
open PySem.Calls renaming Name_function_global→fH,callWith_builtin→gf,evalArgs_plain→gN
open PySem.EqMixed renaming ne_str_int→k7,ne_str_bool→k8,ne_int_str→k9,ne_bool_str→ka,eq_str_int→ke,eq_str_bool→kg,eq_int_str→ki,eq_bool_str→kn
open PySem.EqNone renaming ne_str_none→kJ,ne_none_str→kK,ne_none_none→kL,ne_none_int→kM,ne_none_bool→kN,ne_int_none→kO,ne_bool_none→kP,eq_str_none→kQ,eq_none_str→kR,eq_none_none→kS,eq_none_int→kT,eq_none_bool→kU,eq_int_none→kW,eq_bool_none→kX
def kh:=@List.getElem?_eq_getElem
def xf:=@List.getD_eq_getElem?_getD
def xg:=@List.mem_cons_of_mem
def xj:=@List.length_map
def xm:=@Bool.false_ne_true
def xn:=@List.mem_cons
def xq:=@List.mem_cons_self
def xr:=@PySem.Heap.lt_size
def xu:=@List.size_toArray
def xx:=@List.getElem?_map
def X3:=@List.map_cons
def X4:=@List.length_cons
def X5:=@Int.toNat_natCast
def X6:=@List.mem_singleton
def X7:=@Nat.le_refl
def X8:=@PySem.Heap.get?_push_of_some
def Xa:=@List.mem_range
def Xb:=@List.getElem?_eq_some_iff
def Xc:=@List.getElem?_eq_none
def Xd:=@Bool.and_eq_true
def Xe:=@List.length_append
def Xf:=@Nat.le_trans
def Xg:=@List.map_map
def Xh:=@List.mem_map
def Xi:=@PySem.Heap.get?_push_size
def Xj:=@Nat.ne_of_lt
def Xk:=@Nat.lt_of_lt_of_le
def Xl:=@List.mem_of_getElem?
def Xm:=@List.length_take
def Xn:=@List.lookup_cons
def Xo:=@List.mem_append_right
def Xp:=@List.map_append
def Xq:=@List.nodup_cons
def Xr:=@Option.isSome_iff_exists
def Xu:=@List.getElem?_range
def Xv:=@Int.zero_add
def Xw:=@List.length_range
def Xx:=@List.append_nil
def Xy:=@List.all_eq_true
def Xz:=@List.ext_getElem?
def ph:=@List.mem_append
def pq:=@Int.emod_nonneg
def P0:=@Int.emod_lt_of_pos
def Pa:=@List.length_drop
def Pb:=@Nat.le_succ
def Pg:=@PySem.mem_of_lookup
def Ph:=@List.replicate_succ
def Pj:=@Nat.lt_irrefl
def Pk:=@Nat.lt_trans
def Pn:=@List.mem_filter
def Pq:=@PySem.PassesOwn.never
def Pr:=@Bool.false_eq_true
def Pu:=@PySem.F.plainAttrs_list
def Py:=@List.getElem_mem
def Pz:=@List.getElem?_append_left
def t6:=@List.length_filter_le
def t7:=@List.mem_filterMap
def t8:=@List.getElem?_set_ne
def tu:=@List.getElem?_cons_succ
def T3:=@Array.toList_append
def T4:=@Option.map_eq_some_iff
def T5:=@List.any_cons
def T6:=@PySem.W.hideAll_none
def T7:=@List.mem_replicate
def T8:=@List.contains_iff_mem
def T9:=@Nat.zero_le
def Tc:=@List.mem_append_left
def Td:=@Nat.zero_add
def Te:=@List.flatten_cons
def Tf:=@List.take_of_length_le
def Tg:=@Array.append_inj_right
def Th:=@List.set_cons_zero
def Ti:=@List.length_set
def Tp:=@List.append_assoc
def Tq:=@List.getElem?_set
def Tt:=@Nat.lt_of_succ_le
def k7w:=@And.intro
abbrev k7x:=lb
abbrev k7y:=aa→ah→Prop
abbrev k7z:=List (ae×cb)
abbrev k80:=af→Option aa
abbrev k81:=("__debug__":af)
abbrev k82:=("__classdict__":af)
local macro_rules | `(tactic| omega)=>`(tactic| first | with_reducible assumption | with_reducible exact Nat.le_of_lt (by assumption) | with_reducible exact Nat.le_refl _ | lia)
local macro_rules | `(nofun)=>`(by omega)
section
namespace L2
open PySem PySem.Spec PyProof.Rows
noncomputable abbrev Key:=Sum Int af
noncomputable def ja3:Key->aa->Bool
 |.inl k,v=>Value.isInt k v
 |.inr x,v=>Value.isStrOf x v
noncomputable def jla(w:aA):Key->Int
 |.inl k=>hashInt k
 |.inr x=>hashStr w x
theorem v5:∀{k:Key}{v:aa},ja3 k v=a6->(∃i t,k=eW i/\v=bx i t)\/(∃x t,k=eV x/\v=bg x t)
 |.inl i,v,h=>by obtain⟨t,e⟩:=Value.isInt_shape (k:=i) (v:=v) h;exact .inl ⟨i,t,rfl,e⟩
 |.inr x,v,h=>by obtain⟨t,e⟩:=Value.isStrOf_shape (x:=x) (v:=v) h;exact .inr ⟨x,t,rfl,e⟩
theorem jg0(a b:Int):decide ((eW a:Key)=eW b)=(a==b):=by
 by_cases e:a=b
 .subst e;simp
 .have h:¬(eW a:Key)=eW b:=λq=>e (Sum.inl.inj q);rw[decide_eq_false h];exact(beq_eq_false_iff_ne.mpr e).symm
theorem jfx(a b:af):decide ((eV a:Key)=eV b)=decide (a=b):=by
 by_cases e:a=b
 .subst e;simp
 .have h:¬(eV a:Key)=eV b:=λq=>e (Sum.inr.inj q);rw[decide_eq_false h,decide_eq_false e]
theorem jfz(a:Int)(b:af):decide ((eW a:Key)=eV b)=a5:=decide_eq_false (λq=>nomatch q)
theorem jfy(a:af)(b:Int):decide ((eV a:Key)=eW b)=a5:=decide_eq_false (λq=>nomatch q)
noncomputable def j1g(prog:ar)(w:aA):PySem.KeyKind prog w Key where
 is:=ja3
 hash:=jla w
 inj:=λv a b ha hb=>by
  rcases v5 ha with ⟨i,t,rfl,rfl⟩|⟨x,t,rfl,rfl⟩
  .rcases v5 hb with ⟨j,u,rfl,e⟩|⟨y,u,rfl,e⟩
   .injection e with e1 _;rw[e1]
   .exact nomatch e
  .rcases v5 hb with ⟨j,u,rfl,e⟩|⟨y,u,rfl,e⟩
   .exact nomatch e
   .injection e with e1 _;rw[e1]
 byValue:=λk v h=>by rcases v5 h with ⟨i,t,rfl,rfl⟩|⟨x,t,rfl,rfl⟩<;>rfl
 pyHash:=λhv h=>by
  rcases v5 hv with ⟨i,t,rfl,rfl⟩|⟨x,t,rfl,rfl⟩
  .exact wpAny_pyHash_int h
  .exact wpAny_pyHash_str h
 eqBool:=λhu hv h=>by
  rcases v5 hu with ⟨i,t,rfl,rfl⟩|⟨x,t,rfl,rfl⟩
  .rcases v5 hv with ⟨j,u,rfl,rfl⟩|⟨y,u,rfl,rfl⟩
   .rw[jg0]at h;exact wpAny_eqBool_int h
   .rw[jfz]at h;exact SeqAt.EqAt.int_str i t y u _ _ _ _ h
  .rcases v5 hv with ⟨j,u,rfl,rfl⟩|⟨y,u,rfl,rfl⟩
   .rw[jfy]at h;exact SeqAt.EqAt.str_int x t j u _ _ _ _ h
   .rw[jfx]at h;exact wpAny_eqBool_str h
 «strs»:=λk x t v h=>by
  rcases v5 h with ⟨i,u,rfl,e⟩|⟨y,u,rfl,e⟩
  .exact nomatch e
  .injection e with e1 _;subst e1;cases v<;>rfl
set_option genInjectivity true in
inductive V where
 |non|bl (b:Bool)|int (i:Int)|str (x:af)|byt (b:Array UInt8)|flt (b:UInt64)|ref (a:ae)|ty (n:String)
 deriving DecidableEq
def RelV:V->aa->Prop
 |.non,u=>u=aV
 |.bl b,u=>u=bI b
 |.int i,u=>∃t,u=bx i t
 |.str x,u=>∃t,u=bg x t
 |.byt b,u=>∃t,u=Value.bytes b t
 |.flt b,u=>∃t,u=Value.float b t
 |.ref a,u=>u=aF a
 |.ty n,u=>u=dr n
abbrev Vals:List V->List aa->Prop:=Paired RelV
theorem Vals.length{xs:List V}{us:List aa}(r:Vals xs us):xs.length=us.length:=Paired.length r
theorem Vals.get:∀{xs:List V}{us:List aa}{i:Nat}{x:V},Vals xs us->xs[i]?=a4 x->∃u,us[i]?=a4 u/\RelV x u
 |_,_,_,_,.nil,e=>by simp at e
 |_,_,0,_,.cons r _,e=>by simp at e;subst e;exact⟨_,rfl,r⟩
 |_,_,i+1,x,.cons _ t,e=>by obtain⟨u,h1,h2⟩:=Vals.get (i:=i) (x:=x) t (by simpa using e);exact⟨u,by simpa using h1,h2⟩
theorem Vals.set{x:V}{u:aa}(r:RelV x u):∀{xs:List V}{us:List aa}(i:Nat),Vals xs us->Vals (xs.set i x) (us.set i u)
 |_,_,_,.nil=>.nil
 |_,_,0,.cons _ t=>.cons r t
 |_,_,i+1,.cons q t=>.cons q (Vals.set r i t)
theorem Vals.append:∀{xs ys:List V}{us ws:List aa},Vals xs us->Vals ys ws->Vals (xs++ys) (us++ws)
 |_,_,_,_,.nil,s=>s
 |_,_,_,_,.cons r t,s=>.cons r (Vals.append t s)
theorem Vals.take:∀{xs:List V}{us:List aa}(n:Nat),Vals xs us->Vals (xs.take n) (us.take n)
 |_,_,0,_=>.nil
 |_,_,_+1,.nil=>.nil
 |_,_,n+1,.cons r t=>.cons r (Vals.take n t)
theorem Vals.drop:∀{xs:List V}{us:List aa}(n:Nat),Vals xs us->Vals (xs.drop n) (us.drop n)
 |_,_,0,r=>r
 |_,_,_+1,.nil=>.nil
 |_,_,n+1,.cons _ t=>Vals.drop n t
def jhm:Option V->Option aa->Prop
 |some v,a4 u=>RelV v u
 |none,a7=>True
 |_,_=>False
def KV{κ:Type}:List (κ×V)->List (κ×aa)->Prop:=Paired λ(p:κ×V) (q:κ×aa)=>p.1=q.1/\RelV p.2 q.2
noncomputable def kV:Key->V
 |.inl i=>.int i
 |.inr x=>.str x
inductive HO where
 |lst (xs:List V)
 |tup (xs:List V)
 |dK (kvs:List (Key×V))|dT (kvs:List (List Key×V))
 |dI (xs:List (List Int×ae×aa)) (ep:Nat)
 |set (S:Int->Bool) (n:Nat)
 |ins (C dx:ae) (fs:List (af×V))
 |own (x:ae)
 |xd (fs:List (af×V))
 |met (f x:ae)
 |rng (lo hi:Int)
 |frz (o:cb) (u:HO)
 |tbl (ps:Array aa)
 |cod (q:af)
 |ext (φ:aE->Prop)
noncomputable abbrev Hp:=ae->Option HO
noncomputable def upd(H:Hp)(a:ae)(o:HO):Hp:=λb=>if b=a then a4 o else H b
theorem jq{H:Hp}{a:ae}{o:HO}:upd H a o a=a4 o:=by unfold upd;rw[if_pos rfl]
theorem je{H:Hp}{a b:ae}{o:HO}(h:b≠a):upd H a o b=H b:=by unfold upd;rw[if_neg h]
theorem Ja{H:Hp}{a b:ae}{o:HO}(h:H a=a4 o)(h':H b=a7):a≠b:=by intro e;subst e;rw[h]at h';cases h'
def Zq(h:aE)(a:ae):Prop:=∀o,h.get? a=a4 o->o.dict=a7
theorem Zq.new(h:aE)(xs:Array aa):Zq (h.push { cls:=.type "tuple",data:=.seq xs }) h.objs.size:=λo e=>by have z:(h.push { cls:=.type "tuple",data:=.seq xs }).get? h.objs.size=a4 { cls:=.type "tuple",data:=.seq xs }:=Xi _ rfl;rw[z]at e;cases e;rfl
theorem Zq.of{h:aE}{a:ae}{d:Data}{c:aa}(e:h.get? a=a4 { cls:=c,data:=d }):Zq h a:=λo e'=>by rw[e]at e';cases e';rfl
def j3k(o:cb)(q:af):Prop:=∃(vs:Array aa)(t:jL),o.data=.fields vs/\vs[1]?=a4 (.str q t)
section
variable(P:ar)(w:aA)
def jk(H:Hp)(h:aE)(a:ae):HO->Prop
 |.lst xs=>xs.length<=ak/\∃(its:List aa)(n:Nat),Vals xs its/\h.get? a=a4 { cls:=.type "list",data:=.seq its.toArray n }
 |.tup xs=>xs.length<=ak/\∃its:List aa,Vals xs its/\ik h a its.toArray/\Zq h a
 |.dK kvs=>kvs.length<=ak/\(a==jI)=a5/\∃vs,KV kvs vs/\h.DictOf (j1g P w) a vs
 |.dT kvs=>kvs.length<=ak/\(a==jI)=a5/\∃xs:List (List Key×ae×aa),
   Paired (λ(p:List Key×V) (q:List Key×ae×aa)=>p.1=q.1/\H q.2.1=a4 (.tup (p.1.map kV))/\RelV p.2 q.2.2) kvs xs /\
   ∃o es ep,h.get? a=a4 o/\o.ExactDict/\o.data=.dict es ep/\es.toList=xs.map (entryOfKey (tupleKind (j1g P w)))/\(xs.map (·.1)).Nodup
 |.dI xs ep=>xs.length<=ak/\(a==jI)=a5/\(xs.map λx=>x.1).Nodup/\∃(o:cb)(es:Array kB),h.get? a=a4 o/\o.ExactDict/\o.data=.dict es ep/\es.toList=xs.map (entryOfKey (tupleKind (intKind P w)))
 |.set S n=>h.SetOf (intKind P w) a S n
 |.ins C dx fs=>H dx=a4 (.own a)/\fs.length<=1000/\dx≠a/\h.get? a=a4 (W.instObj C dx) /\
   ∃mA,h.Ns1 dx mA/\(∀f,jhm (fs.lookup f) (mA f))/\PySem.Within mA (fs.map (·.1))
 |.own _=>∃o,h.get? a=a4 o
 |.xd fs=>∃mA,h.Ns1 a mA/\∀f,jhm (fs.lookup f) (mA f)
 |.rng lo hi=>∃t u v,h.get? a=a4 { cls:=.type "range",data:=.fields #[.int lo t,.int hi u,.int 1 v] }
 |.frz o u=>h.get? a=a4 o/\jk H h a u
 |.tbl ps=>h.get? a=a4 { cls:=.none,data:=.fields ps }
 |.cod q=>∃ps:Array aa,h.get? a=a4 (W.tabObj ps)/\TriplesOk ps.toList/\∀pos cv,codeAmong pos ps.toList=a4 cv->∃(c:ae)(oc:cb),cv=.ref c/\H c=a4 (.frz oc (.own 0))/\j3k oc q
 |.met f x=>h.get? a=a4 (W.methodObj (.ref f) (.ref x))
 |.ext φ=>φ h/\(∃o,h.get? a=a4 o)/\∀h1 h2:aE,φ h1->(∀o,h1.get? a=a4 o->h2.get? a=a4 o)->φ h2
def HOk(H:Hp)(h:aE):Prop:=∀a o,H a=a4 o->jk P w H h a o
end
section
variable{P:ar}{w:aA}{H H':Hp}{h h':aE}{a:ae}{o:HO}
theorem jk.lt(x:jk P w H h a o):a<h.objs.size:=by
 cases o with
 |lst xs=>obtain⟨_,_,_,_,e⟩:=x;exact xr e
 |tup xs=>obtain⟨_,_,_,p,_⟩:=x;exact p.lt
 |dK kvs=>obtain⟨_,_,_,_,o,_,_,e,_⟩:=x;exact xr e
 |dT kvs=>obtain⟨_,_,_,_,o,_,_,e,_⟩:=x;exact xr e
 |dI xs ep=>obtain⟨_,_,_,o,_,e,_⟩:=x;exact xr e
 |set S n=>obtain⟨o,_,_,_,e,_⟩:=x;exact xr e
 |ins C dx fs=>obtain⟨_,_,_,e,_⟩:=x;exact xr e
 |own y=>obtain⟨_,e⟩:=x;exact xr e
 |xd fs=>obtain⟨_,⟨_,_,_,e,_⟩,_⟩:=x;exact xr e
 |rng lo hi=>obtain⟨_,_,_,e⟩:=x;exact xr e
 |frz ob u=>obtain⟨e,_⟩:=x;exact xr e
 |tbl ps=>exact xr (show h.get? a=a4 _ from x)
 |cod q=>obtain⟨_,e,_⟩:=x;exact xr e
 |met f y=>exact xr (show h.get? a=a4 _ from x)
 |ext φ=>obtain⟨_,⟨_,e⟩,_⟩:=x;exact xr e
theorem Paired.mapP{α β:Type}{F G:α->β->Prop}:∀{l₁:List α}{l₂:List β},Paired F l₁ l₂->(∀a b,F a b->G a b)->Paired G l₁ l₂
 |_,_,.nil,_=>.nil
 |_,_,.cons r t,f=>.cons (f _ _ r) (Paired.mapP t f)
theorem jk.stay(x:jk P w H h a o)(k:∀b u,(b=a\/H b=a4 (.own a))->h.get? b=a4 u->h'.get? b=a4 u)
  (ho:∀b,H b=a4 (.own a)->H' b=a4 (.own a)) (ht:∀b xs,H b=a4 (.tup xs)->H' b=a4 (.tup xs)) (hz:∀b o,(∃vs,o.data=.fields vs)->H b=a4 (.frz o (.own 0))->H' b=a4 (.frz o (.own 0))):jk P w H' h' a o:=by
 induction o with
 |lst xs=>obtain⟨z,its,n,r,e⟩:=x;exact⟨z,its,n,r,k _ _ (.inl rfl) e⟩
 |tup xs =>obtain⟨z,its,r,⟨ob,e,c⟩,nd⟩:=x;refine⟨z,its,r,⟨ob,k _ _ (.inl rfl) e,c⟩,λo q=>?_⟩;rw[k _ _ (.inl rfl) e]at q;cases q;exact nd _ e
 |dK kvs=>obtain⟨z,y,vs,r,ob,es,ep,e,c⟩:=x;exact⟨z,y,vs,r,ob,es,ep,k _ _ (.inl rfl) e,c⟩
 |dT kvs =>obtain⟨z,y,xs,r,ob,es,ep,e,c⟩:=x;exact⟨z,y,xs,Paired.mapP r λp q z=>⟨z.1,ht _ _ z.2.1,z.2.2⟩,ob,es,ep,k _ _ (.inl rfl) e,c⟩
 |dI xs ep=>obtain⟨z,y,nd,ob,es,e,c⟩:=x;exact⟨z,y,nd,ob,es,k _ _ (.inl rfl) e,c⟩
 |set S n=>obtain⟨ob,es,ep,t,e,c⟩:=x;exact⟨ob,es,ep,t,k _ _ (.inl rfl) e,c⟩
 |ins C dx fs =>obtain⟨d,z,ne,e,mA,⟨od,es,ep,e2,c⟩,r⟩:=x;exact⟨ho _ d,z,ne,k _ _ (.inl rfl) e,mA,⟨od,es,ep,k _ _ (.inr d) e2,c⟩,r⟩
 |own y=>obtain⟨ob,e⟩:=x;exact⟨ob,k _ _ (.inl rfl) e⟩
 |xd fs=>obtain⟨mA,⟨od,es,ep,e,c⟩,r⟩:=x;exact⟨mA,⟨od,es,ep,k _ _ (.inl rfl) e,c⟩,r⟩
 |rng lo hi=>obtain⟨t,u,v,e⟩:=x;exact⟨t,u,v,k _ _ (.inl rfl) e⟩
 |frz ob u ih=>obtain⟨e,q⟩:=x;exact⟨k _ _ (.inl rfl) e,ih q⟩
 |tbl ps =>have e:h.get? a=a4 { cls:=.none,data:=.fields ps }:=x;show h'.get? a=a4 { cls:=.none,data:=.fields ps };exact k a _ (.inl rfl) e
 |cod q=>obtain⟨ps,e,t,c⟩:=x;exact⟨ps,k _ _ (.inl rfl) e,t,λpos cv z=>let ⟨c,oc,e1,e2,e3⟩:=c pos cv z;⟨c,oc,e1,hz _ _ (let ⟨vs,_,z,_⟩:=e3;⟨vs,z⟩) e2,e3⟩⟩
 |met f y =>have e:h.get? a=a4 (W.methodObj (.ref f) (.ref y)):=x;show h'.get? a=a4 (W.methodObj (.ref f) (.ref y));exact k a _ (.inl rfl) e
 |ext φ=>obtain⟨p,⟨o,e⟩,st⟩:=x;exact⟨st _ _ p λo q=>k _ _ (.inl rfl) q,⟨o,k _ _ (.inl rfl) e⟩,st⟩
theorem HOk.lt(x:HOk P w H h)(e:H a=a4 o):a<h.objs.size:=(x a o e).lt
theorem HOk.fresh(x:HOk P w H h)(e:h.objs.size<=a):H a=a7:=by
 cases q:H a with
 |none=>rfl
 |some u=>exact absurd (Xk (x.lt q) e) (Pj _)
theorem HOk.kept(x:HOk P w H h)(k:∀b u,h.get? b=a4 u->h'.get? b=a4 u):HOk P w H h':=λa o e =>(x a o e).stay (λb u _ q=>k b u q) (λ_ q=>q) (λ_ _ q=>q) λ_ _ _ q=>q
theorem HOk.laid(x:HOk P w H h)(k:∀b u,h.get? b=a4 u->h'.get? b=a4 u)(hp:h.objs.size<=a)(new:jk P w (upd H a o) h' a o):HOk P w (upd H a o) h':=λb u e=>by
 have hn:=x.fresh hp;by_cases hb:b=a
 .subst hb;rw[jq]at e;cases e;exact new
 .rw[je hb]at e;exact(x b u e).stay (λc v _ q=>k c v q) (λc q=>by rw[je (Ja q hn)];exact q) (λc xs q=>by rw[je (Ja q hn)];exact q) λc _ _ q=>by rw[je (Ja q hn)];exact q
end
def Rd(H:Hp)(a:ae)(u:HO):Prop:=H a=a4 u\/∃o,H a=a4 (.frz o u)
theorem Rd.ok{P:ar}{w:aA}{H:Hp}{h:aE}{a:ae}{u:HO}(r:Rd H a u)(x:HOk P w H h):jk P w H h a u:=by
 rcases r with r|⟨o,r⟩
 .exact x a u r
 .obtain⟨_,q⟩:=x a _ r;exact q
def Mut:Option HO->Prop
 |some (.lst _)=>True
 |some (.dK _)=>True
 |some (.dT _)=>True
 |some (.dI _ _)=>True
 |some (.set _ _)=>True
 |some (.ins _ _ _)=>True
 |some (.ext _)=>True
 |some (.cod _)=>True
 |_=>False
section
variable{P:ar}{w:aA}{H:Hp}{h h':aE}{x e:ae}{o':HO}
theorem HOk.write(ok:HOk P w H h)(mu:Mut (H x))(he:e=x\/H e=a4 (.own x))(k:∀b u,b≠e->h.get? b=a4 u->h'.get? b=a4 u)(heo:∃u,h'.get? e=a4 u)
  (new:jk P w (upd H x o') h' x o'):HOk P w (upd H x o') h':=λb u q=>by
 have nown:∀c y,H c=a4 (.own y)->c≠x:=λc y r z=>by subst z;rw[r]at mu;exact mu
 have ntup:∀c xs,H c=a4 (.tup xs)->c≠x:=λc xs r z=>by subst z;rw[r]at mu;exact mu
 have nfrz:∀c o u,H c=a4 (.frz o u)->c≠x:=λc o u r z=>by subst z;rw[r]at mu;exact mu
 by_cases hb:b=x
 .subst hb;rw[jq]at q;cases q;exact new
 .rw[je hb]at q;by_cases hbe:b=e
  .have q':H b=a4 (.own x):=by
    rcases he with z|z
    .exact absurd (hbe.trans z) hb
    .rw[hbe];exact z
   rw[q]at q';cases q';obtain⟨v,hv⟩:=heo;exact⟨v,by rw[hbe];exact hv⟩
  .refine(ok b u q).stay (λc v hc r=>k c v ?_ r) (λc r=>by rw[je (nown c b r)];exact r) (λc xs r=>by rw[je (ntup c xs r)];exact r) λc o _ r=>by rw[je (nfrz c o _ r)];exact r
   rcases hc with rfl|hc
   .exact hbe
   .rintro rfl;rcases he with z|z
    .exact nown c b hc z
    .rw[hc]at z;cases z;exact hb rfl
end
structure Un(fs ex:List ae)(H H':Hp)(h h':aE):Prop where
 keep:∀b o,h.get? b=a4 o->H b=a7->b∉fs->b∉ex->h'.get? b=a4 o
 slot:∀b o,h.get? b=a4 o->H b=a7->b∈fs->b∉ex->∃sl,h'.get? b=a4 { o with slots:=sl }
 free:∀b o,h.get? b=a4 o->H b=a7->b∉ex->H' b=a7
 there:∀b o,h.get? b=a4 o->b∉ex->∃o',h'.get? b=a4 o'
 tups:∀b xs,H b=a4 (.tup xs)->H' b=a4 (.tup xs)
 frzs:∀b o u,H b=a4 (.frz o u)->H' b=a4 (.frz o u)
 tbls:∀b ps,H b=a4 (.tbl ps)->∃more,H' b=a4 (.tbl (ps++more))
section
variable{fs fs' ex ex':List ae}{H H1 H2:Hp}{h h1 h2 h':aE}{a x e:ae}{o:HO}
theorem Un.any(u:Un fs ex H H1 h h1){b:ae}{ob:cb}(q:h.get? b=a4 ob)(n:H b=a7)(hx:b∉ex):∃sl,h1.get? b=a4 { ob with slots:=sl }:=by
 by_cases hb:b∈fs
 .exact u.slot b ob q n hb hx
 .exact⟨ob.slots,u.keep b ob q n hb hx⟩
theorem Un.kept(k:∀b u,h.get? b=a4 u->h'.get? b=a4 u):Un fs ex H H h h' :=
 ⟨λb ob q _ _ _=>k b ob q,λb ob q _ _ _=>⟨ob.slots,k b ob q⟩,λ_ _ _ n _=>n,λb ob q _=>⟨ob,k b ob q⟩,λ_ _ q=>q,λ_ _ _ q=>q,λ_ ps q=>⟨#[],by rw[q];simp⟩⟩
theorem Un.refl:Un fs ex H H h h:=Un.kept λ_ _ q=>q
theorem Un.laid(k:∀b u,h.get? b=a4 u->h'.get? b=a4 u)(hp:h.objs.size<=a)(hn:H a=a7):Un fs ex H (upd H a o) h h' where
 keep:=λb u q _ _ _=>k b u q
 slot:=λb u q _ _ _=>⟨u.slots,k b u q⟩
 free:=λb u q n _=>by rw[je (Xj (Xk (xr q) hp))];exact n
 there:=λb u q _=>⟨u,k b u q⟩
 tups:=λb xs q=>by rw[je (Ja q hn)];exact q
 frzs:=λb u xs q=>by rw[je (Ja q hn)];exact q
 tbls:=λb ps q=>⟨#[],by rw[je (Ja q hn),q];simp⟩
theorem Un.write(mu:Mut (H x))(he:e=x\/H e=a4 (.own x))(k:∀b u,b≠e->h.get? b=a4 u->h'.get? b=a4 u)(heo:∃u,h'.get? e=a4 u):Un fs ex H (upd H x o) h h':=by
 have hx:∀b,H b=a7->b≠x:=λb n z=>by subst z;rw[n]at mu;exact mu
 have hb:∀b,H b=a7->b≠e:=λb n z=>by
  subst z;rcases he with r|r
  .exact hx b n r
  .rw[n]at r;cases r
 have hm:∀b u,H b=a4 u->¬Mut (a4 u)->b≠x:=λb u q nm z=>by subst z;rw[q]at mu;exact nm mu
 refine⟨λb u q n _ _=>k b u (hb b n) q,λb u q n _ _=>⟨u.slots,k b u (hb b n) q⟩,λb u q n _=>by rw[je (hx b n)];exact n,λb u q _=>?_,
  λb xs q=>by rw[je (hm b _ q λz=>z)];exact q,λb u xs q=>by rw[je (hm b _ q λz=>z)];exact q,λb ps q=>⟨#[],by rw[je (hm b _ q λz=>z),q];simp⟩⟩
 by_cases hbe:b=e
 .subst hbe;exact heo
 .exact⟨u,k b u hbe q⟩
end
noncomputable def trk(h:aE)(H:Hp):List ae:=(au h.objs.size).filter λa=>(H a).isSome
noncomputable def Uh(h:aE)(H:Hp):aE:=W.hideAll h (trk h H)
theorem j5d(h:aE)(H:Hp):(Uh h H).objs.size=h.objs.size:=W.hideAll_size _ _
theorem j89{h:aE}{H:Hp}{b:ae}{o:cb}(e:h.get? b=a4 o)(n:H b=a7):(Uh h H).get? b=a4 o :=
 W.hideAll_get _ e λhm=>by have q:(H b).isSome=a6:=(Pn.mp hm).2;rw[n]at q;simp at q
theorem jbx{h:aE}{H:Hp}{b:ae}{o:cb}(e:(Uh h H).get? b=a4 o):h.get? b=a4 o/\H b=a7:=by
 have e':h.get? b=a4 o:=W.of_hideAll (trk h H) e;refine⟨e',?_⟩;cases q:H b with
 |none=>rfl
 |some x =>have hm:b∈trk h H:=Pn.mpr ⟨Xa.mpr (xr e'),by simp[q]⟩;have z:(Uh h H).get? b=a7:=T6 (trk h H) hm;rw[z]at e;cases e
noncomputable def jdb(g h:aE)(L:ae):List (ae×cb):=(au h.objs.size).filterMap λa=>if a=L\/(g.get? a).isSome=a6 then a7 else(h.get? a).map λo=>(a,o)
noncomputable def rest(g h:aE)(L d:ae):List (ae×cb):=(jdb g h L).filter λp=>decide (p.1≠d)
structure Mod(K:k7x)(mg:k80)(base:aE):Prop where
 kin:K.In base
 glob:base.Ns aq mg
 blt:∃mb,base.Ns dk mb/\∀x:af,x ≠ "__name__"->mb x=b0 x
 nolimit:base.NoLimit
 bm:∃bm ob,mg "__builtins__" = a4 (.ref bm)/\bm≠dk/\base.get? bm=a4 ob/\ob.cls=.type "module"/\ob.dict=a4 dk/\ob.data=.plain
structure Cx where
 prog:ar
 w:aA
 K:k7x
 mg:af->Option aa
 base:aE
 A:aD
 N:List af
 s₀:ah
 H₀:Hp
 env:cu
 outer:List cu
 stack:List cu
 ex:List ae
 fn:af->Bool
 calm:Bool
 pn:List (ae×cb)
 xe:aa->ah->Prop
noncomputable def frs(l:List cu):List ae:=l.filterMap (·.frame)
noncomputable abbrev Cx.fs(X:Cx):List ae:=frs X.outer
def Vis(sc:b8)(x:af):Prop:=sc.names.lookup x=a4 .local\/sc.names.lookup x=a4 .cell\/sc.names.lookup x=a4 .free
def Loc(sc:b8)(x:af):Prop:=sc.names.lookup x=a4 .local\/sc.names.lookup x=a4 .cell
def Look(env:cu)(h:aE)(m:k80)(x:af)(u:aa):Prop :=
 (env.kindOf x=a4 .local/\m x=a4 u)\/((env.kindOf x=a4 .cell\/env.kindOf x=a4 .free)/\∃c,env.cells.lookup x=a4 c/\h.IsCell c (a4 u))
structure Cx.Ok(X:Cx):Prop where
 mod:Mod X.K X.mg X.base
 kind:X.env.scope.kind=.function
 glob:X.env.globals=aq
 blt:X.env.builtins=dk
 above:X.s₀.heap.objs.size<=X.env.locals
 inj:∀x y c,X.env.cells.lookup x=a4 c->X.env.cells.lookup y=a4 c->x=y
 has:∀x,(X.env.kindOf x=a4 .cell\/X.env.kindOf x=a4 .free)->∃c,X.env.cells.lookup x=a4 c
 cab:∀x c,X.fn x=a6->X.env.cells.lookup x=a4 c->X.s₀.heap.objs.size<=c
 hd:X.calm=a6->X.A.handled=a7
 frames:X.A.frames=a4 X.stack
 stk:X.stack=X.outer\/(X.stack=X.env::X.outer/\X.env.frame=a4 X.env.locals)
 exf:∀b∈X.ex,b≠X.env.locals/\∀x c,X.env.cells.lookup x=a4 c->c≠b
 bs:∀b o,X.base.get? b=a4 o->X.s₀.heap.get? b=a4 o/\X.H₀ b=a7
 bsz:X.base.objs.size<=X.s₀.heap.objs.size
 noex:∀b o,X.base.get? b=a4 o->b∉X.ex
 exfs:∀b∈X.ex,b∉X.fs
 funs:X.s₀.heap.FunFrames X.base X.outer
 frf:∀b∈X.fs,X.H₀ b=a7
structure Inv(X:Cx)(pins:k7z)(σ:List (Option V))(H:Hp)(s:ah):Prop where
 ok:X.Ok
 os:s.os=X.s₀.os
 bare:dw s.gens
 base:Un X.fs X.ex X.H₀ H X.s₀.heap s.heap
 loc:∃m,s.heap.Ns X.env.locals m/\∀(i:Nat)(x:af)(v:V),X.N[i]?=a4 x->σ[i]?=a4 (a4 v)->Vis X.env.scope x->∃u,RelV v u/\Look X.env s.heap m x u
 cell:∀x c,X.env.cells.lookup x=a4 c->∃v,s.heap.IsCell c v
 free:H X.env.locals=a7
 freeC:∀x c,X.env.cells.lookup x=a4 c->H c=a7
 pin:∀p∈X.pn++pins,s.heap.get? p.1=a4 p.2/\H p.1=a7/\p.1≠X.env.locals/\p.1∉X.fs/\∀v,p.2.data≠.cell v
 hok:HOk X.prog X.w H s.heap
 len:σ.length=X.N.length
section
variable{X:Cx}{pins:k7z}{σ:List (Option V)}{H H':Hp}{s:ah}{h':aE}
theorem Cx.Ok.nofr(ok:X.Ok){b:ae}{o:cb}(e:X.base.get? b=a4 o):b∉X.fs:=λhb=>by have:=(ok.funs.mem hb).1;rw[e]at this;cases this
theorem Inv.bs(I:Inv X pins σ H s):∀b o,X.base.get? b=a4 o->s.heap.get? b=a4 o/\H b=a7:=λb o e =>⟨I.base.keep b o (I.ok.bs b o e).1 (I.ok.bs b o e).2 (I.ok.nofr e) (I.ok.noex b o e),I.base.free b o (I.ok.bs b o e).1 (I.ok.bs b o e).2 (I.ok.noex b o e)⟩
theorem Inv.bk(I:Inv X pins σ H s):∀b o,X.base.get? b=a4 o->s.heap.get? b=a4 o:=λb o e=>(I.bs b o e).1
theorem Inv.mod(I:Inv X pins σ H s):Mod X.K X.mg X.base:=I.ok.mod
theorem Inv.kIn(I:Inv X pins σ H s):X.K.In s.heap:=I.ok.mod.kin.keeps I.bk
theorem Inv.lt(I:Inv X pins σ H s):X.env.locals<s.heap.objs.size:=let ⟨_,hn,_⟩:=I.loc;hn.lt
theorem Inv.sz(I:Inv X pins σ H s):X.s₀.heap.objs.size<=s.heap.objs.size:=Xf I.ok.above (dE I.lt)
theorem Inv.nofs(I:Inv X pins σ H s){a:ae}(h:s.heap.objs.size<=a):a∉X.fs:=λhb=>by obtain⟨_,o,ho,_⟩:=I.ok.funs.mem hb;exact absurd (Xk (xr ho) (Xf I.sz h)) (Pj _)
theorem Inv.cne(I:Inv X pins σ H s):∀x c,X.env.cells.lookup x=a4 c->c≠X.env.locals:=λx c e z=>by obtain⟨v,o,ho,hd⟩:=I.cell x c e;obtain⟨m,⟨o',es,ep,ho',hd',_⟩,_⟩:=I.loc;rw[z,ho']at ho;cases ho;rw[hd']at hd;cases hd
theorem Inv.funs(I:Inv X pins σ H s):s.heap.FunFrames X.base X.outer:=by
 have all:∀(l:List cu),(∀b∈frs l,b∈X.fs)->X.s₀.heap.FunFrames X.base l->s.heap.FunFrames X.base l:=by
  intro l;induction l with
  |nil=>intro _ _;trivial
  |cons env r ih =>intro hs hl;obtain⟨hk,⟨L,o,hf,hn,ho,hd⟩,hr⟩:=hl;have hL:L∈X.fs:=hs L (by unfold frs;rw[bT,hf];exact xq);obtain⟨sl,e⟩:=I.base.slot L o ho (I.ok.frf L hL) hL λz=>I.ok.exfs L z hL;exact⟨hk,⟨L,_,hf,hn,e,hd⟩,ih (λb hb=>hs b (by unfold frs;rw[bT,hf];exact xg _ hb)) hr⟩
 exact all X.outer (λ_ hb=>hb) I.ok.funs
theorem Inv.stack(I:Inv X pins σ H s):s.heap.FunFrames X.base X.stack:=by
 rcases I.ok.stk with e|⟨e,hf⟩
 .rw[e];exact I.funs
 .rw[e];obtain⟨m,hn,_⟩:=I.loc;refine .cons (by rw[I.ok.kind];decide) hf hn ?_ I.funs;exact Heap.get?_none_of_le (Xf I.ok.bsz I.ok.above)
theorem Inv.stkSub(I:Inv X pins σ H s):∀b∈frs X.stack,b∈X.env.locals::X.fs:=λb hb=>by
 rcases I.ok.stk with e|⟨e,hf⟩
 .rw[e]at hb;exact xg _ hb
 .rw[e]at hb;unfold frs at hb;rw[bT,hf]at hb;exact hb
theorem Inv.stkFree(I:Inv X pins σ H s):∀b∈frs X.stack,H b=a7:=λb hb=>by
 rcases xn.mp (I.stkSub b hb)with e|hb
 .rw[e];exact I.free
 .obtain⟨_,o,ho,_⟩:=I.ok.funs.mem hb;exact I.base.free b o ho (I.ok.frf b hb) λz=>I.ok.exfs b z hb
theorem Inv.step{g':Array gP}{t':Nat}{d':Drawn}{ch:List ae}(I:Inv X pins σ H s)
  (hch:∀b∈ch,(b∈X.ex\/X.s₀.heap.objs.size<=b)/\b≠X.env.locals/\(∀x c,X.env.cells.lookup x=a4 c->c≠b)/\∀p∈X.pn++pins,p.1≠b)
  (keep:∀b o,b≠X.env.locals->b∉X.fs->b∉ch->s.heap.get? b=a4 o->H b=a7->h'.get? b=a4 o)
  (slot:∀b o,b≠X.env.locals->b∈X.fs->b∉ch->s.heap.get? b=a4 o->H b=a7->∃sl,h'.get? b=a4 { o with slots:=sl }) (free:∀b o,b∉ch->s.heap.get? b=a4 o->H b=a7->H' b=a7)
  (there:∀b o,b∉ch->s.heap.get? b=a4 o->∃o',h'.get? b=a4 o')
  (tups:∀b xs,H b=a4 (.tup xs)->H' b=a4 (.tup xs)) (frzs:∀b o u,H b=a4 (.frz o u)->H' b=a4 (.frz o u)) (tbls:∀b ps,H b=a4 (.tbl ps)->∃more,H' b=a4 (.tbl (ps++more)))
  (ns:∀m,s.heap.Ns X.env.locals m->h'.Ns X.env.locals m) (hok:HOk X.prog X.w H' h') (hg:dw g') :
  Inv X pins σ H' { s with heap:=h',gens:=g',drawn:=d',toks:=t' }:=by
 have neL:∀b o,X.s₀.heap.get? b=a4 o->b≠X.env.locals:=λb o e=>Xj (Xk (xr e) I.ok.above);have neC:∀b o,X.s₀.heap.get? b=a4 o->b∉X.ex->b∉ch:=λb o e hx hb=>by
  rcases(hch b hb).1 with z|z
  .exact hx z
  .exact absurd (Xk (xr e) z) (Pj _)
 have cellK:∀x c,X.env.cells.lookup x=a4 c->∀v,s.heap.IsCell c v->h'.IsCell c v:=λx c e v ⟨o,ho,hd⟩=>by
  have nch:c∉ch:=λz=>(hch c z).2.2.1 x c e rfl;by_cases hc:c∈X.fs
  .obtain⟨sl,q⟩:=slot c o (I.cne x c e) hc nch ho (I.freeC x c e);exact⟨_,q,hd⟩
  .exact⟨o,keep c o (I.cne x c e) hc nch ho (I.freeC x c e),hd⟩
 refine⟨I.ok,I.os,hg,⟨λb o e n hb hx=>?_,λb o e n hb hx=>?_,λb o e n hx=>?_,λb o e hx=>?_,λb xs e=>tups b xs (I.base.tups b xs e),λb o xs e=>frzs b o xs (I.base.frzs b o xs e),λb ps e=>?_⟩,?_,λx c e=>?_,?_,λx c e=>?_,λp hp=>?_,hok,I.len⟩
 .exact keep b o (neL b o e) hb (neC b o e hx) (I.base.keep b o e n hb hx) (I.base.free b o e n hx)
 .obtain⟨sl,e1⟩:=I.base.slot b o e n hb hx;obtain⟨sl',e2⟩:=slot b _ (neL b o e) hb (neC b o e hx) e1 (I.base.free b o e n hx);exact⟨sl',e2⟩
 .obtain⟨o',e1⟩:=I.base.there b o e hx;exact free b o' (neC b o e hx) e1 (I.base.free b o e n hx)
 .obtain⟨o',e1⟩:=I.base.there b o e hx;exact there b o' (neC b o e hx) e1
 .obtain⟨m1,e1⟩:=I.base.tbls b ps e;obtain⟨m2,e2⟩:=tbls b _ e1;exact⟨m1++m2,by rw[e2,Array.append_assoc]⟩
 .obtain⟨m,hn,hl⟩:=I.loc;refine⟨m,ns m hn,λi x v e1 e2 e3=>?_⟩;obtain⟨u,r,l⟩:=hl i x v e1 e2 e3;refine⟨u,r,?_⟩;rcases l with l|⟨k,c,e,z⟩
  .exact .inl l
  .exact .inr ⟨k,c,e,cellK x c e _ z⟩
 .obtain⟨v,z⟩:=I.cell x c e;exact⟨v,cellK x c e v z⟩
 .obtain⟨m,⟨o,_,_,ho,_⟩,_⟩:=I.loc;exact free _ o (λz=>(hch _ z).2.1 rfl) ho I.free
 .obtain⟨v,o,ho,hd⟩:=I.cell x c e;exact free c o (λz=>(hch c z).2.2.1 x c e rfl) ho (I.freeC x c e)
 .obtain⟨e,n,ne,nf,d⟩:=I.pin p hp;have nch:p.1∉ch:=λz=>(hch p.1 z).2.2.2 p hp rfl;exact⟨keep p.1 p.2 ne nf nch e n,free p.1 p.2 nch e n,ne,nf,d⟩
theorem Inv.un{t':Nat}(I:Inv X pins σ H s)(u:Un X.fs [] H H' s.heap h')(hok:HOk X.prog X.w H' h'):Inv X pins σ H' { s with heap:=h',toks:=t' }:=by
 obtain⟨m,⟨o,es,ep,ho,r⟩,_⟩:=id I.loc;obtain⟨sl,hL⟩:=u.any ho I.free (by simp);exact I.step (g':=s.gens) (d':=s.drawn) (ch:=[]) (λ_ z=>nomatch z) (λb o _ hb _ e n=>u.keep b o e n hb (by simp)) (λb o _ hb _ e n=>u.slot b o e n hb (by simp)) (λb o _ e n=>u.free b o e n (by simp)) (λb o _ e=>u.there b o e (by simp)) u.tups u.frzs u.tbls (λm' hm=>by
  obtain⟨o',es',ep',ho',r'⟩:=hm
  rw[ho]at ho';cases ho'
  exact⟨_,es',ep',hL,r'⟩) hok I.bare
theorem Inv.call{g':Array gP}{t':Nat}{d':Drawn}{ch:List ae}(I:Inv X pins σ H s)(u:Un (frs X.stack) ch H H' s.heap h')(hok:HOk X.prog X.w H' h')(hg:dw g')
  (hch:∀b∈ch,(b∈X.ex\/X.s₀.heap.objs.size<=b)/\b≠X.env.locals/\(∀x c,X.env.cells.lookup x=a4 c->c≠b)/\∀p∈X.pn++pins,p.1≠b) :
  Inv X pins σ H' { s with heap:=h',gens:=g',drawn:=d',toks:=t' }:=by
 obtain⟨m,⟨o,es,ep,ho,r⟩,_⟩:=id I.loc;obtain⟨sl,hL⟩:=u.any ho I.free λz=>(hch _ z).2.1 rfl;exact I.step (ch:=ch) hch (λb o hL hb hc e n=>u.keep b o e n (λz=>(xn.mp (I.stkSub b z)).elim hL hb) hc) (λb o _ _ hc e n=>u.any e n hc) (λb o hc e n=>u.free b o e n hc) (λb o hc e=>u.there b o e hc) u.tups u.frzs u.tbls (λm' hm=>by
  obtain⟨o',es',ep',ho',r'⟩:=hm
  rw[ho]at ho';cases ho'
  exact⟨_,es',ep',hL,r'⟩) hok hg
theorem Inv.turned{t':Nat}{it:ae}(I:Inv X pins σ H s)(k:∀b o,b≠it->s.heap.get? b=a4 o->h'.get? b=a4 o)(hn:H it=a7)(hL:it≠X.env.locals)
  (h1:it∈X.ex\/X.s₀.heap.objs.size<=it) (h2:∀x c,X.env.cells.lookup x=a4 c->c≠it) (h3:∀p∈X.pn++pins,p.1≠it):Inv X pins σ H { s with heap:=h',toks:=t' }:=by
 have nit:∀b u,H b=a4 u->b≠it:=λb u e z=>by rw[z,hn]at e;cases e
 refine I.step (g':=s.gens) (d':=s.drawn) (ch:=[it]) (λb hb=>?_) (λb o _ _ hc e _=>k b o (λz=>hc (by simp[z])) e) (λb o _ _ hc e _=>⟨o.slots,k b o (λz=>hc (by simp[z])) e⟩) (λ_ _ _ _ n=>n)
  (λb o hc e=>⟨o,k b o (λz=>hc (by simp[z])) e⟩) (λ_ _ e=>e) (λ_ _ _ e=>e) (λb ps e=>⟨#[],by rw[e];simp⟩) (λm hm=>?_) (λb u e=>?_) I.bare
 .have e:b=it:=by simpa using hb
  subst e;exact⟨h1,hL,h2,h3⟩
 .obtain⟨o,es,ep,ho,r⟩:=hm;exact⟨o,es,ep,k _ o (bF hL) ho,r⟩
 .refine(I.hok b u e).stay (λc v hc q=>k c v ?_ q) (λ_ q=>q) (λ_ _ q=>q) λ_ _ _ q=>q;rcases hc with z|z
  .rw[z];exact nit b u e
  .exact nit c _ z
theorem Inv.tok(I:Inv X pins σ H s)(t:Nat):Inv X pins σ H { s with toks:=t }:=I.un (h':=s.heap) (t':=t) Un.refl I.hok
theorem Inv.kept{t':Nat}(I:Inv X pins σ H s)(k:∀b u,s.heap.get? b=a4 u->h'.get? b=a4 u):Inv X pins σ H { s with heap:=h',toks:=t' }:=I.un (Un.kept k) (I.hok.kept k)
theorem Inv.laid{a:ae}{o:HO}{t':Nat}(I:Inv X pins σ H s)(k:∀b u,s.heap.get? b=a4 u->h'.get? b=a4 u)(hp:s.heap.objs.size<=a)(new:jk X.prog X.w (upd H a o) h' a o) :
  Inv X pins σ (upd H a o) { s with heap:=h',toks:=t' }:=I.un (Un.laid k hp (I.hok.fresh hp)) (I.hok.laid k hp new)
theorem Inv.write{x e:ae}{o:HO}{t':Nat}(I:Inv X pins σ H s)(mu:Mut (H x))(he:e=x\/H e=a4 (.own x))(k:∀b u,b≠e->s.heap.get? b=a4 u->h'.get? b=a4 u)(heo:∃u,h'.get? e=a4 u)
  (new:jk X.prog X.w (upd H x o) h' x o):Inv X pins σ (upd H x o) { s with heap:=h',toks:=t' }:=I.un (Un.write mu he k heo) (I.hok.write mu he k heo new)
theorem Inv.pins_of{pins':k7z}(I:Inv X pins σ H s)(h:∀p∈pins',s.heap.get? p.1=a4 p.2/\H p.1=a7/\p.1≠X.env.locals/\p.1∉X.fs/\∀v,p.2.data≠.cell v):Inv X pins' σ H s :=
 ⟨I.ok,I.os,I.bare,I.base,I.loc,I.cell,I.free,I.freeC,λp hp=>(ph.mp hp).elim (λz=>I.pin p (Tc _ z)) (h p),I.hok,I.len⟩
theorem Mm{N:List af}(hN:N.Nodup){i j:Nat}{x:af}(a:N[i]?=a4 x)(b:N[j]?=a4 x):i=j:=by obtain⟨h1,e1⟩:=Xb.mp a;obtain⟨h2,e2⟩:=Xb.mp b;exact(cy hN).mp (e1.trans e2.symm)
theorem W4{M:g6}{A:aD}{E:k7y}{i:Nat}{x:af}{v:V}{u:aa}{Q:Unit->ah->Prop}(I:Inv X pins σ H s)(hN:X.N.Nodup)(hi:X.N[i]?=a4 x)(hx:Loc X.env.scope x)(r:RelV v u)
  (h:∀s',Inv X pins (σ.set i (a4 v)) H s'->(∃a,cK a s.heap s'.heap/\(a=X.env.locals\/X.env.cells.lookup x=a4 a))->Q () s') (hf:X.fn x=a6\/X.env.scope.names.lookup x=a4 .local:=by first|exact .inl rfl|exact .inr rfl|assumption):ax M A (storeName X.env x u) Q E s:=by
 obtain⟨m,hn,hl⟩:=id I.loc;have hcls:(X.env.scope.kind==.class || (X.env.scope.kind==.module&&X.env.locals != X.env.globals))=a5:=by rw[I.ok.kind];rfl
 have hiσ:i<σ.length:=by rw[I.len];exact(Xb.mp hi).1
 have cne:=I.cne;have tracked:∀{a:ae}{h':aE},(∃o,s.heap.get? a=a4 o/\H a=a7)->cK a s.heap h'->HOk X.prog X.w H h':=λ{a h'} ha hs b ob e=>by
  obtain⟨_,_,hfree⟩:=ha;refine(I.hok b ob e).stay (λc w' hc q=>(hs.2 c ?_).trans q) (λ_ q=>q) (λ_ _ q=>q) λ_ _ _ q=>q;rintro rfl;rcases hc with rfl|hc
  .rw[hfree]at e;cases e
  .rw[hfree]at hc;cases hc
 rcases hx with hk|hk
 .refine wpAny_storeName_local hk hn (λh' hn' hs=>?_) hcls;obtain⟨oL,_,_,hoL,_⟩:=id hn;refine h _ ⟨I.ok,I.os,I.bare,⟨λb o e n hb hx=>?_,λb o e n hb hx=>?_,I.base.free,λb o e hx=>?_,I.base.tups,I.base.frzs,I.base.tbls⟩,⟨_,hn',λj y v' e1 e2 e3=>?_⟩,λy c e=>?_,I.free,I.freeC,λp hp=>?_,tracked ⟨oL,hoL,I.free⟩ hs,by simpa using I.len⟩ ⟨_,hs,.inl rfl⟩
  .exact(hs.2 b (Xj (Xk (xr e) I.ok.above))).trans (I.base.keep b o e n hb hx)
  .obtain⟨sl,e1⟩:=I.base.slot b o e n hb hx;exact⟨sl,(hs.2 b (Xj (Xk (xr e) I.ok.above))).trans e1⟩
  .obtain⟨o',e1⟩:=I.base.there b o e hx;exact⟨o',(hs.2 b (Xj (Xk (xr e) I.ok.above))).trans e1⟩
  .by_cases hj:j=i
   .subst hj;rw[hi]at e1;cases e1;rw[cf hiσ]at e2;cases e2;exact⟨u,r,.inl ⟨hk,by simp⟩⟩
   .rw[t8 (bF hj)]at e2;obtain⟨u',r',q⟩:=hl j y v' e1 e2 e3;refine⟨u',r',?_⟩;rcases q with ⟨k,e⟩|⟨k,c,e,z⟩
    .refine .inl ⟨k,?_⟩;have:y≠x:=λe=>hj (Mm hN e1 (e▸hi));simp[this,e]
    .exact .inr ⟨k,c,e,z.sameBut hs (cne y c e)⟩
  .obtain⟨w',z⟩:=I.cell y c e;exact⟨w',z.sameBut hs (cne y c e)⟩
  .obtain⟨e,n,ne,nf,d⟩:=I.pin p hp;exact⟨(hs.2 p.1 ne).trans e,n,ne,nf,d⟩
 .have hfn:X.fn x=a6:=by
   rcases hf with z|z
   .exact z
   .rw[z]at hk;cases hk
  obtain⟨c,hc⟩:=I.ok.has x (.inl hk);obtain⟨w',z⟩:=I.cell x c hc;refine wpAny_storeName_cell I.ok.kind hk hc z (λh' hc' hs=>?_);obtain⟨oc,hoc,hocd⟩:=id z;refine h { s with heap:=h' } ⟨I.ok,I.os,I.bare,⟨λb o e n hb hx=>?_,λb o e n hb hx=>?_,I.base.free,λb o e hx=>?_,I.base.tups,I.base.frzs,I.base.tbls⟩,⟨m,hn.sameBut hs (bF (cne x c hc)),λj y v' e1 e2 e3=>?_⟩,λy c' e=>?_,I.free,I.freeC,λp hp=>?_,tracked ⟨oc,hoc,I.freeC x c hc⟩ hs,by simpa using I.len⟩ ⟨c,hs,.inr hc⟩
  .exact(hs.2 b (Xj (Xk (xr e) (I.ok.cab x c hfn hc)))).trans (I.base.keep b o e n hb hx)
  .obtain⟨sl,e1⟩:=I.base.slot b o e n hb hx;exact⟨sl,(hs.2 b (Xj (Xk (xr e) (I.ok.cab x c hfn hc)))).trans e1⟩
  .obtain⟨o',e1⟩:=I.base.there b o e hx;exact⟨o',(hs.2 b (Xj (Xk (xr e) (I.ok.cab x c hfn hc)))).trans e1⟩
  .by_cases hj:j=i
   .subst hj;rw[hi]at e1;cases e1;rw[cf hiσ]at e2;cases e2;exact⟨u,r,.inr ⟨.inl hk,c,hc,hc'⟩⟩
   .rw[t8 (bF hj)]at e2;obtain⟨u',r',q⟩:=hl j y v' e1 e2 e3;refine⟨u',r',?_⟩;rcases q with q|⟨k,c',e,z'⟩
    .exact .inl q
    .refine .inr ⟨k,c',e,z'.sameBut hs ?_⟩;rintro rfl;exact hj (Mm hN e1 (I.ok.inj _ _ _ e hc▸hi))
  .by_cases hcc:c'=c
   .subst hcc;exact⟨_,hc'⟩
   .obtain⟨w2,z2⟩:=I.cell y c' e;exact⟨w2,z2.sameBut hs hcc⟩
  .obtain⟨e,n,ne,nf,d⟩:=I.pin p hp;refine⟨(hs.2 p.1 ?_).trans e,n,ne,nf,d⟩;intro q;rw[q,hoc]at e;have q':oc=p.2:=aw e;exact d w' (by rw[<-q'];exact hocd)
theorem Kg{M:g6}{A:aD}{E:k7y}{i:Nat}{x:af}{v:V}{u:aa}{Q:Unit->ah->Prop}(I:Inv X pins σ H s)(hN:X.N.Nodup)(hi:X.N[i]?=a4 x)(hx:Loc X.env.scope x)(r:RelV v u)
  (h:∀s',Inv X pins (σ.set i (a4 v)) H s'->Q () s') (hf:X.fn x=a6\/X.env.scope.names.lookup x=a4 .local:=by first|exact .inl rfl|exact .inr rfl|assumption):ax M A (storeName X.env x u) Q E s :=
 W4 I hN hi hx r (λs' I' _=>h s' I') hf
theorem Inv.call'{s':ah}{ch:List ae}(I:Inv X pins σ H s)(ho:s'.os=s.os)(u:Un (frs X.stack) ch H H' s.heap s'.heap)(hok:HOk X.prog X.w H' s'.heap)(hg:dw s'.gens)
  (hch:∀b∈ch,(b∈X.ex\/X.s₀.heap.objs.size<=b)/\b≠X.env.locals/\(∀x c,X.env.cells.lookup x=a4 c->c≠b)/\∀p∈X.pn++pins,p.1≠b):Inv X pins σ H' s':=by
 obtain⟨h',g',d',t',o'⟩:=s';have e:o'=s.os:=ho;subst e;exact I.call (g':=g') (t':=t') (d':=d') u hok hg hch
end
abbrev XK:=aa->Option ae->Hp->Prop
noncomputable abbrev St:=List (Option V)
abbrev VK:=V->Hp->Prop
abbrev TE:=St->Hp->VK->Prop
abbrev TT:=St->Hp->(Bool->Hp->Prop)->Prop
abbrev TA:=St->Hp->(List V->Hp->Prop)->Prop
structure Ends where
 nx:St->Hp->Prop
 rt:VK
 bk:St->Hp->Prop:=λ_ _=>False
 ct:St->Hp->Prop:=λ_ _=>False
abbrev TS:=Ends->St->Hp->Prop
def EP(X:Cx)(pins:k7z)(σ:St)(Q:VK)(u:aa)(s':ah):Prop:=∃v H',Inv X pins σ H' s'/\RelV v u/\Q v H'
def TP(X:Cx)(pins:k7z)(σ:St)(Q:Bool->Hp->Prop)(b:Bool)(s':ah):Prop:=∃H',Inv X pins σ H' s'/\Q b H'
def AP(X:Cx)(pins:k7z)(σ:St)(Q:List V->Hp->Prop)(us:List aa)(s':ah):Prop:=∃vs H',Inv X pins σ H' s'/\Vals vs us/\Q vs H'
def Ext(X:Cx)(H1 H2:Hp)(s':ah):Prop:=∀b,H2 b=H1 b\/∃x o v,X.env.cells.lookup x=a4 b/\X.fn x=a6/\H2 b=a4 (.frz o (.own 0))/\s'.heap.get? b=a4 o/\o.data=.cell v
theorem Ext.refl{X:Cx}{H:Hp}{s':ah}:Ext X H H s':=λ_=>.inl rfl
def SP(X:Cx)(pins:k7z)(D:Ends)(f:Flow)(s':ah):Prop :=
 match f with
 |.next=>∃σ' H',Inv X pins σ' H' s'/\D.nx σ' H'
 |.brk=>∃σ' H',Inv X pins σ' H' s'/\D.bk σ' H'
 |.cont=>∃σ' H',Inv X pins σ' H' s'/\D.ct σ' H'
 |.ret u=>∃v σ' H' H2,Inv X pins σ' H' s'/\RelV v u/\Ext X H' H2 s'/\D.rt v H2
def PE(X:Cx)(e:ai)(t:TE):Prop :=
 ∀(pins:k7z) (s:ah) (σ:St) (H:Hp) (Q:VK),Inv X pins σ H s->t σ H Q->ax (ay X.prog X.w) X.A (az e X.env) (EP X pins σ Q) X.xe s
def PT(X:Cx)(e:ai)(t:TT):Prop :=
 ∀(pins:k7z) (s:ah) (σ:St) (H:Hp) (Q:Bool->Hp->Prop),Inv X pins σ H s->t σ H Q->ax (ay X.prog X.w) X.A (ft e X.env (az e X.env)) (TP X pins σ Q) X.xe s
def PW(X:Cx)(e:ai)(t:TT):Prop :=
 ∀(whole:kZ aa)(pins:k7z) (s:ah) (σ:St) (H:Hp) (Q:Bool->Hp->Prop),Inv X pins σ H s->t σ H Q->ax (ay X.prog X.w) X.A (ft e X.env whole) (TP X pins σ Q) X.xe s
def PA(X:Cx)(es:List ai)(t:TA):Prop :=
 ∀(pos:aK)(pins:k7z) (s:ah) (σ:St) (H:Hp) (Q:List V->Hp->Prop),Inv X pins σ H s->t σ H Q->ax (ay X.prog X.w) X.A (spliced (aO pos (a8 es X.env))) (AP X pins σ Q) X.xe s
def PS(X:Cx)(st:aJ)(t:TS):Prop :=
 ∀(pins:k7z) (s:ah) (σ:St) (H:Hp) (D:Ends),Inv X pins σ H s->t D σ H->ax (ay X.prog X.w) X.A (exec st X.env) (SP X pins D) X.xe s
def PSs(X:Cx)(st:List aJ)(t:TS):Prop :=
 ∀(pins:k7z) (s:ah) (σ:St) (H:Hp) (D:Ends),Inv X pins σ H s->t D σ H->ax (ay X.prog X.w) X.A (execs st X.env) (SP X pins D) X.xe s
theorem thn{α:Type}{t:kZ α}{Q Q':α->ah->Prop}{M:g6}{A:aD}{E:k7y}{s:ah}(h:ax M A t Q E s)(hQ:∀a s,Q a s->Q' a s):ax M A t Q' E s:=aZ h hQ λ_ _ x=>x
section
variable{X:Cx}
theorem bin{a b:ai}{ta tb:TE}(ha:PE X a ta)(hb:PE X b tb){pins:k7z}{s:ah}{σ:St}{H:Hp}{R:V->V->Hp->Prop}(I:Inv X pins σ H s)(h:ta σ H λx H1=>tb σ H1 λy H2=>R x y H2)
  {α:Type} {Q:α->ah->Prop} {f:aa->aa->kZ α}
  (hf:∀v u s2 x y H2,Inv X pins σ H2 s2->RelV x v->RelV y u->R x y H2->ax (ay X.prog X.w) X.A (f v u) Q X.xe s2) :
  ax (ay X.prog X.w) X.A (az a X.env) (λv s₁=>ax (ay X.prog X.w) X.A (az b X.env) (λu s₂=>ax (ay X.prog X.w) X.A (f v u) Q X.xe s₂) X.xe s₁) X.xe s:=by
 refine thn (ha pins s σ H _ I h) λv s1 ⟨x,H1,I1,r1,q1⟩=>?_;refine thn (hb pins s1 σ H1 _ I1 q1) λu s2 ⟨y,H2,I2,r2,q2⟩=>?_;exact hf v u s2 x y H2 I2 r1 r2 q2
def jkf(i:Nat):TE:=λσ H Q=>∃v,σ[i]?=a4 (a4 v)/\Q v H
def tC(v:V):TE:=λ_ H Q=>Q v H
theorem v7 {i:Nat} {x:af} {pos:aK} (hN:X.N[i]?=a4 x) (hv:Vis X.env.scope x) (hd:(x==k81)=a5:=by decide) (hcd:(x==k82)=a5:=by decide):PE X (.Name x pos) (jkf i):=by
 intro pins s σ H Q I h;obtain⟨v,e,h⟩:=h;obtain⟨m,hn,hl⟩:=I.loc;obtain⟨u,r,l⟩:=hl i x v hN e hv;have fin:EP X pins σ Q u s:=⟨v,H,I,r,h⟩
 rcases l with ⟨hk,hm⟩|⟨hk,c,hc,hcell⟩
 .exact jH (wpAny_loadName_local I.ok.kind hk hn hm fin) hd
 .rcases hk with hk|hk
  .exact jH (wpAny_loadName_cell I.ok.kind hk hc hcell fin) hd
  .exact jH (wpAny_loadName_free I.ok.kind hk hc hcell fin hcd) hd
theorem jew{i j pos}:PE X (.Constant (.int i) j pos) (tC (.int i)):=λ_ _ _ H _ I h=>wpAny_Constant_int ⟨.int i,H,I.tok _,⟨_,rfl⟩,h⟩
theorem jio{b j pos}:PE X (.Constant (.bool b) j pos) (tC (.bl b)):=λ_ _ _ H _ I h=>Constant_bool ⟨.bl b,H,I,rfl,h⟩
theorem j4h{x j pos}:PE X (.Constant (.str x) j pos) (tC (.str x)):=λ_ _ _ H _ I h=>Calls.Constant_str ⟨.str x,H,I.tok _,⟨_,rfl⟩,h⟩
def Gl(X:Cx)(x:af):Prop:=X.env.kindOf x=a4 .globalImplicit
theorem Zf{E:k7y}{pins:k7z}{s:ah}{σ:St}{H:Hp}{x:af}{u:aa}{pos:aK}{Q:k7y}(I:Inv X pins σ H s)(hg:Gl X x)(hm:X.mg x=a4 u)(h:Q u s)
  (hd:(x==k81)=a5:=by decide):ax (ay X.prog X.w) X.A (az (.Name x pos) X.env) Q E s :=
 fH I.ok.kind hg (Calls.loadGlobal_global (by rw[I.ok.glob];exact I.mod.glob.keeps I.bk) hm h) hd
theorem Vp{E:k7y}{pins:k7z}{s:ah}{σ:St}{H:Hp}{x:af}{u:aa}{pos:aK}{Q:k7y}(I:Inv X pins σ H s)(hg:Gl X x)(hm:X.mg x=a7)(hv:b0 x=a4 u)(h:Q u s)
  (hn:x ≠ "__name__":=by decide) (hd:(x==k81)=a5:=by decide):ax (ay X.prog X.w) X.A (az (.Name x pos) X.env) Q E s:=by
 obtain⟨mb,h1,h2⟩:=I.mod.blt;exact fH I.ok.kind hg (Calls.loadGlobal_builtin (by rw[I.ok.glob];exact I.mod.glob.keeps I.bk) hm (by rw[I.ok.blt];exact h1.keeps I.bk) ((h2 x hn).trans hv) h) hd
theorem Nq {x:af} {v:V} {u:aa} {pos:aK} (hg:Gl X x) (hm:X.mg x=a4 u) (r:RelV v u) (hd:(x==k81)=a5:=by decide):PE X (.Name x pos) (tC v) :=
 λ_ _ _ H _ I h=>Zf I hg hm ⟨v,H,I,r,h⟩ hd
theorem jbr {x:af} {v:V} {u:aa} {pos:aK} (hg:Gl X x) (hm:X.mg x=a7) (hv:b0 x=a4 u) (r:RelV v u) (hn:x ≠ "__name__":=by decide) (hd:(x==k81)=a5:=by decide):PE X (.Name x pos) (tC v) :=
 λ_ _ _ H _ I h=>Vp I hg hm hv ⟨v,H,I,r,h⟩ hn hd
variable{a b:ai}{ta tb:TE}{pos:aK}
def PC(X:Cx)(op:fQ)(a b:ai)(t:TE):Prop :=
 ∀(pins:k7z) (s:ah) (σ:St) (H:Hp) (Q:VK),Inv X pins σ H s->t σ H Q ->
  ax (ay X.prog X.w) X.A (az a X.env) (λv s₁=>ax (ay X.prog X.w) X.A (az b X.env) (λu s₂=>ax (ay X.prog X.w) X.A (aX op v u) (EP X pins σ Q) X.xe s₂) X.xe s₁) X.xe s
theorem Im(b:ai){op:fQ}(h:op≠.In)(h2:op≠.NotIn):aL op b=a5:=by
 have e1:(op==CmpOp.In)=a5:=by cases op<;>first|rfl|exact absurd rfl h
 have e2:(op==CmpOp.NotIn)=a5:=by cases op<;>first|rfl|exact absurd rfl h2
 cases b<;>simp[aL,e1,e2]
def jkm(ta:TE):TE:=λσ H Q=>ta σ H λx H1=>Q (.bl (decide (x=.non))) H1
theorem RelV.none_iff{x:V}{v:aa}(r:RelV x v):(v==aV)=decide (x=.non):=by
 cases x with
 |non=>cases r;rfl
 |bl _=>cases r;rfl
 |int _=>obtain⟨t,rfl⟩:=r;rfl
 |str _=>obtain⟨t,rfl⟩:=r;rfl
 |byt _=>obtain⟨t,rfl⟩:=r;rfl
 |flt _=>obtain⟨t,rfl⟩:=r;rfl
 |ref _=>cases r;rfl
 |ty _=>cases r;rfl
theorem j4k{j pos'}(ha:PE X a ta):PC X .Is a (.Constant .none j pos') (jkm ta):=by intro pins s σ H Q I h;refine thn (ha pins s σ H _ I h) λv s1 ⟨x,H1,I1,r1,q1⟩=>?_;exact Constant_none (is_none_gen ⟨.bl _,H1,I1,by rw[r1.none_iff];rfl,q1⟩)
def tB(t:TE):TT:=λσ H Q=>t σ H λx H1=>∃c,x=.bl c/\Q c H1
theorem jex{op:fQ}{t:TE}(h:PC X op a b t)(h1:aL op b=a5:=by first|exact Im _ (by decide) (by decide)|rfl):PE X (.Compare a [op] [b] pos) t:=λpins s σ H Q I hw=>lr (h pins s σ H Q I hw) h1
theorem jeq{op:fQ}{t:TE}(h:PC X op a b t)(h1:aL op b=a5:=by first|exact Im _ (by decide) (by decide)|rfl):PT X (.Compare a [op] [b] pos) (tB t):=by intro pins s σ H Q I hw;refine iM (thn (h pins s σ H _ I hw) λv s1 h1=>thn h1 λu s2 h2=>thn h2 λc s3 ⟨x,H1,I1,r1,q1⟩=>?_) h1;obtain⟨d,rfl,q⟩:=q1;cases r1;exact bf ⟨H1,I1,q⟩
theorem jeo{e:ai}{t:TE}(h:PE X e t)(he:∀whole,ft e X.env whole=(do let v <-whole;fK e.pos;c8 [v] (truthy v)):=by intro _;rfl):PT X e (tB t):=by intro pins s σ H Q I hw;refine isTrue_plain (thn (h pins s σ H _ I hw) λv s1 ⟨x,H1,I1,r1,q1⟩=>?_) (he _);obtain⟨d,rfl,q⟩:=q1;cases r1;exact bf ⟨H1,I1,q⟩
variable{tA tB':TT}{rest:List ai}
def jkq(t u:TT):TT:=λσ H Q=>t σ H λc H1=>if c=a6 then u σ H1 Q else Q a5 H1
def tOr(t u:TT):TT:=λσ H Q=>t σ H λc H1=>if c=a6 then Q a6 H1 else u σ H1 Q
def jkj(t:TT):TT:=λσ H Q=>t σ H λc H1=>Q (!c) H1
theorem jbn(ha:PT X a tA):PW X (.BoolOp .And [a] pos) tA:=by
 intro wh pins s σ H Q I h;refine isTrue_and (thn (ha pins s σ H Q I h) λc s1 e=>?_);cases c with
 |true=>exact isTrue_and_nil e
 |false=>exact e
theorem jem(ha:PT X a tA):PW X (.BoolOp .Or [a] pos) tA:=by
 intro wh pins s σ H Q I h;refine isTrue_or (thn (ha pins s σ H Q I h) λc s1 e=>?_);cases c with
 |false=>exact isTrue_or_nil e
 |true=>exact e
theorem jen(ha:PT X a tA)(hb:PW X (.BoolOp .And (b::rest) pos) tB'):PW X (.BoolOp .And (a::b::rest) pos) (jkq tA tB'):=by
 intro wh pins s σ H Q I h;refine isTrue_and (thn (ha pins s σ H _ I h) λc s1 ⟨H1,I1,q1⟩=>?_);cases c with
 |true=>exact hb wh pins s1 σ H1 Q I1 q1
 |false=>exact⟨H1,I1,q1⟩
theorem jil(ha:PT X a tA)(hb:PW X (.BoolOp .Or (b::rest) pos) tB'):PW X (.BoolOp .Or (a::b::rest) pos) (tOr tA tB'):=by
 intro wh pins s σ H Q I h;refine isTrue_or (thn (ha pins s σ H _ I h) λc s1 ⟨H1,I1,q1⟩=>?_);cases c with
 |true=>exact⟨H1,I1,q1⟩
 |false=>exact hb wh pins s1 σ H1 Q I1 q1
theorem jep(ha:PT X a tA):PT X (.UnaryOp .Not a pos) (jkj tA):=by intro pins s σ H Q I h;exact isTrue_not (ha pins s σ H (λc H1=>Q (!c) H1) I h)
def ji9(ta tb:TE):TE:=λσ H Q=>ta σ H λx H1=>∃c,x=.bl c/\if c=a6 then tb σ H1 Q else Q (.bl a5) H1
theorem j4i{op}{t:TE}(h:PE X a t):PE X (.BoolOp op [a] pos) t:=λpins s σ H Q I hw=>BoolOp_one (h pins s σ H Q I hw)
theorem jez(ha:PE X a ta)(hb:PE X (.BoolOp .And (b::rest) pos) tb):PE X (.BoolOp .And (a::b::rest) pos) (ji9 ta tb):=by
 intro pins s σ H Q I h;refine BoolOp_and (thn (ha pins s σ H _ I h) λv s1 ⟨x,H1,I1,r1,q1⟩=>?_);obtain⟨c,rfl,q1⟩:=q1;cases r1;refine bf ?_;cases c with
 |true=>exact hb pins s1 σ H1 Q I1 q1
 |false=>exact⟨.bl a5,H1,I1,rfl,q1⟩
end
def SqL(K:k7x)(H:Hp)(a:ae)(xs:List V):Prop :=
 Rd H a (.lst xs) \/
  ∃(o:cb)(its:Array aa)(n:Nat),K.lookup a=a4 o/\o.cls=.type "list"/\o.dict=a7/\o.data=.seq its n/\its.size<=ak/\Vals xs its.toList
def SqT(K:k7x)(H:Hp)(a:ae)(xs:List V):Prop :=
 Rd H a (.tup xs) \/
  ∃(o:cb)(its:Array aa)(n:Nat),K.lookup a=a4 o/\o.cls=.type "tuple"/\o.dict=a7/\o.data=.seq its n/\its.size<=ak/\Vals xs its.toList
noncomputable def jlp:aa->Option V
 |.none=>a4 .non
 |.bool b=>a4 (.bl b)
 |.int i _=>a4 (.int i)
 |.str x _=>a4 (.str x)
 |.bytes b _=>a4 (.byt b)
 |.float b _=>a4 (.flt b)
 |.ref a=>a4 (.ref a)
 |.type n=>a4 (.ty n)
 |_=>a7
theorem RelV.abs{x:V}{u:aa}(r:RelV x u):jlp u=a4 x:=by
 cases x with
 |non=>cases r;rfl
 |bl _=>cases r;rfl
 |int _=>obtain⟨t,rfl⟩:=r;rfl
 |str _=>obtain⟨t,rfl⟩:=r;rfl
 |byt _=>obtain⟨t,rfl⟩:=r;rfl
 |flt _=>obtain⟨t,rfl⟩:=r;rfl
 |ref _=>cases r;rfl
 |ty _=>cases r;rfl
theorem RelV.inj{x y:V}{u:aa}(r:RelV x u)(q:RelV y u):x=y:=aw (r.abs.symm.trans q.abs)
theorem Vals.inj:∀{xs ys:List V}{us:List aa},Vals xs us->Vals ys us->xs=ys
 |_,_,_,.nil,.nil=>rfl
 |_,_,_,.cons r t,.cons r' t'=>by rw[r.inj r',Vals.inj t t']
section
variable{X:Cx}{pins:k7z}{σ:St}{H:Hp}{s:ah}{a:ae}{xs ys:List V}
theorem SqL.of{K:k7x}(h:H a=a4 (.lst xs)):SqL K H a xs:=.inl (.inl h)
theorem Inv.list(I:Inv X pins σ H s)(h:SqL X.K H a xs):∃its:List aa,Vals xs its/\PlainL s.heap a its.toArray/\xs.length<=ak:=by
 rcases h with h|⟨o,its,n,hk,hc,hd,hs,hz,r⟩
 .obtain⟨z,its,n,r,e⟩:=h.ok I.hok;exact⟨its,r,⟨_,n,e,rfl,rfl,rfl⟩,z⟩
 .refine⟨its.toList,r,⟨o,n,I.kIn a o hk,hc,hd,by simpa using hs⟩,?_⟩;have e:=r.length;simp only[cE]at e;omega
theorem Inv.tuple(I:Inv X pins σ H s)(h:SqT X.K H a xs):∃its:List aa,Vals xs its/\ik s.heap a its.toArray/\xs.length<=ak:=by
 rcases h with h|⟨o,its,n,hk,hc,hnd,hs,hz,r⟩
 .obtain⟨z,its,r,p,_⟩:=h.ok I.hok;exact⟨its,r,p,z⟩
 .refine⟨its.toList,r,⟨o,I.kIn a o hk,hc,n,by simpa using hs⟩,?_⟩;have e:=r.length;simp only[cE]at e;omega
theorem Inv.tupD(I:Inv X pins σ H s)(h:SqT X.K H a xs):Zq s.heap a:=by
 rcases h with h|⟨o,its,n,hk,hc,hnd,hs,hz,r⟩
 .obtain⟨z,its,r,p,q⟩:=h.ok I.hok;exact q
 .intro o' e;rw[I.kIn a o hk]at e;cases e;exact hnd
theorem Inv.list_inj(I:Inv X pins σ H s)(h:SqL X.K H a xs)(h':SqL X.K H a ys):xs=ys:=by
 obtain⟨its,r,⟨o,n,e,_,_,d⟩,_⟩:=I.list h;obtain⟨its',r',⟨o',n',e',_,_,d'⟩,_⟩:=I.list h';rw[e]at e';cases e';rw[d]at d';injection d' with d1 _;have:its=its':=by simpa using congrArg jS d1
 subst this;exact r.inj r'
theorem Inv.tuple_inj(I:Inv X pins σ H s)(h:SqT X.K H a xs)(h':SqT X.K H a ys):xs=ys:=by
 obtain⟨its,r,⟨o,e,_,n,d⟩,_⟩:=I.tuple h;obtain⟨its',r',⟨o',e',_,n',d'⟩,_⟩:=I.tuple h';rw[e]at e';cases e';rw[d]at d';injection d' with d1 _;have:its=its':=by simpa using congrArg jS d1
 subst this;exact r.inj r'
end
noncomputable abbrev Cx.wish(X:Cx)(E:k7y):Cx:={ X with xe:=E }
noncomputable abbrev Cx.nox(X:Cx):Cx:=X.wish λ_ _=>False
theorem Cx.Ok.wish{X:Cx}(ok:X.Ok)(E:k7y):(X.wish E).Ok :=
 ⟨ok.mod,ok.kind,ok.glob,ok.blt,ok.above,ok.inj,ok.has,ok.cab,ok.hd,ok.frames,ok.stk,ok.exf,ok.bs,ok.bsz,ok.noex,ok.exfs,ok.funs,ok.frf⟩
theorem Cx.Ok.unwish{X:Cx}{E:k7y}(ok:(X.wish E).Ok):X.Ok :=
 ⟨ok.mod,ok.kind,ok.glob,ok.blt,ok.above,ok.inj,ok.has,ok.cab,ok.hd,ok.frames,ok.stk,ok.exf,ok.bs,ok.bsz,ok.noex,ok.exfs,ok.funs,ok.frf⟩
section
variable{X:Cx}{pins:k7z}{σ:St}{H:Hp}{s:ah}{E:k7y}
theorem Inv.wish(I:Inv X pins σ H s)(E:k7y):Inv (X.wish E) pins σ H s:=⟨I.ok.wish E,I.os,I.bare,I.base,I.loc,I.cell,I.free,I.freeC,I.pin,I.hok,I.len⟩
theorem Inv.unwish(I:Inv (X.wish E) pins σ H s):Inv X pins σ H s:=⟨I.ok.unwish,I.os,I.bare,I.base,I.loc,I.cell,I.free,I.freeC,I.pin,I.hok,I.len⟩
theorem SP.unwish{D:Ends}{f:Flow}{s':ah}(h:SP (X.wish E) pins D f s'):SP X pins D f s':=by
 cases f with
 |next=>obtain⟨σ',H',I,q⟩:=h;exact⟨σ',H',I.unwish,q⟩
 |brk=>obtain⟨σ',H',I,q⟩:=h;exact⟨σ',H',I.unwish,q⟩
 |cont=>obtain⟨σ',H',I,q⟩:=h;exact⟨σ',H',I.unwish,q⟩
 |ret u=>obtain⟨v,σ',H',H2,I,r,x,q⟩:=h;exact⟨v,σ',H',H2,I.unwish,r,x,q⟩
theorem PSs.nox{st:List aJ}{t:TS}(h:PSs X.nox st t):PSs X st t:=λpins s σ H D I hw =>aZ (h pins s σ H D (I.wish _) hw) (λ_ _ q=>q.unwish) λ_ _ z=>aS z
end
section
variable{X:Cx}{st:aJ}{rest:List aJ}{t u:TS}{e:ai}{te:TE}{pos:aK}
def ji5:TS:=λD σ H=>D.nx σ H
def jkh(t u:TS):TS:=λD σ H=>t { D with nx:=u D } σ H
theorem Ra:PSs X [] ji5:=λ_ _ σ H _ I h=>gh ⟨σ,H,I,h⟩
theorem Zb(h1:PS X st t)(h2:PSs X rest u):PSs X (st::rest) (jkh t u):=by
 intro pins s σ H D I h;refine ku (thn (h1 pins s σ H { D with nx:=u D } I h) λf s1 q=>?_);cases f with
 |next =>obtain⟨σ',H',I',q⟩:=q;exact h2 pins s1 σ' H' D I' q
 |ret v=>exact q
 |brk=>exact q
 |cont=>exact q
theorem R9(h1:PS X st t):PSs X [st] t:=by
 intro pins s σ H D I h;refine ku (thn (h1 pins s σ H D I h) λf s1 q=>?_);cases f with
 |next=>exact gh q
 |ret v=>exact q
 |brk=>exact q
 |cont=>exact q
theorem Inv.quiet{pins:k7z}{σ:St}{H:Hp}{s:ah}(I:Inv X pins σ H s):interactive X.env=a5:=by simp[interactive,I.ok.kind]
def ji6(te:TE):TS:=λD σ H=>te σ H λ_ H1=>D.nx σ H1
theorem Zd(he:PE X e te)(hs:aP e a7 pos.line X.env=pure a5:=by rfl):PS X (.Expr e pos) (ji6 te):=by intro pins s σ H D I h;exact wpAny_Expr_any (thn (he pins s σ H _ I h) λv s1 ⟨x,H1,I1,r1,q1⟩=>⟨σ,H1,I1,q1⟩) I.quiet hs
def jki(te:TE):TS:=λD σ H=>te σ H D.rt
theorem W9(he:PE X e te):PS X (.Return (a4 e) pos) (jki te):=by intro pins s σ H D I h;exact wpAny_Return_some (thn (he pins s σ H _ I h) λv s1 ⟨x,H1,I1,r1,q1⟩=>⟨x,σ,H1,H1,I1,r1,.refl,q1⟩)
def jkn(c:TT)(t u:TS):TS:=λD σ H=>c σ H λb H1=>if b=a6 then t D σ H1 else u D σ H1
theorem j2j{c:ai}{a b:List aJ}{tc:TT}(hc:PT X c tc)(ha:PSs X a t)(hb:PSs X b u):PS X (.If c a b pos) (jkn tc t u):=by
 intro pins s σ H D I h;refine wpAny_If (thn (hc pins s σ H _ I h) λd s1 ⟨H1,I1,q1⟩=>?_);cases d with
 |true=>exact ha pins s1 σ H1 D I1 q1
 |false=>exact hb pins s1 σ H1 D I1 q1
end
abbrev TG:=V->St->Hp->(St->Hp->Prop)->Prop
abbrev TGs:=List V->St->Hp->(St->Hp->Prop)->Prop
def PG(X:Cx)(target:ai)(t:TG):Prop :=
 ∀(pins:k7z) (s:ah) (σ:St) (H:Hp) (v:V) (u:aa) (Q:St->Hp->Prop),Inv X pins σ H s->RelV v u->t v σ H Q ->
  ax (ay X.prog X.w) X.A (cI target X.env u) (λ_ s'=>∃σ' H',Inv X pins σ' H' s'/\Q σ' H') X.xe s
def PGs(X:Cx)(ts:List ai)(t:TGs):Prop :=
 ∀(pins:k7z) (s:ah) (σ:St) (H:Hp) (vs:List V) (us:List aa) (Q:St->Hp->Prop),Inv X pins σ H s->Vals vs us->t vs σ H Q ->
  ax (ay X.prog X.w) X.A (assignInOrder ((bp ts X.env).map (·.2)) us) (λ_ s'=>∃σ' H',Inv X pins σ' H' s'/\Q σ' H') X.xe s
abbrev j3f:=V->V->V->Hp->(Hp->Prop)->Prop
def jhy(X:Cx)(t:j3f):Prop :=
 ∀(pins:k7z) (s:ah) (σ:St) (H:Hp) (o i v:V) (ov iv u:aa) (Q:Hp->Prop),Inv X pins σ H s->RelV o ov->RelV i iv->RelV v u->t o i v H Q ->
  ax (ay X.prog X.w) X.A (setItem ov iv u) (λ_ s'=>∃H',Inv X pins σ H' s'/\Q H') X.xe s
section
variable{X:Cx}{pos:aK}
def ja8(i:Nat):TG:=λv σ H Q=>Q (σ.set i (a4 v)) H
theorem Yv{i:Nat}{x:af}(hN:X.N.Nodup)(hi:X.N[i]?=a4 x)(hx:Loc X.env.scope x)(hf:X.fn x=a6\/X.env.scope.names.lookup x=a4 .local:=by first|exact .inl rfl|exact .inr rfl|assumption):PG X (.Name x pos) (ja8 i):=by intro pins s σ H v u Q I r h;exact jV (Kg I hN hi hx r (λs' I'=>⟨_,H,I',h⟩) hf)
def jlh:TGs:=λvs σ H Q=>vs=[]/\Q σ H
def jjc(t:TG)(u:TGs):TGs:=λvs σ H Q=>∃v r,vs=v::r/\t v σ H λσ' H'=>u r σ' H' Q
theorem jbq:PGs X [] jlh:=by intro pins s σ H vs us Q I r h;obtain⟨e,h⟩:=h;subst e;cases r;exact assignInOrder_nil ⟨σ,H,I,h⟩
theorem Ih{e:ai}{es:List ai}{t:TG}{u:TGs}(h1:PG X e t)(h2:PGs X es u)
  (hs:(bp (e::es) X.env).map (·.2)=cI e X.env::(bp es X.env).map (·.2):=by rfl):PGs X (e::es) (jjc t u):=by
 intro pins s σ H vs us Q I r h;obtain⟨v,vr,e1,h⟩:=h;subst e1;cases r with
 |cons r rr =>rw[hs];refine assignInOrder_cons (thn (h1 pins s σ H _ _ _ I r h) λ_ s1 ⟨σ1,H1,I1,q1⟩=>?_);exact h2 pins s1 σ1 H1 _ _ Q I1 rr q1
def jlf(K:k7x)(n:Nat)(t:TGs):TG:=λv σ H Q=>∃a xs,v=.ref a/\SqT K H a xs/\xs.length=n/\t xs σ H Q
theorem jeu{es:List ai}{k:Nat}{t:TGs}{n:Nat}(hc:X.calm=a6)(h:PGs X es t)
  (hn:(bp es X.env).length=n:=by rfl) (hst:(bp es X.env).findIdx? (·.1)=a7:=by rfl):PG X (.Tuple es k pos) (jlf X.K n t):=by
 intro pins s σ H v u Q I r hw;obtain⟨a,xs,e1,hq,hl,hw⟩:=hw;subst e1;cases r;obtain⟨its,rv,ht,hz⟩:=I.tuple hq;refine assign_Tuple_tuple (I.ok.hd hc) ht (by simp[hn,<-hl,rv.length]) hst λh' hx=>?_;have I1:Inv X pins σ H { s with heap:=h' }:=I.kept (t':=s.toks) λb o e=>hx b o (Xj (xr e)) e;exact h pins _ σ H xs _ Q I1 (by simpa using rv) hw
def jlg(to ti:TE)(t:j3f):TG:=λv σ H Q=>to σ H λo H1=>ti σ H1 λi H2=>t o i v H2 λH3=>Q σ H3
theorem jev{o i:ai}{to ti:TE}{t:j3f}(ho:PE X o to)(hi:PE X i ti)(hs:jhy X t)
  (ha:∀v,cI (.Subscript o i pos) X.env v=(do
   let ov <-c8 [v] (az o X.env)
   let iv <-c8 [v,ov] (az i X.env)
   fK pos
   c8 [v,ov,iv] (setItem ov iv v)
   release [v,ov,iv] []):=by intro _;rfl):PG X (.Subscript o i pos) (jlg to ti t):=by
 intro pins s σ H v u Q I r h;rw[ha];refine aj (cL (thn (ho pins s σ H _ I h) λov s1 ⟨x,H1,I1,r1,q1⟩=>?_));refine aj (cL (thn (hi pins s1 σ H1 _ I1 q1) λiv s2 ⟨y,H2,I2,r2,q2⟩=>?_));refine aj (fb (aj (cL (thn (hs pins s2 σ H2 x y v ov iv u _ I2 r1 r2 r q2) λ_ s3 ⟨H3,I3,q3⟩=>?_))));exact wpAny_release ⟨σ,H3,I3,q3⟩
def jdt(te:TE)(g:TG):TS:=λD σ H=>te σ H λx H1=>g x σ H1 D.nx
theorem j4c{tg e:ai}{te:TE}{g:TG}(he:PE X e te)(hg:PG X tg g)(hs:dC [tg] e pos.line X.env=pure a5:=by rfl)(hw:dD [tg] e X.env=pure a7:=by rfl)
  (h1:(bp [tg] X.env).map (·.2)=[cI tg X.env]:=by rfl):PS X (.Assign [tg] e pos) (jdt te g):=by
 intro pins s σ H D I h;refine wpAny_Assign_stores (thn (he pins s σ H _ I h) λv s1 ⟨x,H1,I1,r1,q1⟩=>?_) hs hw;rw[h1];exact thn (hg pins s1 σ H1 x v _ I1 r1 q1) λ_ s2 q=>q
theorem Yu{i:Nat}{x:af}{e:ai}{te:TE}{pos':aK}(hN:X.N.Nodup)(hi:X.N[i]?=a4 x)(hx:Loc X.env.scope x)(he:PE X e te)(hs:aP e (a4 (.Name x pos')) pos.line X.env=pure a5:=by rfl)(hf:X.fn x=a6\/X.env.scope.names.lookup x=a4 .local:=by first|exact .inl rfl|exact .inr rfl|assumption) :
  PS X (.Assign [.Name x pos'] e pos) (jdt te (ja8 i)):=by
 intro pins s σ H D I h;refine wpAny_Assign_Name (thn (he pins s σ H _ I h) λv s1 ⟨y,H1,I1,r1,q1⟩=>?_) hs;exact Kg I1 hN hi hx r1 (λs2 I2=>⟨_,H1,I2,q1⟩) hf
end
structure It where
 go:Nat->Hp->Prop
 yld:Nat->Hp->V->Hp->Prop
 stop:Nat->Hp->Prop
def Y5(X:Cx)(pins:k7z)(H:Hp)(b:ae):Prop :=
 H b=a7/\b≠X.env.locals/\b∉X.fs/\(b∈X.ex\/X.s₀.heap.objs.size<=b)/\(∀x c,X.env.cells.lookup x=a4 c->c≠b)/\∀p∈X.pn++pins,p.1≠b
theorem Inv.fpOk{X:Cx}{pins:k7z}{σ:St}{H H':Hp}{s:ah}{b:ae}(I:Inv X pins σ H s)(hb:s.heap.objs.size<=b)(hn:H' b=a7):Y5 X pins H' b:=by
 refine⟨hn,bS (Xk I.lt hb),I.nofs hb,.inr (Xf I.sz hb),λx c e z=>?_,λp hp z=>?_⟩
 .obtain⟨v,q⟩:=I.cell x c e;exact absurd (Xk q.lt (by rw[z];exact hb)) (Pj _)
 .exact absurd (Xk (xr (I.pin p hp).1) (by rw[z];exact hb)) (Pj _)
structure Turn(P:ar)(w:aA)(K:k7x)(tg:ai)(J:It)(fp:List ae)(it:ae)(tn:Nat->aE->Prop):Prop where
 mem:it∈fp
 obj:∀i h,tn i h->∀b∈fp,∃o,h.get? b=a4 o/\∀v,o.data≠.cell v
 keep:∀i h h',tn i h->(∀b∈fp,∀o,h.get? b=a4 o->h'.get? b=a4 o)->tn i h'
 item:∀(X:Cx),X.prog=P->X.w=w->X.K=K->X.calm=a6->∀(i:Nat)(pins:k7z) (s:ah) (σ:St) (H:Hp) (E:k7y),Inv X pins σ H s->(∀b∈fp,Y5 X pins H b)->tn i s.heap->J.go i H ->
  ax (ay P w) X.A (pyNext (.ref it)) (λr s1=>∃u,r=a4 u /\
   ax (ay P w) X.A (dZ tg (.ref it) u) (λ_ s2=>∃x H',Inv X pins σ H' s2/\RelV x u/\J.yld i H x H'/\tn (i+1) s2.heap/\∀b∈fp,H' b=a7) E s1) E s
 done:∀(X:Cx),X.prog=P->X.w=w->X.K=K->X.calm=a6->∀(i:Nat)(pins:k7z) (s:ah) (σ:St) (H:Hp) (E:k7y),Inv X pins σ H s->(∀b∈fp,Y5 X pins H b)->tn i s.heap->J.stop i H ->
  ax (ay P w) X.A (pyNext (.ref it)) (λr s1=>r=a7/\Inv X pins σ H s1) E s
 self:∀(A:aD)(i:Nat)(s:ah)(Q:k7y)(E:k7y),tn i s.heap->Q (.ref it) s->ax (ay P w) A (jK (.ref it)) Q E s
abbrev TI:=St->Hp->(It->Hp->Prop)->Prop
def PIE(X:Cx)(pins:k7z)(σ:St)(tg:ai)(R:It->Hp->Prop)(itv:aa)(s2:ah):Prop :=
 ∃(it:ae)(fp:List ae)(tn:Nat->aE->Prop)(J:It)(H':Hp),itv=.ref it/\Inv X pins σ H' s2/\Turn X.prog X.w X.K tg J fp it tn/\tn 0 s2.heap/\(∀b∈fp,Y5 X pins H' b)/\R J H'
def PI(X:Cx)(tg iter:ai)(wi:TI):Prop :=
 ∀(pins:k7z) (s:ah) (σ:St) (H:Hp) (R:It->Hp->Prop),Inv X pins σ H s->wi σ H R ->
  ax (ay X.prog X.w) X.A (az iter X.env) (λv s1=>ax (ay X.prog X.w) X.A (jK v) (PIE X pins σ tg R) X.xe s1) X.xe s
theorem K1{M:g6}{A:aD}{E:k7y}{s:ah}{tg:ai}{it:ae}{u:aa}{o:cb}{n:String}{vs:Array aa}{Q:Unit->ah->Prop}(ho:s.heap.get? it=a4 o)(hc:o.cls=.type n)(hd:o.data=.fields vs)
  (hn:["enumerate","zip","dict_itemiterator","dict_reverseitemiterator","odict_iterator","itertools.zip_longest","itertools.pairwise"].contains n=a5) (hQ:Q () s):ax M A (dZ tg (.ref it) u) Q E s:=by
 unfold dZ;cases tg<;>first
  |exact aC hQ
  |(cases u<;>first
    |exact aC hQ
    |(refine aj (wpAny_load ho ?_);rw[hc,hd];show ax M A (if (["enumerate","zip","dict_itemiterator","dict_reverseitemiterator","odict_iterator","itertools.zip_longest","itertools.pairwise"].contains n&&vs[0]?==a4 (jJ _))=a6 then _ else _) Q E s;rw[if_neg (by intro h;rw[hn,jD]at h;cases h)];exact aC hQ))
noncomputable def Itl(K:k7x)(a:ae):It :=
 ⟨λi H=>∃xs x,SqL K H a xs/\xs[i]?=a4 x,λi H x H'=>H'=H/\∀xs,SqL K H a xs->xs[i]?=a4 x,λi H=>∃xs,SqL K H a xs/\xs.length<=i⟩
noncomputable def Itt(K:k7x)(a:ae):It :=
 ⟨λi H=>∃xs x,SqT K H a xs/\xs[i]?=a4 x,λi H x H'=>H'=H/\∀xs,SqT K H a xs->xs[i]?=a4 x,λi H=>∃xs,SqT K H a xs/\xs.length<=i⟩
noncomputable def Itr(lo:Int)(n:Nat):It:=⟨λi _=>i<n,λi H x H'=>H'=H/\x=.int (lo+i),λi _=>n<=i⟩
theorem j3p{P:ar}{w:aA}{K:k7x}{tg:ai}(a it:ae):Turn P w K tg (Itl K a) [it] it (λi h=>h.IsListIter it a i) where
 mem:=by simp
 obj:=λi h st b hb=>by
  have e:b=it:=by simpa using hb
  subst e;obtain⟨o,e,c,d⟩:=st;exact⟨o,e,λv z=>by rw[d]at z;cases z⟩
 keep:=λi h h' st k=>st.at λo e=>k it (by simp) o e
 item:=by intro X hP hw hK hc i pins s σ H E I hf st hg;subst hP hw hK;obtain⟨xs,x,hq,hx⟩:=hg;obtain⟨its,rv,p,hz⟩:=I.list hq;obtain⟨u,hu,ru⟩:=rv.get hx;obtain⟨f0,f1,f2,f3,f4,f5⟩:=hf it (by simp);refine wpAny_pyNext_list_item st p.isList (x:=u) (by simpa using hu) λh' st' sb=>?_;have I1:Inv X pins σ H { s with heap:=h' }:=I.turned (t':=s.toks) (λb o hb e=>(sb.2 b hb).trans e) f0 f1 f3 f4 f5;obtain⟨o,e,c,d⟩:=id st';exact⟨u,rfl,K1 (s:={ s with heap:=h' }) e c d (by decide) ⟨x,H,I1,ru,⟨rfl,λys hy=>by rw[I.list_inj hy hq];exact hx⟩,st',λb hb=>(hf b hb).1⟩⟩
 done:=by intro X hP hw hK hc i pins s σ H E I hf st hg;subst hP hw hK;obtain⟨xs,hq,hx⟩:=hg;obtain⟨its,rv,p,hz⟩:=I.list hq;obtain⟨f0,f1,f2,f3,f4,f5⟩:=hf it (by simp);have hl:=rv.length;exact wpAny_pyNext_list_end (I.ok.hd hc) st p.isList (by simp;omega) λh' eb=>⟨rfl,I.turned (t':=s.toks) (λb o hb e=>eb b o hb e) f0 f1 f3 f4 f5⟩
 self:=λ_ _ _ _ _ st h=>wpAny_pyIter_listiter st h
theorem j29{P:ar}{w:aA}{K:k7x}{tg:ai}(a it:ae):Turn P w K tg (Itt K a) [it] it (λi h=>h.IsTupleIter it a i) where
 mem:=by simp
 obj:=λi h st b hb=>by
  have e:b=it:=by simpa using hb
  subst e;obtain⟨o,e,c,d⟩:=st;exact⟨o,e,λv z=>by rw[d]at z;cases z⟩
 keep:=λi h h' st k=>st.at λo e=>k it (by simp) o e
 item:=by intro X hP hw hK hc i pins s σ H E I hf st hg;subst hP hw hK;obtain⟨xs,x,hq,hx⟩:=hg;obtain⟨its,rv,p,hz⟩:=I.tuple hq;obtain⟨u,hu,ru⟩:=rv.get hx;obtain⟨f0,f1,f2,f3,f4,f5⟩:=hf it (by simp);refine wpAny_pyNext_tuple_item st (show s.heap.IsTuple a its.toArray from p) (x:=u) (by simpa using hu) λh' st' sb=>?_;have I1:Inv X pins σ H { s with heap:=h' }:=I.turned (t':=s.toks) (λb o hb e=>(sb.2 b hb).trans e) f0 f1 f3 f4 f5;obtain⟨o,e,c,d⟩:=id st';exact⟨u,rfl,K1 (s:={ s with heap:=h' }) e c d (by decide) ⟨x,H,I1,ru,⟨rfl,λys hy=>by rw[I.tuple_inj hy hq];exact hx⟩,st',λb hb=>(hf b hb).1⟩⟩
 done:=by intro X hP hw hK hc i pins s σ H E I hf st hg;subst hP hw hK;obtain⟨xs,hq,hx⟩:=hg;obtain⟨its,rv,p,hz⟩:=I.tuple hq;obtain⟨f0,f1,f2,f3,f4,f5⟩:=hf it (by simp);have hl:=rv.length;exact wpAny_pyNext_tuple_end (I.ok.hd hc) st (show s.heap.IsTuple a its.toArray from p) (by simp;omega) λh' eb=>⟨rfl,I.turned (t':=s.toks) (λb o hb e=>eb b o hb e) f0 f1 f3 f4 f5⟩
 self:=λ_ _ _ _ _ st h=>wpAny_pyIter_tupleiter st h
theorem j2a{P:ar}{w:aA}{K:k7x}{tg:ai}(it:ae)(lo:Int)(n:Nat):Turn P w K tg (Itr lo n) [it] it (λi h=>IsRangeIter h it (lo+(i:Nat)*1) ((n:Int)-(i:Nat)) 1) where
 mem:=by simp
 obj:=λi h st b hb=>by
  have e:b=it:=by simpa using hb
  subst e;exact⟨_,st,λv z=>by
   have z':Data.fields _=Data.cell v:=z
   cases z'⟩
 keep:=λi h h' st k=>k it (by simp) _ st
 item:=by intro X hP hw hK hc i pins s σ H E I hf st hg;subst hP hw hK;obtain⟨f0,f1,f2,f3,f4,f5⟩:=hf it (by simp);have W:=Walks.range (prog:=X.prog) (w:=X.w) (I.ok.hd hc) it lo 1 n;refine W.item i s _ _ hg st λv h' tk hv st' kk=>?_;obtain⟨t,rfl⟩:=hv;have I1:Inv X pins σ H { s with heap:=h',toks:=tk }:=I.turned (λb o hb e=>kk b o (by simpa using hb) e) f0 f1 f3 f4 f5;refine⟨_,rfl,K1 (s:={ s with heap:=h',toks:=tk }) (n:="range_iterator") st' rfl rfl (by decide) ⟨.int (lo+i),H,I1,⟨t,?_⟩,⟨rfl,rfl⟩,st',λb hb=>(hf b hb).1⟩⟩;rw[l7]
 done:=by intro X hP hw hK hc i pins s σ H E I hf st hg;subst hP hw hK;obtain⟨f0,f1,f2,f3,f4,f5⟩:=hf it (by simp);exact wpAny_pyNext_range_end (I.ok.hd hc) st (by have:n<=i:=hg;omega) λh' eb=>⟨rfl,I.turned (t':=s.toks) (λb o hb e=>eb b o hb e) f0 f1 f3 f4 f5⟩
 self:=λ_ _ _ _ _ st h=>wpAny_pyIter_rangeiter st h
section
variable{X:Cx}{tg:ai}
def jja(K:k7x)(tl:TE):TI:=λσ H R=>tl σ H λx H1=>∃a,x=.ref a/\(∃xs,SqL K H1 a xs)/\R (Itl K a) H1
def jld(K:k7x)(tl:TE):TI:=λσ H R=>tl σ H λx H1=>∃a,x=.ref a/\(∃xs,SqT K H1 a xs)/\R (Itt K a) H1
theorem j1c{l:ai}{tl:TE}(hl:PE X l tl):PI X tg l (jja X.K tl):=by
 intro pins s σ H R I h;refine thn (hl pins s σ H _ I h) λv s1 ⟨x,H1,I1,r1,q1⟩=>?_;obtain⟨a,e,⟨xs,hq⟩,q⟩:=q1;subst e;cases r1;obtain⟨its,rv,p,hz⟩:=I1.list hq;refine cB p.isList ?_;refine⟨s1.heap.objs.size,[s1.heap.objs.size],_,_,H1,rfl,I1.kept (t':=s1.toks) λb o e=>X8 _ e,j3p a _,⟨_,Xi _ rfl,rfl,rfl⟩,λb hb=>?_,q⟩;have e:b=s1.heap.objs.size:=by simpa using hb
 subst e;exact I1.fpOk (X7 _) (I1.hok.fresh (X7 _))
theorem jet{l:ai}{tl:TE}(hl:PE X l tl):PI X tg l (jld X.K tl):=by
 intro pins s σ H R I h;refine thn (hl pins s σ H _ I h) λv s1 ⟨x,H1,I1,r1,q1⟩=>?_;obtain⟨a,e,⟨xs,hq⟩,q⟩:=q1;subst e;cases r1;obtain⟨its,rv,p,hz⟩:=I1.tuple hq;refine fj (show s1.heap.IsTuple a its.toArray from p) ?_;refine⟨s1.heap.objs.size,[s1.heap.objs.size],_,_,H1,rfl,I1.kept (t':=s1.toks) λb o e=>X8 _ e,j29 a _,⟨_,Xi _ rfl,rfl,rfl⟩,λb hb=>?_,q⟩;have e:b=s1.heap.objs.size:=by simpa using hb
 subst e;exact I1.fpOk (X7 _) (I1.hok.fresh (X7 _))
theorem Ib{pins:k7z}{σ:St}{H:Hp}{s:ah}{R:It->Hp->Prop}{E:k7y}{lo hi:Int}{t u v:jL}{tk:Nat}(I:Inv X pins σ H s)(h1:-(2^62)<=lo)(h2:lo<2^62)(h3:-(2^62)<=hi)(h4:hi<2^62)
  (q:R (Itr lo (hi-lo).toNat) H):ax (ay X.prog X.w) X.A (jK (.ref s.heap.objs.size)) (PIE X pins σ tg R) E { s with heap:=s.heap.push { cls:=.type "range",data:=.fields #[.int lo t,.int hi u,.int 1 v] },toks:=tk }:=by
 refine wpAny_pyIter_range (IsRange.new ..) (small_one h1 h2 h3 h4) ?_;have I1:Inv X pins σ H { s with heap:=s.heap.push { cls:=.type "range",data:=.fields #[.int lo t,.int hi u,.int 1 v] },toks:=tk }:=I.kept λb o e=>X8 _ e;refine⟨(s.heap.push { cls:=.type "range",data:=.fields #[.int lo t,.int hi u,.int 1 v] }).objs.size,[(s.heap.push { cls:=.type "range",data:=.fields #[.int lo t,.int hi u,.int 1 v] }).objs.size],_,_,H,rfl,
  I1.kept (t':=tk) λb o e=>X8 _ e,j2a _ lo (hi-lo).toNat,?_,λb hb=>?_,q⟩
 .have e1:lo+((0:Nat):Int)*1=lo:=by simp
  have e2:(((hi-lo).toNat:Nat):Int)-((0:Nat):Int)=Builtin.Range.rangeSize lo hi 1:=by rw[rangeSize_one];split<;>omega
  show IsRangeIter _ _ (lo+((0:Nat):Int)*1) ((((hi-lo).toNat:Nat):Int)-((0:Nat):Int)) 1;rw[e1,e2];exact Xi _ rfl
 .have e:b=(s.heap.push { cls:=.type "range",data:=.fields #[.int lo t,.int hi u,.int 1 v] }).objs.size:=by simpa using hb
  subst e;exact I1.fpOk (X7 _) (I1.hok.fresh (X7 _))
def jj9(ta:TA):TI:=λσ H R=>ta σ H λvs H1=>∃j:Int,vs=[.int j]/\-(2^62)<=j/\j<2^62/\R (Itr 0 j.toNat) H1
def jj8(ta:TA):TI:=λσ H R=>ta σ H λvs H1=>∃i j:Int,vs=[.int i,.int j]/\(-(2^62)<=i/\i<2^62/\-(2^62)<=j/\j<2^62)/\R (Itr i (j-i).toNat) H1
theorem j4g {a:ai} {ta:TA} {p pos:aK} (hg:Gl X "range") (hm:X.mg "range" = a7) (ha:PA X [a] ta) (hs:a8 [a] X.env=[(a5,az a X.env)]:=by rfl):PI X tg (.Call (.Name "range" p) [a] [] pos) (jj9 ta):=by
 intro pins s σ H R I h;refine Call_ (Vp I hg hm boot_range (callWith_type1 (thn (ha pos pins s σ H _ I h) λus s1 ⟨vs,H1,I1,r1,q1⟩=>?_) hs rfl));obtain⟨j,e,q1,q2,q⟩:=q1;subst e;cases r1 with
 |cons r rr =>cases rr;obtain⟨t,rfl⟩:=r;exact call_range_1 (Ib I1 nofun nofun q1 q2 (by simpa using q))
theorem j4f {a b:ai} {ta:TA} {p pos:aK} (hg:Gl X "range") (hm:X.mg "range" = a7) (ha:PA X [a,b] ta) (hs:a8 [a,b] X.env=[(a5,az a X.env),(a5,az b X.env)]:=by rfl) (hs2:a8 [b] X.env=[(a5,az b X.env)]:=by rfl) :
  PI X tg (.Call (.Name "range" p) [a,b] [] pos) (jj8 ta):=by
 intro pins s σ H R I h;refine Call_ (Vp I hg hm boot_range (callWith_type1 (thn (ha pos pins s σ H _ I h) λus s1 ⟨vs,H1,I1,r1,q1⟩=>?_) (by rw[hs,hs2]) (by rw[hs2];rfl)));obtain⟨i,j,e,⟨q1,q2,q3,q4⟩,q⟩:=q1;subst e;cases r1 with
 |cons r rr =>
  cases rr with
  |cons r' rr =>cases rr;obtain⟨t,rfl⟩:=r;obtain⟨t',rfl⟩:=r';exact call_range_2 (Ib I1 q1 q2 q3 q4 q)
def jko(wi:TI)(g:TG)(tb:TS):TS:=λD σ H=>wi σ H λJ H1=>∃W:Nat->Nat->St->Hp->Prop,(∃m,W 0 m σ H1)/\∀i m σ H,W i m σ H ->
 (J.stop i H/\D.nx σ H)\/(J.go i H/\∃N:St->Hp->Prop,(∀σ' H',N σ' H'->∃m',m'<m/\W (i+1) m' σ' H')/\∀x H',J.yld i H x H'->g x σ H' λσ2 H2=>tb { D with nx:=N,ct:=N,bk:=D.nx } σ2 H2)
noncomputable def Qu(fp:List ae)(h:aE):List (ae×cb):=fp.filterMap λb=>(h.get? b).map λo=>(b,o)
theorem Qv{fp:List ae}{h:aE}{b:ae}{o:cb}(hb:b∈fp)(e:h.get? b=a4 o):(b,o)∈Qu fp h:=t7.mpr ⟨b,hb,by rw[e];rfl⟩
theorem Dk{fp:List ae}{h:aE}{p:ae×cb}(hp:p∈Qu fp h):p.1∈fp/\h.get? p.1=a4 p.2:=by
 obtain⟨b,hb,e⟩:=t7.mp hp;cases q:h.get? b with
 |none=>rw[q]at e;cases e
 |some o =>rw[q]at e;have e':(b,o)=p:=aw e;subst e';exact⟨hb,q⟩
theorem Inv.pinned{pins:k7z}{σ:St}{H:Hp}{s:ah}{fp:List ae}(I:Inv X pins σ H s)(hf:∀b∈fp,Y5 X pins H b)(ho:∀b∈fp,∃o,s.heap.get? b=a4 o/\∀v,o.data≠.cell v):Inv X (pins++Qu fp s.heap) σ H s :=
 I.pins_of λp hp=>(ph.mp hp).elim (λz=>I.pin p (Xo _ z)) λz=>by obtain⟨hb,e⟩:=Dk z;obtain⟨f0,f1,f2,_⟩:=hf p.1 hb;obtain⟨o,e',d⟩:=ho p.1 hb;rw[e]at e';cases e';exact⟨e,f0,f1,f2,d⟩
theorem Inv.unpinned{pins pl:k7z}{σ:St}{H:Hp}{s:ah}(I:Inv X (pins++pl) σ H s):Inv X pins σ H s:=I.pins_of λp hp=>I.pin p (Xo _ (Tc _ hp))
theorem Ig{iter:ai}{body:List aJ}{wi:TI}{g:TG}{tb:TS}{pos:aK}(hp:dP (ay X.prog X.w) X.A X.env X.xe)(hc:X.calm=a6)(hi:PI X tg iter wi)(hg:PG X tg g)(hb:PSs X body tb)
  (hs:∀x,aH iter X.env x=pure x:=by intro _;rfl):PS X (.For tg iter body [] pos) (jko wi g tb):=by
 intro pins s σ H D I h;refine wpAny_For (thn (hi pins s σ H _ I h) λv s1 h1=>thn h1 λitv s2 h2=>?_) hs;obtain⟨it,fp,tn,J,H2,e,I2,T,st2,f2,W,⟨m0,w0⟩,turn⟩:=h2;subst e;have stat:∀{H':Hp},(∀b∈fp,H' b=a7)->∀b∈fp,Y5 X pins H' b:=λhn b hb=>⟨hn b hb,(f2 b hb).2⟩
 refine codeAny_forLoop_any (λn s'=>∃i σ' H',Inv X pins σ' H' s'/\tn i s'.heap/\(∀b∈fp,H' b=a7)/\W i n σ' H') ?_ m0 ⟨0,σ,H2,I2,st2,λb hb=>(f2 b hb).1,w0⟩;rintro n s3 ⟨i,σ3,H3,I3,st3,fr3,w3⟩;rcases turn i n σ3 H3 w3 with ⟨stop,qn⟩|⟨go,N,hN,step⟩
 .refine cY hp (thn (T.done X rfl rfl rfl hc i pins s3 σ3 H3 X.xe I3 (stat fr3) st3 stop) λr s4 ⟨hr,I4⟩=>?_);subst hr;exact gh ⟨σ3,H3,I4,qn⟩
 .refine cY hp (thn (T.item X rfl rfl rfl hc i pins s3 σ3 H3 X.xe I3 (stat fr3) st3 go) λr s4 ⟨u,hr,h4⟩=>?_);subst hr;refine cY hp (thn h4 λ_ s5 ⟨x,H5,I5,r5,y5,st5,fr5⟩=>?_);have I5':=I5.pinned (stat fr5) (T.obj _ _ st5);refine cY hp (thn (hg _ s5 σ3 H5 x u _ I5' r5 (step x H5 y5)) λ_ s6 ⟨σ6,H6,I6,q6⟩=>?_);refine cY hp (thn (hb _ s6 σ6 H6 _ I6 q6) λf s7 q7=>?_);have jY:∀{σ7:St}{H7:Hp},Inv X (pins++Qu fp s5.heap) σ7 H7 s7->N σ7 H7->∃m,m<n/\∃i σ' H',Inv X pins σ' H' s7/\tn i s7.heap/\(∀b∈fp,H' b=a7)/\W i m σ' H':=λ{σ7 H7} I7 n7=>by obtain⟨m',hm,w7⟩:=hN σ7 H7 n7;refine⟨m',hm,i+1,σ7,H7,I7.unpinned,T.keep _ _ _ st5 λb hb o e=>(I7.pin (b,o) (Xo _ (Xo _ (Qv hb e)))).1,λb hb=>?_,w7⟩;obtain⟨o,e,d⟩:=T.obj _ _ st5 b hb;exact(I7.pin (b,o) (Xo _ (Xo _ (Qv hb e)))).2.1
  cases f with
  |next=>obtain⟨σ7,H7,I7,n7⟩:=q7;exact jY I7 n7
  |cont=>obtain⟨σ7,H7,I7,n7⟩:=q7;exact jY I7 n7
  |brk=>obtain⟨σ7,H7,I7,q7⟩:=q7;exact⟨σ7,H7,I7.unpinned,q7⟩
  |ret v=>obtain⟨x7,σ7,H7,H8,I7,r7,x8,q7⟩:=q7;exact⟨x7,σ7,H7,H8,I7.unpinned,r7,x8,q7⟩
end
theorem j8g{K:k7x}{a:ae}{xs:List V}{g:TG}{tb:TS}{D:Ends}{σ:St}{H:Hp}(Pv:Nat->St->Hp->Prop)(h0:Pv 0 σ H)(hl:∀i σ H,i<=xs.length->Pv i σ H->SqL K H a xs)
  (hs:∀i x σ H,xs[i]?=a4 x->Pv i σ H->g x σ H λσ2 H2=>tb { D with nx:=Pv (i+1),ct:=Pv (i+1),bk:=D.nx } σ2 H2) (hd:∀σ H,Pv xs.length σ H->D.nx σ H) :
  ∃W:Nat->Nat->St->Hp->Prop,(∃m,W 0 m σ H)/\∀i m σ H,W i m σ H ->
   ((Itl K a).stop i H/\D.nx σ H)\/((Itl K a).go i H/\∃N:St->Hp->Prop,(∀σ' H',N σ' H'->∃m',m'<m/\W (i+1) m' σ' H')/\∀x H',(Itl K a).yld i H x H'->g x σ H' λσ2 H2=>tb { D with nx:=N,ct:=N,bk:=D.nx } σ2 H2):=by
 refine⟨λi m σ H=>m=xs.length-i/\i<=xs.length/\Pv i σ H,⟨xs.length,by simp,T9 _,h0⟩,?_⟩;rintro i m σ H ⟨rfl,hi,p⟩;have q:=hl i σ H hi p;by_cases hlt:i<xs.length
 .refine .inr ⟨⟨xs,xs[i],q,by simp[hlt]⟩,Pv (i+1),λσ' H' p'=>⟨xs.length-(i+1),by omega,rfl,hlt,p'⟩,λx H' y=>?_⟩;obtain⟨e,y⟩:=y;subst e;exact hs i x σ _ (y xs q) p
 .have e:i=xs.length:=by omega
  subst e;exact .inl ⟨⟨xs,q,X7 _⟩,hd σ H p⟩
abbrev R2:=V->V->Hp->VK->Prop
def OpR(X:Cx)(f:aa->aa->kZ aa)(r:R2):Prop :=
 ∀(pins:k7z) (s:ah) (σ:St) (H:Hp) (x y:V) (v u:aa) (Q:VK),Inv X pins σ H s->RelV x v->RelV y u->r x y H Q ->
  ax (ay X.prog X.w) X.A (f v u) (EP X pins σ Q) X.xe s
def UnR(X:Cx)(f:aa->kZ aa)(r:V->Hp->VK->Prop):Prop :=
 ∀(pins:k7z) (s:ah) (σ:St) (H:Hp) (x:V) (v:aa) (Q:VK),Inv X pins σ H s->RelV x v->r x H Q ->
  ax (ay X.prog X.w) X.A (f v) (EP X pins σ Q) X.xe s
def vm(X:Cx)(f:aa)(r:List V->Hp->VK->Prop):Prop :=
 ∀(pins:k7z) (s:ah) (σ:St) (H:Hp) (xs:List V) (us:List aa) (Q:VK),Inv X pins σ H s->Vals xs us->r xs H Q ->
  ax (ay X.prog X.w) X.A (call f us) (EP X pins σ Q) X.xe s
def tOp(r:R2)(ta tb:TE):TE:=λσ H Q=>ta σ H λx H1=>tb σ H1 λy H2=>r x y H2 Q
def tUn(r:V->Hp->VK->Prop)(ta:TE):TE:=λσ H Q=>ta σ H λx H1=>r x H1 Q
def rI(C:Int->Int->Prop)(g:Int->Int->V):R2:=λx y H Q=>∃i j,x=.int i/\y=.int j/\C i j/\Q (g i j) H
def rI0(g:Int->Int->V):R2:=λx y H Q=>∃i j,x=.int i/\y=.int j/\Q (g i j) H
def rU(g:Int->V):V->Hp->VK->Prop:=λx H Q=>∃i,x=.int i/\Q (g i) H
section
variable{X:Cx}{a b c:ai}{ta tb tc:TE}{pos:aK}
theorem j97(ha:PE X a ta)(hb:PE X b tb){pins:k7z}{s:ah}{σ:St}{H:Hp}{R:V->V->Hp->Prop}(I:Inv X pins σ H s)
  (h:ta σ H λx H1=>tb σ H1 λy H2=>R x y H2) {Q:k7y} {f:aa->aa->kZ aa}
  (hf:∀v u s2 x y H2,Inv X pins σ H2 s2->RelV x v->RelV y u->R x y H2->ax (ay X.prog X.w) X.A (f v u) Q X.xe s2) :
  ax (ay X.prog X.w) X.A (az a X.env) (λv s₁=>ax (ay X.prog X.w) X.A (az b X.env) (λu s₂=>ax (ay X.prog X.w) X.A (f v u) Q X.xe s₂) X.xe s₁) X.xe s:=by
 refine thn (ha pins s σ H _ I h) λv s1 ⟨x,H1,I1,r1,q1⟩=>?_;refine thn (hb pins s1 σ H1 _ I1 q1) λu s2 ⟨y,H2,I2,r2,q2⟩=>?_;exact hf v u s2 x y H2 I2 r1 r2 q2
theorem Y9{op:iX}{r:R2}(ho:OpR X (b7 op) r)(ha:PE X a ta)(hb:PE X b tb):PE X (.BinOp a op b pos) (tOp r ta tb):=by intro pins s σ H Q I h;exact wpAny_BinOp (j97 ha hb I h λv u s2 x y H2 I2 rx ry q=>ho pins s2 σ H2 x y v u Q I2 rx ry q)
theorem jin{op:UnaryOp}{r:V->Hp->VK->Prop}(ho:UnR X (unaryOp op) r)(ha:PE X a ta):PE X (.UnaryOp op a pos) (tUn r ta):=by intro pins s σ H Q I h;exact UnaryOp_ (thn (ha pins s σ H _ I h) λv s1 ⟨x,H1,I1,r1,q1⟩=>ho pins s1 σ H1 x v Q I1 r1 q1)
theorem opI{f:aa->aa->kZ aa}{C:Int->Int->Prop}{g:Int->Int->Int}
  (ky:∀(i j:Int)(t u:jL)(s:ah)(Q:k7y)(E:k7y),C i j->Q (.int (g i j) s.toks) { s with toks:=s.toks+1 }->ax (ay X.prog X.w) X.A (f (.int i t) (.int j u)) Q E s) :
  OpR X f (rI C λi j=>.int (g i j)):=by
 intro pins s σ H x y v u Q I rx ry h;obtain⟨i,j,rfl,rfl,hc,q⟩:=h;obtain⟨t,rfl⟩:=rx;obtain⟨t',rfl⟩:=ry;exact ky i j t t' s _ _ hc ⟨.int (g i j),H,I.tok _,⟨_,rfl⟩,q⟩
theorem j2o{f:aa->aa->kZ aa}{g:Int->Int->Int}
  (ky:∀(i j:Int)(t u:jL)(s:ah)(Q:k7y)(E:k7y),Q (.int (g i j) s.toks) { s with toks:=s.toks+1 }->ax (ay X.prog X.w) X.A (f (.int i t) (.int j u)) Q E s) :
  OpR X f (rI0 λi j=>.int (g i j)):=by
 intro pins s σ H x y v u Q I rx ry h;obtain⟨i,j,rfl,rfl,q⟩:=h;obtain⟨t,rfl⟩:=rx;obtain⟨t',rfl⟩:=ry;exact ky i j t t' s _ _ ⟨.int (g i j),H,I.tok _,⟨_,rfl⟩,q⟩
theorem j2p{f:aa->aa->kZ aa}{g:Int->Int->Bool}
  (ky:∀(i j:Int)(t u:jL)(s:ah)(Q:k7y)(E:k7y),Q (.bool (g i j)) s->ax (ay X.prog X.w) X.A (f (.int i t) (.int j u)) Q E s) :
  OpR X f (rI0 λi j=>.bl (g i j)):=by
 intro pins s σ H x y v u Q I rx ry h;obtain⟨i,j,rfl,rfl,q⟩:=h;obtain⟨t,rfl⟩:=rx;obtain⟨t',rfl⟩:=ry;exact ky i j t t' s _ _ ⟨.bl (g i j),H,I,rfl,q⟩
def j3l(i j:Int):Prop:=0<=j/\j<=1000000/\i.natAbs<2^64
def j3m(i j:Int):Prop:=(-(2^64)<i/\i<2^64)\/(-(2^64)<j/\j<2^64)
theorem j3m.ok{i j:Int}(h:j3m i j):IntMulOk i j:=by
 rcases h with ⟨h1,h2⟩|⟨h1,h2⟩
 .exact .of_left (lL h1 h2)
 .exact .of_right (lL h1 h2)
theorem j28(k:Nat):(0:Int)<=2^k:=by rw[two_pow_cast];exact iJ _
theorem jf9:OpR X (b7 .Add) (rI0 λi j=>.int (i+j)):=j2o λ_ _ _ _ _ _ _ q=>add_int q
theorem jf1:OpR X (b7 .Sub) (rI0 λi j=>.int (i-j)):=j2o λ_ _ _ _ _ _ _ q=>sub_int q
theorem jf6:OpR X (b7 .Mult) (rI j3m λi j=>.int (i*j)):=opI λ_ _ _ _ _ _ _ hc q=>mul_int q hc.ok
theorem jf7:OpR X (b7 .Mod) (rI (λ_ j=>0<j) λi j=>.int (i%j)):=opI λi j _ _ _ _ _ hc q=>by have h1:(0:Int)<j:=hc;exact mod_int' nofun (by rw[Int.fmod_eq_emod_of_nonneg i nofun];exact q)
theorem jf5:OpR X (b7 .Pow) (rI j3l λi j=>.int (i^j.toNat)):=opI λ_ _ _ _ _ _ _ hc q=>pow_int_small hc.1 hc.2.1 hc.2.2 q
theorem jf3:OpR X (b7 .LShift) (rI j3l λi j=>.int (i*2^j.toNat)):=opI λ_ _ _ _ _ _ _ hc q=>lshift_int_small hc.1 hc.2.1 hc.2.2 q
theorem jf2:OpR X (b7 .RShift) (rI (λ_ j=>0<=j) λi j=>.int (i/2^j.toNat)):=opI λi j _ _ _ _ _ hc q =>rshift_int hc (by rw[fX i (j28 _)];exact q)
theorem jf8:OpR X (b7 .BitAnd) (rI0 λi j=>.int (cH i j)):=j2o λ_ _ _ _ _ _ _ q=>and_int q
theorem jf0:OpR X (b7 .BitXor) (rI0 λi j=>.int (aY i j)):=j2o λ_ _ _ _ _ _ _ q=>xor_int q
theorem unI{f:aa->kZ aa}{g:Int->Int}
  (ky:∀(i:Int)(t:jL)(s:ah)(Q:k7y)(E:k7y),Q (.int (g i) s.toks) { s with toks:=s.toks+1 }->ax (ay X.prog X.w) X.A (f (.int i t)) Q E s) :
  UnR X f (rU λi=>.int (g i)):=by
 intro pins s σ H x v Q I rx h;obtain⟨i,rfl,q⟩:=h;obtain⟨t,rfl⟩:=rx;exact ky i t s _ _ ⟨.int (g i),H,I.tok _,⟨_,rfl⟩,q⟩
theorem jdk:UnR X (unaryOp .USub) (rU λi=>.int (-i)):=unI λ_ _ _ _ _ q=>neg_int q
end
noncomputable def Nh:V->V->Bool
 |.non,.non=>a6|.non,.int _=>a6|.int _,.non=>a6|.non,.bl _=>a6|.bl _,.non=>a6|.non,.str _=>a6|.str _,.non=>a6
 |.int _,.int _=>a6|.bl _,.bl _=>a6|.str _,.str _=>a6|.byt _,.byt _=>a6
 |.int _,.str _=>a6|.str _,.int _=>a6|.bl _,.str _=>a6|.str _,.bl _=>a6
 |_,_=>a5
def rEq:R2:=λx y H Q=>Nh x y=a6/\Q (.bl (decide (x=y))) H
def rNe:R2:=λx y H Q=>Nh x y=a6/\Q (.bl (!decide (x=y))) H
theorem j20{i j:Int}:decide (V.int i=V.int j)=(i==j):=by rw[bX];simp
theorem j5k{i j:Bool}:decide (V.bl i=V.bl j)=(i==j):=by rw[bX];simp
theorem j1z{i j:af}:decide (V.str i=V.str j)=(i==j):=by rw[bX];simp
theorem j21{i j:Array UInt8}:decide (V.byt i=V.byt j)=(i.toList==j.toList):=by rw[bX];cases i;cases j;simp
section
variable{X:Cx}{a b c:ai}{ta tb tc:TE}{pos:aK}
theorem jw{pins:k7z}{σ:St}{H:Hp}{s:ah}{Q:VK}{k k':Bool}(I:Inv X pins σ H s)(q:Q (.bl k) H)(e:k=k'):EP X pins σ Q (.bool k') s:=by subst e;exact⟨.bl k,H,I,rfl,q⟩
theorem j9x:OpR X (aX .Eq) rEq:=by
 intro pins s σ H x y v u Q I rx ry h;obtain⟨hs,q⟩:=h;cases x with
 |non =>
  cases rx;cases y with
  |non=>cases ry;exact kS (jw I q (by simp))
  |bl j=>cases ry;exact kU (jw I q (by simp))
  |int j=>obtain⟨t',rfl⟩:=ry;exact kT (jw I q (by simp))
  |str j=>obtain⟨t',rfl⟩:=ry;exact kR (jw I q (by simp))
  |_=>exact absurd (show a5=a6 from hs) xm
 |bl i =>
  cases rx;cases y with
  |non=>cases ry;exact kX (jw I q (by simp))
  |bl j=>cases ry;exact eq_bool (jw I q j5k)
  |str j=>obtain⟨t',rfl⟩:=ry;exact kn (jw I q (by simp))
  |_=>exact absurd (show a5=a6 from hs) xm
 |int i =>
  obtain⟨t,rfl⟩:=rx;cases y with
  |non=>cases ry;exact kW (jw I q (by simp))
  |int j=>obtain⟨t',rfl⟩:=ry;exact eq_int (jw I q j20)
  |str j=>obtain⟨t',rfl⟩:=ry;exact ki (jw I q (by simp))
  |_=>exact absurd (show a5=a6 from hs) xm
 |str i =>
  obtain⟨t,rfl⟩:=rx;cases y with
  |non=>cases ry;exact kQ (jw I q (by simp))
  |bl j=>cases ry;exact kg (jw I q (by simp))
  |int j=>obtain⟨t',rfl⟩:=ry;exact ke (jw I q (by simp))
  |str j=>obtain⟨t',rfl⟩:=ry;exact eq_str (jw I q j1z)
  |_=>exact absurd (show a5=a6 from hs) xm
 |byt i =>
  obtain⟨t,rfl⟩:=rx;cases y with
  |byt j=>obtain⟨t',rfl⟩:=ry;exact W.eq_bytes (jw I q j21)
  |_=>exact absurd (show a5=a6 from hs) xm
 |_=>cases y<;>exact absurd (show a5=a6 from hs) xm
theorem j9t:OpR X (aX .NotEq) rNe:=by
 intro pins s σ H x y v u Q I rx ry h;obtain⟨hs,q⟩:=h;cases x with
 |non =>
  cases rx;cases y with
  |non=>cases ry;exact kL (jw I q (by simp))
  |bl j=>cases ry;exact kN (jw I q (by simp))
  |int j=>obtain⟨t',rfl⟩:=ry;exact kM (jw I q (by simp))
  |str j=>obtain⟨t',rfl⟩:=ry;exact kK (jw I q (by simp))
  |_=>exact absurd (show a5=a6 from hs) xm
 |bl i =>
  cases rx;cases y with
  |non=>cases ry;exact kP (jw I q (by simp))
  |bl j=>cases ry;exact ne_bool (jw I q (congrArg not j5k))
  |str j=>obtain⟨t',rfl⟩:=ry;exact ka (jw I q (by simp))
  |_=>exact absurd (show a5=a6 from hs) xm
 |int i =>
  obtain⟨t,rfl⟩:=rx;cases y with
  |non=>cases ry;exact kO (jw I q (by simp))
  |int j=>obtain⟨t',rfl⟩:=ry;exact ne_int (jw I q (congrArg not j20))
  |str j=>obtain⟨t',rfl⟩:=ry;exact k9 (jw I q (by simp))
  |_=>exact absurd (show a5=a6 from hs) xm
 |str i =>
  obtain⟨t,rfl⟩:=rx;cases y with
  |non=>cases ry;exact kJ (jw I q (by simp))
  |bl j=>cases ry;exact k8 (jw I q (by simp))
  |int j=>obtain⟨t',rfl⟩:=ry;exact k7 (jw I q (by simp))
  |str j=>obtain⟨t',rfl⟩:=ry;exact ne_str (jw I q (congrArg not j1z))
  |_=>exact absurd (show a5=a6 from hs) xm
 |byt i =>
  obtain⟨t,rfl⟩:=rx;cases y with
  |byt j=>obtain⟨t',rfl⟩:=ry;exact W.ne_bytes (jw I q (congrArg not j21))
  |_=>exact absurd (show a5=a6 from hs) xm
 |_=>cases y<;>exact absurd (show a5=a6 from hs) xm
theorem Ly:OpR X (aX .Lt) (rI0 λi j=>.bl (decide (i<j))):=j2p λ_ _ _ _ _ _ _ q=>lt_int q
theorem j9u:OpR X (aX .LtE) (rI0 λi j=>.bl (decide (i<=j))):=j2p λ_ _ _ _ _ _ _ q=>le_int q
theorem j9v:OpR X (aX .Gt) (rI0 λi j=>.bl (decide (j<i))):=j2p λ_ _ _ _ _ _ _ q=>gt_int q
theorem j9w:OpR X (aX .GtE) (rI0 λi j=>.bl (decide (j<=i))):=j2p λ_ _ _ _ _ _ _ q=>ge_int q
theorem Dh:OpR X (aX .Lt) (λx y H Q=>∃i j,x=.str i/\y=.str j/\Q (.bl (decide (i.cps.toList<j.cps.toList))) H):=by intro pins s σ H x y v u Q I rx ry h;obtain⟨i,j,rfl,rfl,q⟩:=h;obtain⟨t,rfl⟩:=rx;obtain⟨t',rfl⟩:=ry;exact lt_str (jw I q rfl)
theorem Di:OpR X (aX .In) (λx y H Q=>∃i j,x=.str i/\y=.str j/\Q (.bl (!(f9 j i 0 j.length 1).isEmpty)) H):=by intro pins s σ H x y v u Q I rx ry h;obtain⟨i,j,rfl,rfl,q⟩:=h;obtain⟨t,rfl⟩:=rx;obtain⟨t',rfl⟩:=ry;exact in_str (jw I q rfl)
theorem zg(b:ai){op:fQ}(h:op≠.In:=by decide)(h2:op≠.NotIn:=by decide):aL op b=a5:=by
 have e1:(op==CmpOp.In)=a5:=by cases op<;>first|rfl|exact absurd rfl h
 have e2:(op==CmpOp.NotIn)=a5:=by cases op<;>first|rfl|exact absurd rfl h2
 cases b<;>simp[aL,e1,e2]
theorem Jr{op:fQ}{r:R2}(ho:OpR X (aX op) r)(ha:PE X a ta)(hb:PE X b tb)(hm:aL op b=a5):PE X (.Compare a [op] [b] pos) (tOp r ta tb):=by intro pins s σ H Q I h;exact lr (j97 ha hb I h λv u s2 x y H2 I2 rx ry q=>ho pins s2 σ H2 x y v u Q I2 rx ry q) hm
def j9n(t:TE):TT:=λσ H Q=>t σ H λx H'=>∃k,x=.bl k/\Q k H'
theorem Jq{op:fQ}{r:R2}(ho:OpR X (aX op) r)(ha:PE X a ta)(hb:PE X b tb)(hm:aL op b=a5):PT X (.Compare a [op] [b] pos) (j9n (tOp r ta tb)):=by
 intro pins s σ H Q I h;refine iM (thn (ha pins s σ H _ I h) λv s1 ⟨x,H1,I1,r1,q1⟩=>thn (hb pins s1 σ H1 _ I1 q1) λu s2 ⟨y,H2,I2,r2,q2⟩ =>
  thn (ho pins s2 σ H2 x y v u _ I2 r1 r2 q2) λc s3 ⟨z,H3,I3,r3,k,e,q3⟩=>?_) hm
 subst e;cases r3;exact bf ⟨H3,I3,q3⟩
def jds(r r':R2)(ta tb tc:TE):TE:=λσ H Q=>ta σ H λx H1=>tb σ H1 λy H2=>r x y H2 λz H3=>∃k,z=.bl k /\
 (if k=a6 then tc σ H3 λw' H4=>r' y w' H4 Q else Q (.bl a5) H3)
theorem j78{op op':fQ}{r r':R2}(ho:OpR X (aX op) r)(ho':OpR X (aX op') r')(ha:PE X a ta)(hb:PE X b tb)(hc:PE X c tc)
  (hm:kz [op,op'] [b,c]=a5:=by with_unfolding_all rfl):PT X (.Compare a [op,op'] [b,c] pos) (j9n (jds r r' ta tb tc)):=by
 intro pins s σ H Q I h;refine isTrue_chain (thn (ha pins s σ H _ I h) λv s1 ⟨x,H1,I1,r1,q1⟩=>test_link (thn (hb pins s1 σ H1 _ I1 q1) λu s2 ⟨y,H2,I2,r2,q2⟩ =>
  thn (ho pins s2 σ H2 x y v u _ I2 r1 r2 q2) λd s3 ⟨z,H3,I3,r3,k,e,q3⟩=>?_)) hm
 subst e;cases r3;refine bf ?_;cases k with
 |false =>obtain⟨k',e',q'⟩:=q3;cases e';exact ite_ff ⟨H3,I3,q'⟩
 |true =>refine ite_tt (test_last (thn (hc pins s3 σ H3 _ I3 q3) λw' s4 ⟨z',H4,I4,r4,q4⟩=>thn (ho' pins s4 σ H4 y z' u w' _ I4 r2 r4 q4) λd' s5 ⟨z2,H5,I5,r5,k2,e2,q5⟩=>?_));subst e2;cases r5;exact bf ⟨H5,I5,q5⟩
theorem Vo:(ak:Nat)<2^63:=by rw[br];decide
theorem j2n:OpR X (b7 .Add) (λx y H Q=>∃i j,x=.str i/\y=.str j/\i.length+j.length<=ak/\Q (.str (i++j)) H):=by intro pins s σ H x y v u Q I rx ry h;obtain⟨i,j,rfl,rfl,hz,q⟩:=h;obtain⟨t,rfl⟩:=rx;obtain⟨t',rfl⟩:=ry;exact add_str (λt' tk=>⟨.str (i++j),H,I.tok _,⟨_,rfl⟩,q⟩) hz
theorem vals1{x:V}{us:List aa}(r:Vals [x] us):∃u,us=[u]/\RelV x u:=by
 cases r with
 |cons r1 r2=>cases r2;exact⟨_,rfl,r1⟩
theorem vals2{x y:V}{us:List aa}(r:Vals [x,y] us):∃u w',us=[u,w']/\RelV x u/\RelV y w':=by
 cases r with
 |cons r1 r2 =>
  cases r2 with
  |cons r3 r4=>cases r4;exact⟨_,_,rfl,r1,r3⟩
theorem j60 (hc:X.calm=a6):vm X (.builtin "max") (λxs H Q=>∃i j,xs=[.int i,.int j]/\Q (.int (if j>i then j else i)) H):=by
 intro pins s σ H xs us Q I r h;obtain⟨i,j,rfl,q⟩:=h;obtain⟨u,w',rfl,⟨t,rfl⟩,⟨t',rfl⟩⟩:=vals2 r;refine max_two_ints (I.ok.hd hc) λh' tk k=>⟨_,H,I.kept k,?_,q⟩
 by_cases hj:j>i
 .rw[if_pos hj,if_pos hj];exact⟨_,rfl⟩
 .rw[if_neg hj,if_neg hj];exact⟨_,rfl⟩
theorem j5y (hc:X.calm=a6):vm X (.builtin "min") (λxs H Q=>∃i j,xs=[.int i,.int j]/\Q (.int (if j<i then j else i)) H):=by
 intro pins s σ H xs us Q I r h;obtain⟨i,j,rfl,q⟩:=h;obtain⟨u,w',rfl,⟨t,rfl⟩,⟨t',rfl⟩⟩:=vals2 r;refine min_two_ints (I.ok.hd hc) λh' tk k=>⟨_,H,I.kept k,?_,q⟩
 by_cases hj:j<i
 .rw[if_pos hj,if_pos hj];exact⟨_,rfl⟩
 .rw[if_neg hj,if_neg hj];exact⟨_,rfl⟩
theorem j64:vm X (.type "int") (λxs H Q=>(∃i,xs=[.int i]/\Q (.int i) H)\/∃k,xs=[.bl k]/\Q (.int (if k then 1 else 0)) H):=by
 intro pins s σ H xs us Q I r h;rcases h with ⟨i,rfl,q⟩|⟨k,rfl,q⟩
 .obtain⟨u,rfl,t,rfl⟩:=vals1 r;exact call_int_int ⟨.int i,H,I,⟨_,rfl⟩,q⟩
 .obtain⟨u,rfl,r1⟩:=vals1 r;cases r1;exact call_int_bool ⟨.int (if k then 1 else 0),H,I.tok _,⟨_,rfl⟩,q⟩
end
structure ObjM(h:aE)(x dx C:ae)(mA:k80):Prop where
 obj:h.get? x=a4 (W.instObj C dx)
 ns:h.Ns1 dx mA
 ne:dx≠x
section
variable{prog:ar}{w:aA}{A:aD}{E:k7y}{s:ah}{K:k7x}{x dx C f:ae}{mA:k80}{name:af}{v:aa}
end
structure Cls(K:k7x)(C:ae):Prop where
 pg:W.plainGet K C cP=a6
 hd:W.hasDictIn K C=a6
 po:W.plainOver K C=a6
 sa:W.findIn K (.ref C) "__setattr__" = a4 (a4 (.builtin "object.__setattr__"))
def Wu(K:k7x)(C:ae)(f:af):Prop:=W.findIn K (.ref C) f=a4 a7
structure Meth(K:k7x)(C:ae)(m:af)(f:ae):Prop where
 at_:W.findIn K (.ref C) m=a4 (a4 (.ref f))
 fn:W.isFn K (.ref f)=a6
 kp:W.keepIn K (.ref f)=a6
structure Room(k:Nat)(A:aD):Prop where
 hd:A.handled=a7
 dp:A.depth+3*k+5<bD
 un:A.units+16*k+200<aU
 gd:A.guards=a4 []
theorem Room.mono{j k:Nat}{A:aD}(r:Room k A)(h:j<=k):Room j A:=⟨r.hd,by have:=r.dp;omega,by have:=r.un;omega,r.gd⟩
theorem Room.deeper{k:Nat}{A:aD}(r:Room (k+1) A)(env:cu):Room k (A.deeper env) :=
 ⟨r.hd,by have:=r.dp;show A.depth+1+3*k+5<_;omega,by have:=r.un;show A.units+3+16*k+200<_;omega,r.gd⟩
theorem Room.depth{k:Nat}{A:aD}(r:Room k A):A.depth<bD:=by have:=r.dp;omega
def jkk:TA:=λ_ H Q=>Q [] H
def ji7(ta:TE)(tr:TA):TA:=λσ H Q=>ta σ H λx H1=>tr σ H1 λxs H2=>Q (x::xs) H2
section
variable{X:Cx}{e:ai}{es:List ai}{te:TE}{t:TA}{pos:aK}
theorem jl:PA X [] jkk:=λ_ _ _ _ H Q I h=>Calls.spliced_nil ⟨[],H,I,.nil,h⟩
theorem j9(ha:PE X e te)(hr:PA X es t)(hs:a8 (e::es) X.env=(a5,az e X.env)::a8 es X.env:=by rfl):PA X (e::es) (ji7 te t):=by intro pos pins s σ H Q I h;rw[hs];show ax _ _ (spliced ((a5,az e X.env)::aO pos (a8 es X.env))) _ _ s;refine Calls.spliced_cons (thn (ha pins s σ H _ I h) λu s1 ⟨x,H1,I1,r1,q1⟩=>?_);exact thn (hr pos pins s1 σ H1 _ I1 q1) λus s2 ⟨xs,H2,I2,r2,q2⟩=>⟨x::xs,H2,I2,.cons r1 r2,q2⟩
def jkg(t:TA):TE:=λσ H Q=>t σ H λxs H1=>xs.length<=ak/\∀p,H1 p=a7->Q (.ref p) (upd H1 p (.tup xs))
def jkl(t:TA):TE:=λσ H Q=>t σ H λxs H1=>xs.length<=ak/\∀p,H1 p=a7->Q (.ref p) (upd H1 p (.lst xs))
theorem Ii{x1}(h:PA X es t):PE X (.Tuple es x1 pos) (jkg t):=by intro pins s σ H Q I hq;refine wpAny_Tuple_spliced (thn (h pos pins s σ H _ I hq) λus s1 ⟨xs,H1,I1,r,z,q⟩=>⟨by rw[<-r.length];exact z,?_⟩);have hf:H1 s1.heap.objs.size=a7:=I1.hok.fresh (X7 _);refine⟨.ref s1.heap.objs.size,upd H1 s1.heap.objs.size (.tup xs),I1.laid (t':=s1.toks) (λb u e=>X8 _ e) (X7 _) ?_,rfl,q _ hf⟩;exact⟨z,us,r,⟨_,Xi _ rfl,rfl,_,rfl⟩,Zq.new _ _⟩
theorem j4j(h:PA X es t):PE X (.List es pos) (jkl t):=by intro pins s σ H Q I hq;refine wpAny_List_spliced (thn (h pos pins s σ H _ I hq) λus s1 ⟨xs,H1,I1,r,z,q⟩=>⟨by rw[<-r.length];exact z,?_⟩);have hf:H1 s1.heap.objs.size=a7:=I1.hok.fresh (X7 _);refine⟨.ref s1.heap.objs.size,upd H1 s1.heap.objs.size (.lst xs),I1.laid (t':=s1.toks) (λb u e=>X8 _ e) (X7 _) ?_,rfl,q _ hf⟩;exact⟨z,us,0,r,Xi _ rfl⟩
end
abbrev Sp:=List V->Hp->VK->XK->Prop
abbrev CXT:=List cu->Hp->ah->XK->aa->ah->Prop
structure Env0(P:ar)(w:aA)(K:k7x)(mg:k80)(base:aE)(A:aD)(outer:List cu)(s:ah)(H:Hp):Prop where
 frames:A.frames=a4 outer
 mod:Mod K mg base
 bs:∀b o,base.get? b=a4 o->s.heap.get? b=a4 o/\H b=a7
 bsz:base.objs.size<=s.heap.objs.size
 funs:s.heap.FunFrames base outer
 frf:∀b∈frs outer,H b=a7
 hok:HOk P w H s.heap
 bare:dw s.gens
def CE(outer:List cu)(P:ar)(w:aA)(H:Hp)(s:ah)(Q:VK)(u:aa)(s':ah):Prop :=
 ∃v H',s'.os=s.os/\dw s'.gens/\Un (frs outer) [] H H' s.heap s'.heap/\HOk P w H' s'.heap/\RelV v u/\Q v H'
def CR(CX:CXT)(outer:List cu)(P:ar)(w:aA)(H:Hp)(s:ah)(Q:VK)(E:XK)(r:eO)(s':ah):Prop :=
 match r with
 |.ok (.ret u)=>CE outer P w H s Q u s'
 |.ok _=>False
 |.error e=>CX outer H s E e s'
structure FnOk(P:ar)(w:aA)(K:k7x)(mg:k80)(base:aE)(CX:CXT)(k:Nat)(f:ae)(fd:aG)(ps:List af)(sp:Sp):Prop where
 len:∀vs H Q E,sp vs H Q E->vs.length=ps.length
 run:∀(A:aD)(outer:List cu)(s:ah)(H:Hp)(args:Args)(us:List aa)(vs:List V) (Q:VK) (E:XK),Room k A->Env0 P w K mg base A outer s H->fR s fd args (ps.zip us)->Vals vs us->sp vs H Q E ->
  c9 (ay P w) A (.call (.ref f) args) (CR CX outer P w H s Q E) s
theorem FnOk.imp{P:ar}{w:aA}{K:k7x}{mg:k80}{base:aE}{CX:CXT}{k:Nat}{f:ae}{fd:aG}{ps:List af}{sp sp':Sp}(F:FnOk P w K mg base CX k f fd ps sp)
  (h:∀vs H Q E,sp' vs H Q E->sp vs H Q E):FnOk P w K mg base CX k f fd ps sp' :=
 ⟨λvs H Q E q=>F.len vs H Q E (h _ _ _ _ q),λA outer s H args us vs Q E hr he hb hv hs=>F.run A outer s H args us vs Q E hr he hb hv (h _ _ _ _ hs)⟩
section
variable{X:Cx}{pins:k7z}{σ:St}{H:Hp}{s s':ah}
theorem Inv.env0(I:Inv X pins σ H s):Env0 X.prog X.w X.K X.mg X.base X.A X.stack s H :=
 ⟨I.ok.frames,I.ok.mod,I.bs,Xf I.ok.bsz I.sz,I.stack,I.stkFree,I.hok,I.bare⟩
theorem Inv.after{Q:VK}{u:aa}(I:Inv X pins σ H s)(h:CE X.stack X.prog X.w H s Q u s'):EP X pins σ Q u s':=by obtain⟨v,H',os,bare,un,hok,r,q⟩:=h;obtain⟨hh,g,d,t,os'⟩:=s';obtain rfl:os'=s.os:=os;exact⟨v,H',I.call (h':=hh) (g':=g) (d':=d) (t':=t) (ch:=[]) un hok bare (λb z=>absurd z (by simp)),r,q⟩
end
def ji8(sp:Sp)(dvs:List V)(E:XK)(t:TA):TE:=λσ H Q=>t σ H λvs H1=>sp (vs++dvs) H1 Q E
def Binds(K:k7x)(fd:aG)(ps:List af)(ds:List aa):Prop :=
 ∀(s:ah)(us:List aa),K.In s.heap->(us++ds).length=ps.length->fR s fd ⟨us,[]⟩ (ps.zip (us++ds))
theorem Binds.all{K:k7x}{fd:aG}{ps:List af}(h:∀us:List aa,us.length=ps.length->bZ fd ⟨us,[]⟩=pure (ps.zip us)):Binds K fd ps []:=λs us _ hl=>by rw[Xx]at hl ⊢;exact .of_eq (h us hl)
def j0d(CX:CXT)(X:Cx)(E:XK):Prop:=∀(pins:k7z) (σ:St) (H:Hp) (s:ah) (e:aa) (s':ah),Inv X pins σ H s->CX X.stack H s E e s'->X.xe e s'
section
variable{X:Cx}{CX:CXT}{k:Nat}{f C:ae}{fd:aG}{ps:List af}{sp:Sp}{dvs:List V}{ds:List aa}{E:XK}{x m:af}{p pos apos:aK}{e o:ai}{es:List ai}{ta:TE}{t:TA}
theorem je9{pins:k7z}{σ:St}{H:Hp}{s:ah}{Q:VK}{us:List aa}{vs:List V}(F:FnOk X.prog X.w X.K X.mg X.base CX k f fd ps sp)(hr:Room k X.A)(hb:Binds X.K fd ps ds)(hd:Vals dvs ds)(hx:j0d CX X E)
  (I:Inv X pins σ H s) (r:Vals vs us) (h:sp (vs++dvs) H Q E):ax (ay X.prog X.w) X.A (call (.ref f) us) (EP X pins σ Q) X.xe s:=by
 have r2:Vals (vs++dvs) (us++ds):=r.append hd;have hl:(us++ds).length=ps.length:=by rw[<-r2.length];exact F.len _ _ _ _ h
 refine jG (bU (F.run X.A X.stack s H ⟨us,[]⟩ (us++ds) (vs++dvs) Q E hr I.env0 (hb s us I.kIn hl) r2 h) λr s' hq=>?_);cases r with
 |error e=>exact hx pins σ H s e s' I hq
 |ok fl =>
  cases fl with
  |ret u=>exact I.after hq
  |next=>exact aS hq
  |brk=>exact aS hq
  |cont=>exact aS hq
theorem Yw(F:FnOk X.prog X.w X.K X.mg X.base CX k f fd ps sp)(hr:Room k X.A)(hg:Gl X x)(hm:X.mg x=a4 (.ref f))(hk:W.keepIn X.K (.ref f)=a6)(hb:Binds X.K fd ps ds)(hd:Vals dvs ds)(hx:j0d CX X E)
  (ha:PA X (e::es) t) (hdb:(x==k81)=a5:=by decide) (he:a8 (e::es) X.env=(a5,az e X.env)::a8 es X.env:=by rfl) (hpl:(aO pos (a8 es X.env)).any (·.1)=a5:=by rfl) :
  PE X (.Call (.Name x p) (e::es) [] pos) (ji8 sp dvs E t):=by
 intro pins s σ H Q I h;refine bh (Zf I hg hm ?_ hdb);refine W.callWith_K (h₀:=X.base) I.ok.mod.kin hk (thn (ha pos pins s σ H _ I h) λus s1 ⟨vs,H1,I1,r,q⟩=>⟨I1.kIn,?_⟩) he hpl;exact je9 F hr hb hd hx I1 r q
structure Mk(K:k7x)(C f:ae):Prop where
 makes:W.makesIn K C=a6
 init:W.findIn K (.ref C) "__init__" = a4 (a4 (.ref f))
 fn:W.isFn K (.ref f)=a6
 kp:W.keepIn K (.ref C)=a6
end
section
variable{X:Cx}{CX:CXT}{k:Nat}{f C:ae}{fd:aG}{ps ks:List af}{sp:Sp}{E:XK}{x m:af}{p pos apos kpos:aK}{e o:ai}{es:List ai}{kws:List aR}{te ta:TE}{t tk:TA}{nm:Option af}
structure KBinds(K:k7x)(fd:aG)(ps ks:List af)(g:List aa->List aa->List aa)(gV:List V->List V->List V):Prop where
 to:∀(s:ah)(us ws:List aa),K.In s.heap->(g us ws).length=ps.length->fR s fd ⟨us,ks.zip ws⟩ (ps.zip (g us ws))
 rel:∀{vs:List V}{us:List aa}{zs:List V}{ws:List aa},Vals vs us->Vals zs ws->Vals (gV vs zs) (g us ws)
variable{g:List aa->List aa->List aa}{gV:List V->List V->List V}
end
structure FnScope(N P:List af)(sc:b8):Prop where
 kind:sc.kind=.function
 co:sc.isCoroutine=a5
 gen:sc.isGenerator=a5
 nd:N.Nodup
 pre:N.take P.length=P
 par:∀x∈P,sc.names.lookup x=a4 .local\/sc.names.lookup x=a4 .cell
 nofree:∀y∈sc.names,y.2≠.free
theorem Cp{kindOf:af->Option bq}{x:af}:∀{binds:List (af×aa)} {m:k80},(∀v,(x,v)∉binds)->ie kindOf binds m x=m x
 |[],_,_=>rfl
 |(n,v)::r,m,h=>by
  unfold ie;rw[Cp λw hw=>h w (xg _ hw)];split
  .have:x≠n:=by rintro rfl;exact h v xq
   simp[this]
  .rfl
theorem Cr{kindOf:af->Option bq}{x:af}:∀{binds:List (af×aa)} {m:k80},(∀v,(x,v)∉binds)->ig kindOf binds m x=m x
 |[],_,_=>rfl
 |(n,v)::r,m,h=>by
  unfold ig;rw[Cr λw hw=>h w (xg _ hw)];split
  .rfl
  .have:x≠n:=by rintro rfl;exact h v xq
   simp[this]
theorem Cq{kindOf:af->Option bq}{x:af}{v:aa}:∀{P:List af}{vs:List aa}{i:Nat}{m:k80},P.Nodup->P[i]?=a4 x->vs[i]?=a4 v->kindOf x=a4 .local ->
  ie kindOf (P.zip vs) m x=a4 v
 |[],_,_,_,_,h,_,_=>by simp at h
 |_::_,[],_,_,_,_,h,_=>by simp at h
 |p::P,w::vs,0,m,nd,h1,h2,hk=>by simp at h1 h2;subst h1;subst h2;show ie kindOf ((p,w)::P.zip vs) m p=_;unfold ie;rw[Cp λv hv=>(Xq.mp nd).1 (cC hv).1,if_pos hk];simp
 |p::P,w::vs,i+1,m,nd,h1,h2,hk=>by show ie kindOf ((p,w)::P.zip vs) m x=_;unfold ie;exact Cq (i:=i) (Xq.mp nd).2 (by simpa using h1) (by simpa using h2) hk
theorem Cu{kindOf:af->Option bq}{x:af}{v:aa}:∀{P:List af}{vs:List aa}{i:Nat}{m:k80},P.Nodup->P[i]?=a4 x->vs[i]?=a4 v->kindOf x≠a4 .local ->
  ig kindOf (P.zip vs) m x=a4 v
 |[],_,_,_,_,h,_,_=>by simp at h
 |_::_,[],_,_,_,_,h,_=>by simp at h
 |p::P,w::vs,0,m,nd,h1,h2,hk=>by simp at h1 h2;subst h1;subst h2;show ig kindOf ((p,w)::P.zip vs) m p=_;unfold ig;rw[Cr λv hv=>(Xq.mp nd).1 (cC hv).1,if_neg hk];simp
 |p::P,w::vs,i+1,m,nd,h1,h2,hk=>by show ig kindOf ((p,w)::P.zip vs) m x=_;unfold ig;exact Cu (i:=i) (Xq.mp nd).2 (by simpa using h1) (by simpa using h2) hk
noncomputable def start(N:List af)(vs:List V):St:=vs.map a4++ao (N.length-vs.length) a7
noncomputable def jx(CX:CXT)(P:ar)(w:aA)(K:k7x)(mg:k80)(base:aE)(N:List af)(qual:af)(scope:b8)(f:ae)(cd:aa)(A:aD)(outer:List cu)(s:ah)(H:Hp)(E:XK):Cx where
 prog:=P
 w:=w
 K:=K
 mg:=mg
 base:=base
 A:=A.deeper (ba qual scope s.heap.objs.size f cd)
 N:=N
 s₀:=s
 H₀:=H
 env:=ba qual scope s.heap.objs.size f cd
 outer:=outer
 stack:=ba qual scope s.heap.objs.size f cd::outer
 ex:=[]
 calm:=a6
 fn:=λ_=>a6
 pn:=[]
 xe:=λe s'=>ax (ay P w) (A.deeper (ba qual scope s.heap.objs.size f cd)) (leaving (ba qual scope s.heap.objs.size f cd) e) (λ_ s''=>CX outer H s E e s'') (λe' s''=>CX outer H s E e' s'') s'
theorem j06{sc:b8}{n:Nat}{x:af}(h:sc.names.lookup x=a4 .cell):∃c,(aQ n sc.names []).lookup x=a4 c:=by have q:=W.cellsFrom_some sc.names n [] (.inl h);exact Xr.mp q
theorem Dr{CX:CXT}{P:ar}{w:aA}{K:k7x}{mg:k80}{base:aE}{N ps:List af}{qual:af}{scope:b8}{f:ae}{cd:aa}{A:aD}{outer:List cu}{s s1:ah}{H:Hp}{E:XK}{us:List aa}{vs:List V}
  (S:FnScope N ps scope) (cm:Bool) (hd:cm=a6->A.handled=a7) (e0:Env0 P w K mg base A outer s H) (hl:vs.length=ps.length) (r:Vals vs us)
  (x:InCallC s s.heap.objs.size (ie (ba qual scope s.heap.objs.size f cd).kindOf (ps.zip us) λ_=>a7) (aQ (s.heap.objs.size+1) scope.names []) (ig (ba qual scope s.heap.objs.size f cd).kindOf (ps.zip us) λ_=>a7) s1) :
  Inv { jx CX P w K mg base N qual scope f cd A outer s H E with calm:=cm } [] (start N vs) H s1:=by
 have hpl:ps.length<=N.length:=by have:=congrArg hV S.pre;rw[Xm]at this;omega
 obtain⟨h1,tk,rfl,hk⟩:=x.done;have noA:∀b:ae,b∉(jx CX P w K mg base N qual scope f cd A outer s H E).ex:=λb z=>absurd (show b∈([]:List ae)from z) (by simp);refine⟨⟨e0.mod,S.kind,rfl,rfl,X7 _,λy z c h1 h2=>?_,λy hy=>?_,λy c _ h=>?_,hd,Around.frames_deeper e0.frames,.inr ⟨rfl,rfl⟩,λb z=>absurd z (noA b),e0.bs,e0.bsz,λb _ _=>noA b,λb z=>absurd z (noA b),e0.funs,e0.frf⟩,
  rfl,e0.bare,Un.kept hk,⟨_,x.toInCall.ns,λi y v h1 h2 h3=>?_⟩,λy c h=>⟨_,x.cell y c h⟩,e0.hok.fresh (X7 _),λy c h=>?_,λp hp=>absurd (show p∈([]:k7z)from hp) (by simp),e0.hok.kept hk,?_⟩
 .exact name_of_addr x.apart (Pg h1) (Pg h2)
 .have hy:scope.names.lookup y=a4 .cell\/scope.names.lookup y=a4 .free:=hy;rcases hy with hy|hy
  .exact j06 hy
  .exact absurd rfl (S.nofree _ (Pg hy))
 .exact dE (x.above y c (Pg h))
 .have hi:i<vs.length:=by
   unfold start at h2;by_cases hi:i<vs.length
   .exact hi
   .rw[cS (by simpa using hi)]at h2;rw[List.getElem?_replicate]at h2;split at h2<;>cases h2
  have ha:vs[i]?=a4 v:=by
   unfold start at h2;rw[Pz (by simpa using hi),xx]at h2;cases e:vs[i]? with
   |none=>rw[e]at h2;cases h2
   |some a=>rw[e]at h2;cases h2;rfl
  obtain⟨u,hu,rv⟩:=r.get ha;have hp:ps[i]?=a4 y:=by rw[<-S.pre,List.getElem?_take_of_lt nofun];exact h1
  have ndP:ps.Nodup:=by rw[<-S.pre];exact S.nd.sublist (List.take_sublist _ _)
  refine⟨u,rv,?_⟩;rcases S.par y (Xl hp)with k|k
  .exact .inl ⟨k,Cq ndP hp hu k⟩
  .obtain⟨c,e⟩:=j06 (n:=s.heap.objs.size+1) k;refine .inr ⟨.inl k,c,e,?_⟩;have q:=x.cell y c e;rw[Cu ndP hp hu (by show scope.names.lookup y≠_;rw[k];decide)]at q;exact q
 .exact e0.hok.fresh (dE (x.above y c (Pg h)))
 .unfold start;show _=N.length;rw[Xe,xj,dM];omega
theorem Inv.extOut{X:Cx}{pins:k7z}{σ:St}{H H2:Hp}{s:ah}(J:Inv X pins σ H s)(x:Ext X H H2 s):HOk X.prog X.w H2 s.heap/\(X.ex=[]->Un X.fs [] X.H₀ H2 X.s₀.heap s.heap):=by
 have old:∀b o,X.s₀.heap.get? b=a4 o->H2 b=H b:=λb o e=>(x b).elim id λ⟨y,ob,v,hc,hf,_⟩=>absurd (Xk (xr e) (J.ok.cab y b hf hc)) (Pj _);have trk:∀{b:ae}{u:HO},H b=a4 u->H2 b=a4 u:=λ{b u} e=>(x b).elim (λz=>z.trans e) λ⟨y,ob,v,hc,_⟩=>by rw[J.freeC y b hc]at e;cases e
 refine⟨λa o e=>?_,λhx=>?_⟩
 .rcases x a with z|⟨y,ob,v,_,_,e2,e3,_⟩
  .exact(J.hok a o (z▸e)).stay (λ_ _ _ q=>q) (λ_ q=>trk q) (λ_ _ q=>trk q) λ_ _ _ q=>trk q
  .rw[e2]at e;cases e;exact⟨e3,ob,e3⟩
 .have nx:∀b,b∉X.ex:=λb=>by rw[hx];simp
  exact⟨λb o e n hb _=>J.base.keep b o e n hb (nx b),λb o e n hb _=>J.base.slot b o e n hb (nx b),λb o e n _=>(old b o e).trans (J.base.free b o e n (nx b)),λb o e _=>J.base.there b o e (nx b),
   λb xs e=>trk (J.base.tups b xs e),λb o u e=>trk (J.base.frzs b o u e),λb ps e=>let ⟨m,z⟩:=J.base.tbls b ps e;⟨m,trk z⟩⟩
theorem j31{CX:CXT}{P:ar}{w:aA}{K:k7x}{mg:k80}{base:aE}{k:Nat}{f:ae}{name qual:af}{params:ij}{body:List aJ}{scope:b8}{dV kV doc pm cdv ct oc:aa}{an od:Option ae}
  {osl:Array (Option aa)} {N ps:List af} {sp:Sp} (lk:K.lookup f=a4 ⟨oc,od,.func (W.fnOf name qual params body scope dV kV doc pm an cdv ct),osl⟩) (hcd:W.codeIn K cdv qual=a6) (S:FnScope N ps scope)
  (len:∀vs H Q E,sp vs H Q E->vs.length=ps.length)
  (hbody:∀(A:aD)(outer:List cu)(s:ah)(H:Hp)(vs:List V)(Q:VK)(E:XK),Room k (A.deeper (ba qual scope s.heap.objs.size f cdv))->sp vs H Q E ->
   ∃t,PSs (jx CX P w K mg base N qual scope f cdv A outer s H E) body t/\t { nx:=λ_ H'=>Q .non H',rt:=Q } (start N vs) H) :
  FnOk P w K mg base CX (k+1) f (W.fnOf name qual params body scope dV kV doc pm an cdv ct) ps sp:=by
 refine⟨len,λA outer s H args us vs Q E hr e0 hb r hsp=>?_⟩;have hl:=len _ _ _ _ hsp;have KX:K.In s.heap:=e0.mod.kin.keeps λb o e=>(e0.bs b o e).1;have lim:s.heap.NoLimit:=e0.mod.nolimit.keeps λb o e=>(e0.bs b o e).1;have hkind:∀y∈ps.zip us,scope.names.lookup y.1=a4 .local\/(scope.names.lookup y.1=a4 .cell/\((aQ (s.heap.objs.size+1) scope.names []).lookup y.1).isSome=a6):=λ⟨n,v⟩ hy=>by
  rcases S.par n (cC hy).1 with q|q
  .exact .inl q
  .exact .inr ⟨q,W.cellsFrom_some _ _ _ (.inl q)⟩
 refine iN hr.depth (KX _ _ lk) rfl S.co S.gen rfl (W.codeRec_of KX hcd) (hb _ _ _ _ ?_);refine gO S.kind hkind λenv he s1 x=>?_;subst he;refine⟨lim.keeps x.toInCall.keep,codeAny_func ?_⟩;obtain⟨t,ht,hq⟩:=hbody A outer s H vs Q E (hr.deeper _) hsp;have I:Inv (jx CX P w K mg base N qual scope f cdv A outer s H E) [] (start N vs) H s1:=Dr S a6 (λ_=>hr.hd) e0 hl r x;refine aZ (ht [] s1 (start N vs) H _ I hq) (λfl s' hs=>?_) λe s' hs=>hs;have fin:∀{σ':St}{H':Hp}{v:V}{u:aa},Inv (jx CX P w K mg base N qual scope f cdv A outer s H E) [] σ' H' s'->RelV v u->Q v H'->CE outer P w H s Q u s' :=
  λ{σ' H' v u} J rv q=>⟨v,H',J.os,J.bare,J.base,J.hok,rv,q⟩
 cases fl with
 |ret u =>obtain⟨v,σ',H',H2,J,rv,x,q⟩:=hs;exact⟨v,H2,J.os,J.bare,(J.extOut x).2 rfl,(J.extOut x).1,rv,q⟩
 |next =>obtain⟨σ',H',J,q⟩:=hs;exact fin (v:=V.non) (u:=aV) J rfl q
 |brk =>obtain⟨_,_,_,q⟩:=hs;exact aS q
 |cont =>obtain⟨_,_,_,q⟩:=hs;exact aS q
section
variable{X:Cx}{x:af}{p pos:aK}{e:ai}{es:List ai}{t:TA}{id T:String}{r:List V->Hp->VK->Prop}
def tCB(r:List V->Hp->VK->Prop)(t:TA):TE:=λσ H Q=>t σ H λvs H1=>r vs H1 Q
theorem zb (hc:vm X (.builtin id) r) (hg:Gl X x) (hm:X.mg x=a7) (hv:b0 x=a4 (.builtin id)) (ha:PA X (e::es) t) (hn:x ≠ "__name__":=by decide) (hdb:(x==k81)=a5:=by decide)
  (he:a8 (e::es) X.env=(a5,az e X.env)::a8 es X.env:=by rfl) (hpl:(aO pos (a8 es X.env)).any (·.1)=a5:=by rfl):PE X (.Call (.Name x p) (e::es) [] pos) (tCB r t):=by
 intro pins s σ H Q I h;refine bh (Vp I hg hm hv ?_ hn hdb);exact callWith_builtin1 (thn (ha pos pins s σ H _ I h) λus s1 ⟨vs,H1,I1,r1,q1⟩=>hc pins s1 σ H1 vs us Q I1 r1 q1) he hpl
theorem Yb (hc:vm X (.type T) r) (hg:Gl X x) (hm:X.mg x=a7) (hv:b0 x=a4 (.type T)) (ha:PA X (e::es) t) (hn:x ≠ "__name__":=by decide) (hdb:(x==k81)=a5:=by decide)
  (he:a8 (e::es) X.env=(a5,az e X.env)::a8 es X.env:=by rfl) (hpl:(aO pos (a8 es X.env)).any (·.1)=a5:=by rfl):PE X (.Call (.Name x p) (e::es) [] pos) (tCB r t):=by
 intro pins s σ H Q I h;refine bh (Vp I hg hm hv ?_ hn hdb);exact callWith_type1 (thn (ha pos pins s σ H _ I h) λus s1 ⟨vs,H1,I1,r1,q1⟩=>hc pins s1 σ H1 vs us Q I1 r1 q1) he hpl
end
end L2
namespace HT
open PySem PyProof.Rows
noncomputable def lexLt:List Int->List Int->Bool
 |[],[]=>a5
 |[],_::_=>a6
 |_::_,[]=>a5
 |x::xs,y::ys=>if x=y then lexLt xs ys else decide (x<y)
section
variable{prog:ar}{w:aA}{A:aD}{E:k7y}{s:ah}
theorem cat_tup{t b:ae}{vs ws:List aa}{Q:k7y}(ht:ik s.heap t vs.toArray)(hb:ik s.heap b ws.toArray)(hv:vs≠[])
  (h1:ws=[]->Q (.ref t) s) (h2:ws≠[]->Q (.ref s.heap.objs.size) { s with heap:=s.heap.push { cls:=.type "tuple",data:=.seq (vs++ws).toArray } })
  (hsz:vs.length+ws.length<=ak):ax (ay prog w) A (b7 .Add (.ref t) (.ref b)) Q E s:=by
 obtain⟨⟨cls,dd,data,sl⟩,ho,hc,n,hd⟩:=id ht;obtain⟨⟨cls2,dd2,data2,sl2⟩,ho2,hc2,n2,hd2⟩:=id hb;simp only at hc hd hc2 hd2;subst hc hd hc2 hd2;have e:vs.toArray++ws.toArray=(vs++ws).toArray:=by simp
 by_cases hw:ws=[]
 .exact fN ⟨_,ho,rfl⟩ ⟨_,ho2,rfl⟩ fW i5 dj d8 (cX _ _)
   (tuple_addW1 t b vs.toArray ws.toArray n n2 dd dd2 sl sl2 (by simpa using hv) (by simp[hw])) ⟨ho,ho2,h1 hw⟩
 .refine fN ⟨_,ho,rfl⟩ ⟨_,ho2,rfl⟩ fW i5 dj d8 (cX _ _)
   (tuple_addW2 t b vs.toArray ws.toArray n n2 dd dd2 sl sl2 (by simpa using hv) (by simpa using hw) (by rw[xu,xu];exact hsz)) ⟨ho,ho2,?_⟩
  rw[e];exact h2 hw
noncomputable def sIx(n d:Nat):Option Int->Nat
 |none=>d
 |some v=>if v<0 then(v+(n:Int)).toNat else min v.toNat n
theorem sIx_none(n d:Nat):sIx n d a7=d:=rfl
theorem sIx_nat(n d k:Nat):sIx n d (a4 (k:Int))=min k n:=by show(if (k:Int)<0 then((k:Int)+(n:Int)).toNat else min (k:Int).toNat n)=min k n;rw[if_neg nofun,X5]
theorem je8(n d:Nat)(hd:d<=n)(o:Option Int):sIx n d o<=n:=by
 cases o with
 |none=>exact hd
 |some v =>
  show(if v<0 then(v+(n:Int)).toNat else min v.toNat n)<=n;by_cases hv:v<0
  .rw[if_pos hv];omega
  .rw[if_neg hv];exact Nat.min_le_right _ _
theorem j22(v:Int)(n d:Nat):(if v<0 then max (v+(n:Int)) 0 else min v (n:Int))=((sIx n d (a4 v):Nat):Int):=by
 show(if v<0 then max (v+(n:Int)) 0 else min v (n:Int))=(((if v<0 then(v+(n:Int)).toNat else min v.toNat n):Nat):Int)
 by_cases hv:v<0
 .simp only[if_pos hv];omega
 .simp only[if_neg hv];omega
theorem j3e(lo hi:Option Int)(n:Nat):cA lo hi 1 (n:Int)=(((sIx n 0 lo:Nat):Int),((sIx n n hi:Nat):Int)):=by
 have h1:¬((1:Int)<0):=by omega
 unfold cA;simp only[h1,if_false];refine Prod.ext ?_ ?_
 .cases lo with
  |none=>rfl
  |some v=>exact j22 v n 0
 .cases hi with
  |none=>rfl
  |some v=>exact j22 v n n
theorem j2k(i j:Nat):bE (i:Int) (j:Int) 1=j-i:=by
 unfold bE;have h1:(1:Int)>0:=by omega
 simp only[h1,if_true,Int.ediv_one];split<;>omega
theorem Oe{v:aa}{o:Option Int}{Q:Option Int->ah->Prop}(p:eR v o)(h:Q o s):ax (ay prog w) A (kq v) Q E s:=by
 cases p with
 |none=>exact lH h
 |int i t=>exact slicePart_int h
theorem M9{sl:ae}{vl vu:aa}{lo hi:Option Int}{n:Nat}{Q:Int×Int×Nat->ah->Prop}(hs:s.heap.IsSliceOf sl vl vu .none)(pl:eR vl lo)(pu:eR vu hi)
  (h:Q (((sIx n 0 lo:Nat):Int),1,sIx n n hi-sIx n 0 lo) s):ax (ay prog w) A (eD (.ref sl) (pure (n:Int))) Q E s:=by
 obtain⟨os,hos,hcs,hds⟩:=id hs;unfold eD kr;refine aj (aj (cq hos hds (x:=vl) rfl (aj (cq hos hds (x:=vu) rfl (aj (cq hos hds (x:=.none) rfl (aC ?_)))))));refine aj (lH ?_);show ax _ _ (if ((1:Int)==0)=a6 then _ else _) _ _ s;rw[if_neg (by decide)];refine aj (Oe pl (aj (Oe pu (aj (aC ?_)))));show ax _ _ (match cA lo hi 1 (n:Int)with|(lo,hi)=>pure (lo,(1:Int),bE lo hi 1)) _ _ s;rw[j3e lo hi n];show ax _ _ (pure (((sIx n 0 lo:Nat):Int),(1:Int),bE ((sIx n 0 lo:Nat):Int) ((sIx n n hi:Nat):Int) 1)) _ _ s;rw[j2k];exact aC h
theorem j7a(xs:Array aa)(i k:Nat):((au k).filterMap λ(m:Nat)=>xs[((i:Int)+(m:Int)*1).toNat]?).toArray=((xs.toList.drop i).take k).toArray:=by
 have e:(λ(m:Nat)=>xs[((i:Int)+(m:Int)*1).toNat]?)=λm=>xs[i+m]?:=by
  funext m
  have:((i:Int)+(m:Int)*1).toNat=i+m:=by omega
  rw[this]
 rw[e];have:=pick_run xs i k;rw[List.filterMap_map]at this;have e2:((λx=>xs[x]?) ∘ λx=>i+x)=λm=>xs[i+m]?:=rfl;rw[e2]at this;rw[this]
theorem getItem_tuple_cut{t sl:ae}{items:Array aa}{vl vu:aa}{lo hi:Option Int}{Q:k7y}(ht:ik s.heap t items)(hs:s.heap.IsSliceOf sl vl vu .none)(pl:eR vl lo)(pu:eR vu hi)
  (hw:¬(sIx items.size 0 lo=0/\sIx items.size items.size hi=items.size))
  (h:Q (.ref s.heap.objs.size) { s with heap:=s.heap.push { cls:=.type "tuple",data:=.seq ((items.toList.drop (sIx items.size 0 lo)).take (sIx items.size items.size hi-sIx items.size 0 lo)).toArray } })
  (hsz:items.size<=ak):ax (ay prog w) A (iE (.ref t) (.ref sl)) Q E s:=by
 have htake:sizeOk (.seq ((items.toList.drop (sIx items.size 0 lo)).take (sIx items.size items.size hi-sIx items.size 0 lo)).toArray):=by show((items.toList.drop (sIx items.size 0 lo)).take (sIx items.size items.size hi-sIx items.size 0 lo)).toArray.size<=ak;rw[xu,Xm,Pa,cE];omega
 have hj:sIx items.size items.size hi<=items.size:=je8 _ _ (X7 _) hi;obtain⟨os,hos,hcs,hds⟩:=id hs;have hTs:s.TypeIs (.ref sl) "slice":=⟨os,hos,hcs⟩
 unfold iE
 try with_reducible refine cL ?_
 first|refine aj (aC ?_)|skip
 refine aj (wpAny_sequenceKey ht.typeIs (by decide) ?_);refine aj (dO (name:=dz "__getitem__") ht.typeIs jM
  (dN jM ht.typeIs entry_tuple_getitem ?_ (args_tuple_getitem _ _)))
 show ax _ _ (ko (.ref t) >>= _) _ _ s;refine aj (tupleItemsOf_ ht ?_);refine aj (wpAny_typeOf hTs ?_);rw[if_pos (by decide)];refine aj (M9 hs pl pu ?_);have hno:¬((((sIx items.size 0 lo:Nat):Int)==0&&(1:Int)==1&&(sIx items.size items.size hi-sIx items.size 0 lo)==items.size)=a6):=by intro q;rw[Xd,Xd]at q;have q1:((sIx items.size 0 lo:Nat):Int)=0:=eq_of_beq q.1.1;have q2:sIx items.size items.size hi-sIx items.size 0 lo=items.size:=eq_of_beq q.2;exact hw ⟨by omega,by omega⟩
 show ax _ _ (if (((sIx items.size 0 lo:Nat):Int)==0&&(1:Int)==1&&(sIx items.size items.size hi-sIx items.size 0 lo)==items.size)=a6 then _ else _) _ _ s;rw[if_neg hno,j7a]
 first
  |exact aj (m:=bG _) (bA (aC ⟨_,rfl,aC h⟩) htake)
  |exact aj (m:=bG _) (bA (aj (aC (aC ⟨_,rfl,aC h⟩))) htake)
  |exact aj (aj (m:=bG _) (bA (aC (aC ⟨_,rfl,aC h⟩)) htake))
  |exact aj (aj (m:=bG _) (bA (aC ⟨_,rfl,aC h⟩) htake))
end
end HT
namespace L2
open PySem PySem.Spec PyProof.Rows
abbrev TO:=St->Hp->(Option Int->Hp->Prop)->Prop
def PO(X:Cx)(e:Option ai)(t:TO):Prop :=
 ∀(pins:k7z) (s:ah) (σ:St) (H:Hp) (Q:Option Int->Hp->Prop),Inv X pins σ H s->t σ H Q ->
  ax (ay X.prog X.w) X.A (evalPart e X.env) (λu s'=>∃o H',Inv X pins σ H' s'/\eR u o/\Q o H') X.xe s
def jaz:TO:=λ_ H Q=>Q a7 H
def ji4(t:TE):TO:=λσ H Q=>t σ H λx H1=>∃i,x=.int i/\Q (a4 i) H1
section
variable{X:Cx}{e:ai}{te:TE}{lo hi:Option ai}{tl th:TO}{pos p2:aK}
theorem jbp:PO X a7 jaz:=by intro pins s σ H Q I h;rw[lM];exact aC ⟨a7,H,I,.none,h⟩
theorem jbo(h:PE X e te):PO X (a4 e) (ji4 te):=by intro pins s σ H Q I hw;rw[evalPart_some];refine thn (h pins s σ H _ I hw) λu s1 ⟨x,H1,I1,r1,q1⟩=>?_;obtain⟨i,rfl,q⟩:=q1;obtain⟨t,rfl⟩:=r1;exact⟨a4 i,H1,I1,.int i t,q⟩
def SlR(X:Cx)(r:V->Option Int->Option Int->Hp->VK->Prop):Prop :=
 ∀(pins:k7z) (s:ah) (σ:St) (H:Hp) (x:V) (v vl vu:aa) (lo hi:Option Int) (sl:ae) (Q:VK),Inv X pins σ H s->RelV x v->s.heap.IsSliceOf sl vl vu .none->eR vl lo->eR vu hi->r x lo hi H Q ->
  ∃T id,typeLookup (.type T) "__getitem__" = pure (a4 (.builtin id))/\s.TypeIs v T/\ax (ay X.prog X.w) X.A (iE v (.ref sl)) (EP X pins σ Q) X.xe s
def tSl(r:V->Option Int->Option Int->Hp->VK->Prop)(te:TE)(tl th:TO):TE:=λσ H Q=>te σ H λx H1=>tl σ H1 λl H2=>th σ H2 λu H3=>r x l u H3 Q
theorem Mj{r:V->Option Int->Option Int->Hp->VK->Prop}(hr:SlR X r)(he:PE X e te)(hl:PO X lo tl)(hu:PO X hi th):PE X (.Subscript e (.Slice lo hi a7 p2) pos) (tSl r te tl th):=by intro pins s σ H Q I h;refine Subscript_ (thn (he pins s σ H _ I h) λv s1 ⟨x,H1,I1,r1,q1⟩=>?_);refine wpAny_Slice (thn (hl pins s1 σ H1 _ I1 q1) λvl s2 ⟨l,H2,I2,pl,q2⟩=>thn (hu pins s2 σ H2 _ I2 q2) λvu s3 ⟨u,H3,I3,pu,q3⟩=>?_);rw[lM];refine aC ?_;have I4:Inv X pins σ H3 { s3 with heap:=s3.heap.push { cls:=.type "slice",data:=.fields #[vl,vu,.none] } }:=I3.kept (t':=s3.toks) λb ob q=>X8 _ q;obtain⟨T,id,hT,ht,hg⟩:=hr pins { s3 with heap:=s3.heap.push { cls:=.type "slice",data:=.fields #[vl,vu,.none] } } σ H3 x v vl vu l u s3.heap.objs.size Q I4 r1 (Heap.IsSliceOf.new ..) pl pu q3;show ax (ay X.prog X.w) X.A (lO e (.Slice lo hi a7 p2) v (.ref s3.heap.objs.size)) (EP X pins σ Q) X.xe { s3 with heap:=s3.heap.push { cls:=.type "slice",data:=.fields #[vl,vu,.none] } };exact tail_any (ops:=[.ref s3.heap.objs.size,v]) ht hT hg (by with_unfolding_all rfl)
noncomputable def Wo(xs:List V)(lo hi:Option Int):List V:=(xs.drop (HT.sIx xs.length 0 lo)).take (HT.sIx xs.length xs.length hi-HT.sIx xs.length 0 lo)
theorem Ry(xs:List V)(lo hi:Option Int):(Wo xs lo hi).length<=xs.length:=by unfold Wo;rw[Xm,Pa];omega
def jky(K:k7x):V->Option Int->Option Int->Hp->VK->Prop:=λx lo hi H Q=>∃a xs,x=.ref a/\SqT K H a xs /\
 ¬(HT.sIx xs.length 0 lo=0/\HT.sIx xs.length xs.length hi=xs.length)/\∀p,H p=a7->Q (.ref p) (upd H p (.tup (Wo xs lo hi)))
theorem jdy:SlR X (jky X.K):=by
 intro pins s σ H x v vl vu lo hi sl Q I rx hs pl pu h;obtain⟨a,xs,rfl,hx,hw,q⟩:=h;cases rx;obtain⟨its,r,ht,hz⟩:=I.tuple hx;have hlen:its.toArray.size=xs.length:=by rw[xu];exact r.length.symm
 refine⟨"tuple",_,slot_tuple_getitem.lookup,ht.typeIs,?_⟩;refine HT.getItem_tuple_cut ht hs pl pu (by rw[hlen];exact hw) ?_ (by rw[hlen];exact hz);rw[hlen];refine⟨.ref s.heap.objs.size,_,I.laid (t':=s.toks) (o:=.tup (Wo xs lo hi)) (λb ob q=>X8 _ q) (X7 _) ?_,rfl,q _ (I.hok.fresh (X7 _))⟩;exact⟨Xf (Ry xs lo hi) hz,_,(r.drop (HT.sIx xs.length 0 lo)).take (HT.sIx xs.length xs.length hi-HT.sIx xs.length 0 lo),IsTup.new _ _,Zq.new _ _⟩
def jik(K:k7x):R2:=λx y H Q=>∃a b xs ys,x=.ref a/\y=.ref b/\SqT K H a xs/\SqT K H b ys/\xs≠[]/\xs.length+ys.length<=ak /\
 (ys=[]->Q (.ref a) H)/\(ys≠[]->∀p,H p=a7->Q (.ref p) (upd H p (.tup (xs++ys))))
theorem Vals.nil_iff{xs:List V}{us:List aa}(r:Vals xs us):us=[]↔xs=[]:=by
 cases r with
 |nil=>simp
 |cons _ _=>simp
theorem jbv:OpR X (b7 .Add) (jik X.K):=by intro pins s σ H x y v u Q I rx ry h;obtain⟨a,b,xs,ys,rfl,rfl,ha,hb,hx,hz,q1,q2⟩:=h;cases rx;cases ry;obtain⟨its,r1,p1,_⟩:=I.tuple ha;obtain⟨its2,r2,p2,_⟩:=I.tuple hb;refine HT.cat_tup p1 p2 (λz=>hx (r1.nil_iff.mp z)) (λz=>⟨.ref a,H,I,rfl,q1 (r2.nil_iff.mp z)⟩) (λz=>?_) (by rw[<-r1.length,<-r2.length];exact hz);refine⟨.ref s.heap.objs.size,_,I.laid (t':=s.toks) (o:=.tup (xs++ys)) (λb ob q=>X8 _ q) (X7 _) ?_,rfl,q2 (λw=>z (r2.nil_iff.mpr w)) _ (I.hok.fresh (X7 _))⟩;exact⟨by rw[Xe];exact hz,_,r1.append r2,IsTup.new _ _,Zq.new _ _⟩
end
noncomputable def ixN(n:Nat)(i:Int):Option Nat:=if 0<=i then(if i<n then a4 i.toNat else a7)else if -(n:Int)<=i then a4 (i+n).toNat else a7
noncomputable def atI{α:Type}(xs:List α)(i:Int):Option α:=(ixN xs.length i).bind λj=>xs[j]?
theorem Nv{n:Nat}{i:Int}{j:Nat}(h:ixN n i=a4 j):kx i n=a4 j/\j<n/\-(n:Int)<=i/\i<n:=by
 unfold ixN at h;by_cases h0:0<=i
 .rw[if_pos h0]at h;by_cases h1:i<n
  .rw[if_pos h1]at h;have e:i.toNat=j:=aw h;exact⟨by rw[iT h0 h1,e],by omega,by omega,h1⟩
  .rw[if_neg h1]at h;cases h
 .rw[if_neg h0]at h;by_cases h1:-(n:Int)<=i
  .rw[if_pos h1]at h;have e:(i+n).toNat=j:=aw h;exact⟨by rw[iD nofun h1,e],by omega,h1,by omega⟩
  .rw[if_neg h1]at h;cases h
theorem Fw{α:Type}{xs:List α}{i:Int}{v:α}(h:atI xs i=a4 v):∃j,kx i xs.length=a4 j/\xs[j]?=a4 v/\j<xs.length/\-(xs.length:Int)<=i/\i<xs.length:=by
 unfold atI at h;cases e:ixN xs.length i with
 |none=>rw[e]at h;cases h
 |some j =>rw[e]at h;obtain⟨h1,h2,h3,h4⟩:=Nv e;exact⟨j,h1,h,h2,h3,h4⟩
theorem Rj{α:Type}{xs:List α}{j:Nat}{v:α}(h:xs[j]?=a4 v):atI xs (j:Int)=a4 v:=by
 have hj:j<xs.length:=(Xb.mp h).1;have e:ixN xs.length (j:Int)=a4 j:=by unfold ixN;rw[if_pos nofun,if_pos nofun];simp
 unfold atI;rw[e];exact h
def Ro(b:ai):Prop:=∀o i,subscripted b a5 o i=operate [o,i] (iE o i)
def IxR(X:Cx)(r:R2):Prop :=
 ∀(value slice:ai)(pins:k7z) (s:ah) (σ:St) (H:Hp) (x y:V) (v u:aa) (Q:VK),Inv X pins σ H s->RelV x v->RelV y u->r x y H Q ->
  subscripted slice a5 v u=operate [v,u] (iE v u)->ax (ay X.prog X.w) X.A (lO value slice v u) (EP X pins σ Q) X.xe s
def MtR(X:Cx)(id:String)(r:V->List V->Hp->VK->Prop):Prop :=
 ∀(pins:k7z) (s:ah) (σ:St) (H:Hp) (x:V) (xs:List V) (v:aa) (us:List aa) (Q:VK),Inv X pins σ H s->RelV x v->Vals xs us->r x xs H Q ->
  ax (ay X.prog X.w) X.A (call (.builtin id) (v::us)) (EP X pins σ Q) X.xe s
section
variable{X:Cx}{a b:ai}{ta tb:TE}{pos:aK}
theorem Lx{r:R2}(hr:IxR X r)(ha:PE X a ta)(hb:PE X b tb)(hs:Ro b):PE X (.Subscript a b pos) (tOp r ta tb):=by intro pins s σ H Q I h;exact Subscript_ (j97 ha hb I h λv u s2 x y H2 I2 rx ry q=>hr a b pins s2 σ H2 x y v u Q I2 rx ry q (hs _ _))
def jej(K:k7x):R2:=λx y H Q=>∃p xs i v,x=.ref p/\y=.int i/\SqL K H p xs/\atI xs i=a4 v/\Q v H
def jeh(K:k7x):R2:=λx y H Q=>∃p xs i v,x=.ref p/\y=.int i/\SqT K H p xs/\atI xs i=a4 v/\Q v H
def jei:R2:=λx y H Q=>∃z i c,x=.str z/\y=.int i/\z.length<=ak/\atI z.cps.toList i=a4 c/\Q (.str ⟨#[c]⟩) H
theorem jc6:IxR X (jej X.K):=by
 intro value slice pins s σ H x y v u Q I rx ry h hs;obtain⟨p,xs,i,z,rfl,rfl,hq,he,q⟩:=h;cases rx;obtain⟨t,rfl⟩:=ry;obtain⟨its,r,pl,hz⟩:=I.list hq;obtain⟨j,h1,h2,h3,h4,h5⟩:=Fw he;obtain⟨w,ew,rw'⟩:=r.get h2;have hl:=r.length;have hn:=Vo;have fin:EP X pins σ Q w s:=⟨z,H,I,rw',q⟩
 by_cases h0:0<=i
 .have hj:i.toNat=j:=by rw[iT h0 h5]at h1;exact aw h1
  exact item_listR pl.isList h0 nofun (by rw[hj];simpa using ew) fin hs
 .have hj:(i+(its.toArray.size:Int)).toNat=j:=by rw[iD nofun h4]at h1;rw[xu,<-hl];exact aw h1
  exact iF (x:=w) pl.isList.typeIs slot_list_getitem.lookup
   (wpAny_getItem_list_neg (Q:=λr s'=>r=w/\EP X pins σ Q r s') pl.isList nofun (by rw[xu]<;>omega) nofun (by rw[hj];simpa using ew) ⟨rfl,fin⟩) hs
theorem j58:IxR X (jeh X.K):=by
 intro value slice pins s σ H x y v u Q I rx ry h hs;obtain⟨p,xs,i,z,rfl,rfl,hq,he,q⟩:=h;cases rx;obtain⟨t,rfl⟩:=ry;obtain⟨its,r,pl,hz⟩:=I.tuple hq;obtain⟨j,h1,h2,h3,h4,h5⟩:=Fw he;obtain⟨w,ew,rw'⟩:=r.get h2;have hl:=r.length;have hn:=Vo;have fin:EP X pins σ Q w s:=⟨z,H,I,rw',q⟩
 exact iF (x:=w) pl.typeIs slot_tuple_getitem.lookup
  (getItem_tuple (j:=j) (Q:=λr s'=>r=w/\EP X pins σ Q r s') pl nofun nofun (by rw[xu,<-hl];exact h1) (by simpa using ew) ⟨rfl,fin⟩) hs
theorem jg1:IxR X jei:=by
 intro value slice pins s σ H x y v u Q I rx ry h hs;obtain⟨z,i,c,rfl,rfl,hz,he,q⟩:=h;obtain⟨t,rfl⟩:=rx;obtain⟨t',rfl⟩:=ry;obtain⟨j,h1,h2,h3,h4,h5⟩:=Fw he;have hl:z.cps.toList.length=z.length:=by simp[lh]
 rw[hl]at h1 h4 h5;have hn:=Vo;exact tail_any (fm s z t) slot_str_getitem.lookup (getItem_str (c:=c) (by
  have e1:decide (i < -(2^63:Int))=a5:=decide_eq_false nofun
  have e2:decide (i>=2^63)=a5:=decide_eq_false nofun
  rw[e1,e2,gb]) (by rw[h1];simpa using h2) ⟨.str ⟨#[c]⟩,H,I.tok _,⟨_,rfl⟩,q⟩) hs
theorem j2r(its:List aa)(n j:Nat)(u:aa):dB (·.setIfInBounds j u) { cls:=.type "list",data:=.seq its.toArray n }={ cls:=.type "list",data:=.seq (its.set j u).toArray n }:=by simp[dB]
theorem Inv.lst{pins:k7z}{σ:St}{H:Hp}{s:ah}{p:ae}{xs:List V}(I:Inv X pins σ H s)(h:H p=a4 (.lst xs)) :
  ∃(its:List aa)(n:Nat),Vals xs its/\s.heap.get? p=a4 { cls:=.type "list",data:=.seq its.toArray n }/\xs.length<=ak:=by
 obtain⟨z,its,n,r,e⟩:=I.hok p _ h;exact⟨its,n,r,e,z⟩
theorem Inv.lstUpd{pins:k7z}{σ:St}{H:Hp}{s:ah}{p:ae}{xs ys:List V}{its its':List aa}{n n':Nat}{f:cb->cb}(I:Inv X pins σ H s)(h:H p=a4 (.lst xs))
  (ho:s.heap.get? p=a4 { cls:=.type "list",data:=.seq its.toArray n }) (hf:f { cls:=.type "list",data:=.seq its.toArray n }={ cls:=.type "list",data:=.seq its'.toArray n' }) (r:Vals ys its') (hz:ys.length<=ak) (t:Nat) :
  Inv X pins σ (upd H p (.lst ys)) { s with heap:=s.heap.update p f,toks:=t }:=by
 have e:(s.heap.update p f).get? p=a4 { cls:=.type "list",data:=.seq its'.toArray n' }:=by rw[gJ f ho (by rw[hf]<;>rfl),hf]
 refine I.write (x:=p) (e:=p) (by rw[h];trivial) (.inl rfl) (λb u hb q=>(gx _ _ (bF hb)).trans q) ⟨_,e⟩ ?_;exact⟨hz,its',n',r,e⟩
def jij:V->V->V->Hp->(Hp->Prop)->Prop:=λo i v H Q=>∃p xs k j,o=.ref p/\i=.int k/\H p=a4 (.lst xs)/\ixN xs.length k=a4 j/\Q (upd H p (.lst (xs.set j v)))
theorem set_list:jhy X jij:=by
 intro pins s σ H o i v ov iv u Q I ro ri rv h;obtain⟨p,xs,k,j,rfl,rfl,hp,hj,q⟩:=h;cases ro;obtain⟨t,rfl⟩:=ri;obtain⟨its,n,r,ho,hz⟩:=I.lst hp;obtain⟨h1,h2,h3,h4⟩:=Nv hj;have hl:=r.length;have hn:=Vo;have I':Inv X pins σ (upd H p (.lst (xs.set j v))) { s with heap:=s.heap.update p (dB (·.setIfInBounds j u)) } :=
  I.lstUpd hp ho (j2r its n j u) (r.set rv j) (by rw[Ti];exact hz) s.toks
 by_cases h0:0<=k
 .have hk:k.toNat=j:=by rw[iT h0 h4]at h1;exact aw h1
  exact W.ki_setAt ho h0 nofun (by rw[xu,<-hl];exact h4) (by rw[hk];exact⟨_,I',q⟩)
 .have hk:(k+(its.toArray.size:Int)).toNat=j:=by rw[iD nofun h3]at h1;rw[xu,<-hl];exact aw h1
  exact W.ki_setBack ho nofun (by rw[xu,<-hl];exact h3) nofun (by rw[hk];exact⟨_,I',q⟩)
theorem Kq(lo hi:Option Int)(n:Nat):(cO lo hi a7 n).1=((HT.sIx n 0 lo:Nat):Int)/\(cO lo hi a7 n).2.1=((HT.sIx n n hi:Nat):Int)/\(cO lo hi a7 n).2.2=1:=by
 refine⟨?_,?_,rfl⟩
 .cases lo with
  |none=>simp[cO,HT.sIx]
  |some i =>
   simp only[cO,HT.sIx,ip,show(1:Int)>0 by decide,if_true];by_cases h:i<0
   .simp only[h,if_true]<;>omega
   .simp only[h,if_false]<;>omega
 .cases hi with
  |none=>simp[cO,HT.sIx]
  |some i =>
   simp only[cO,HT.sIx,ip,show(1:Int)>0 by decide,if_true];by_cases h:i<0
   .simp only[h,if_true]<;>omega
   .simp only[h,if_false]<;>omega
theorem Lg(its:List aa)(lo hi:Option Int):slicePick its.toArray lo hi a7=((its.drop (HT.sIx its.length 0 lo)).take (HT.sIx its.length its.length hi-HT.sIx its.length 0 lo)).toArray:=by obtain⟨h1,h2,h3⟩:=Kq lo hi its.toArray.size;unfold slicePick;rw[h1,h2,h3];simp only[sliceRange_one,pick_run,xu]<;>rfl
def jl0(K:k7x):V->Option Int->Option Int->Hp->VK->Prop:=λx lo hi H Q=>∃a xs,x=.ref a/\SqL K H a xs/\∀p,H p=a7->Q (.ref p) (upd H p (.lst (Wo xs lo hi)))
theorem jb5:SlR X (jl0 X.K):=by intro pins s σ H x v vl vu lo hi sl Q I rx hs pl pu h;obtain⟨a,xs,rfl,hx,q⟩:=h;cases rx;obtain⟨its,r,ht,hz⟩:=I.list hx;have hlen:=r.length;refine⟨"list",_,slot_list_getitem.lookup,ht.isList.typeIs,?_⟩;refine wpAny_getItem_list_slice ht.isList hs pl pu .none (by simp) ?_ (by rw[xu]<;>omega);rw[Lg,<-hlen];refine⟨.ref s.heap.objs.size,_,I.laid (t':=s.toks) (o:=.lst (Wo xs lo hi)) (λb ob q=>X8 _ q) (X7 _) ?_,rfl,q _ (I.hok.fresh (X7 _))⟩;exact⟨Xf (Ry xs lo hi) hz,_,0,(r.drop (HT.sIx xs.length 0 lo)).take (HT.sIx xs.length xs.length hi-HT.sIx xs.length 0 lo),Xi _ rfl⟩
theorem Ws:vm X (.builtin "len") (λxs H Q=>∃p ys,xs=[.ref p]/\(SqL X.K H p ys\/SqT X.K H p ys)/\Q (.int ys.length) H):=by
 intro pins s σ H xs us Q I r h;obtain⟨p,ys,rfl,hq,q⟩:=h;obtain⟨u,rfl,rx⟩:=vals1 r;cases rx;have hn:=Vo;rcases hq with hq|hq
 .obtain⟨its,r',pl,hz⟩:=I.list hq;have hlen:=r'.length;exact Calls.call_len_list pl.isList (by simp only[xu]<;>omega) ⟨.int ys.length,H,I.tok _,⟨s.toks+1,by rw[xu,hlen]⟩,q⟩
 .obtain⟨its,r',pl,hz⟩:=I.tuple hq;have hlen:=r'.length;exact len_tuple pl (by simp only[xu]<;>omega) ⟨.int ys.length,H,I.tok _,⟨s.toks+1,by rw[xu,hlen]⟩,q⟩
theorem j09:vm X (.builtin "len") (λxs H Q=>∃z,xs=[.str z]/\z.length<=ak/\Q (.int z.length) H):=by intro pins s σ H xs us Q I r h;obtain⟨z,rfl,hz,q⟩:=h;obtain⟨u,rfl,t,rfl⟩:=vals1 r;have hn:=Vo;exact len_str nofun ⟨.int z.length,H,I.tok _,⟨_,rfl⟩,q⟩
theorem j08:vm X (.type "list") (λxs H Q=>∃p ys,xs=[.ref p]/\(SqL X.K H p ys\/SqT X.K H p ys)/\∀l,H l=a7->Q (.ref l) (upd H l (.lst ys))):=by
 intro pins s σ H xs us Q I r h;obtain⟨p,ys,rfl,hq,q⟩:=h;obtain⟨u,rfl,rx⟩:=vals1 r;cases rx;have fin:∀(its:List aa),Vals ys its->ys.length<=ak->∀(h':aE)(c':Nat),(∀b o',s.heap.get? b=a4 o'->h'.get? b=a4 o') ->
   h'.get? s.heap.objs.size=a4 { cls:=.type "list",dict:=a7,data:=.seq its.toArray c',slots:=#[] }->EP X pins σ Q (.ref s.heap.objs.size) { s with heap:=h' }:=λits r' hz h' c' kp e =>
  ⟨.ref s.heap.objs.size,_,I.laid (t':=s.toks) kp (X7 _) (show jk X.prog X.w _ h' _ (.lst ys) from⟨hz,its,c',r',e⟩),rfl,q _ (I.hok.fresh (X7 _))⟩
 rcases hq with hq|hq
 .obtain⟨its,r',pl,hz⟩:=I.list hq;have hlen:=r'.length;obtain⟨o,ho,hc,n,hd⟩:=pl.isList;exact lN p (.inl rfl) ho hc hd (λh' c' kp e=>fin its r' hz h' c' kp e) (by simp only[xu]<;>omega)
 .obtain⟨its,r',pl,hz⟩:=I.tuple hq;have hlen:=r'.length;obtain⟨o,ho,hc,n,hd⟩:=pl;exact lN p (.inr rfl) ho hc hd (λh' c' kp e=>fin its r' hz h' c' kp e) (by simp only[xu]<;>omega)
theorem Li:vm X (.type "tuple") (λxs H Q=>∃p ys,xs=[.ref p]/\((SqL X.K H p ys/\∀l,H l=a7->Q (.ref l) (upd H l (.tup ys)))\/(SqT X.K H p ys/\Q (.ref p) H))):=by
 intro pins s σ H xs us Q I r h;obtain⟨p,ys,rfl,h⟩:=h;obtain⟨u,rfl,rx⟩:=vals1 r;cases rx;rcases h with ⟨hq,q⟩|⟨hq,q⟩
 .obtain⟨its,r',pl,hz⟩:=I.list hq;have hlen:=r'.length;refine call_tuple_list pl.isList (λh' kp=>?_) (by simp only[xu]<;>omega);have I1:Inv X pins σ H { s with heap:=h' }:=I.kept (t':=s.toks) kp;have I2:Inv X pins σ (upd H h'.objs.size (.tup ys)) { s with heap:=h'.push { cls:=.type "tuple",data:=.seq its.toArray } } :=
   I1.laid (t':=s.toks) (λb o e=>X8 _ e) (X7 _) (show jk X.prog X.w _ _ _ (.tup ys) from⟨hz,its,r',IsTup.new _ _,Zq.new _ _⟩)
  exact⟨.ref h'.objs.size,_,I2,rfl,q _ (I1.hok.fresh (X7 _))⟩
 .obtain⟨its,r',pl,hz⟩:=I.tuple hq;exact call_tuple_same pl ⟨.ref p,H,I,rfl,q⟩
def tyV(K:k7x)(T:String)(x:V)(H:Hp):Prop:=match x with
 |.str _=>T = "str"
 |.int _=>T = "int"
 |.ref p=>(T = "list"/\∃xs,SqL K H p xs)\/(T = "tuple"/\∃xs,SqT K H p xs) \/
   (T = "dict"/\((∃kvs,H p=a4 (.dK kvs))\/∃kvs,H p=a4 (.dT kvs)))\/(T = "set"/\∃S n,H p=a4 (.set S n))
 |_=>False
theorem j3o{pins:k7z}{σ:St}{H:Hp}{s:ah}{T:String}{x:V}{v:aa}(I:Inv X pins σ H s)(r:RelV x v)(ty:tyV X.K T x H) :
  s.TypeIs v T/\∀a,v=.ref a->∃ob,s.heap.get? a=a4 ob/\ob.dict=a7:=by
 cases x with
 |str z =>obtain⟨t,rfl⟩:=r;cases(show T = "str" from ty);exact⟨fm s z t,λ_ e=>nomatch e⟩
 |int i =>obtain⟨t,rfl⟩:=r;cases(show T = "int" from ty);exact⟨fq s i t,λ_ e=>nomatch e⟩
 |ref p =>
  cases r;rcases ty with ⟨rfl,xs,hq⟩|⟨rfl,xs,hq⟩|⟨rfl,hk⟩|⟨rfl,S,n,hk⟩
  .obtain⟨its,_,pl,_⟩:=I.list hq;refine⟨pl.isList.typeIs,λa e=>?_⟩;cases e;obtain⟨o,n,e,c,hd,_⟩:=pl;exact⟨o,e,hd⟩
  .obtain⟨its,_,⟨o,e1,e2,_⟩,_⟩:=I.tuple hq;refine⟨⟨o,e1,e2⟩,λa e=>?_⟩;cases e;exact⟨o,e1,I.tupD hq o e1⟩
  .have z:∃o,s.heap.get? p=a4 o/\o.ExactDict:=by
    rcases hk with ⟨kvs,hk⟩|⟨kvs,hk⟩
    .obtain⟨_,_,_,_,o,_,_,e,ex,_⟩:=I.hok p _ hk;exact⟨o,e,ex⟩
    .obtain⟨_,_,_,_,o,_,_,e,ex,_⟩:=I.hok p _ hk;exact⟨o,e,ex⟩
   obtain⟨o,e,ex⟩:=z;refine⟨⟨o,e,ex.1⟩,λa e2=>?_⟩;cases e2;exact⟨o,e,ex.2.1⟩
  .obtain⟨o,_,_,_,e,ex,_⟩:=I.hok p _ hk;refine⟨⟨o,e,ex.1⟩,λa e2=>?_⟩;cases e2;exact⟨o,e,ex.2.1⟩
 |_=>exact aS ty
def jkp(K:k7x)(T:String)(r:V->List V->Hp->VK->Prop)(to:TE):TE:=λσ H Q=>to σ H λx H1=>tyV K T x H1/\r x [] H1 Q
def tBM(K:k7x)(T:String)(r:V->List V->Hp->VK->Prop)(to:TE)(t:TA):TE:=λσ H Q=>to σ H λx H1=>tyV K T x H1/\t σ H1 λxs H2=>r x xs H2 Q
variable{o e:ai}{es:List ai}{to:TE}{t:TA}{name:af}{apos cpos:aK}{T id:String}{r:V->List V->Hp->VK->Prop}
theorem jey (pa:PlainAttrs T) (slot:Slot T name id) (hty:ly (.builtin id)=pure (.type "method_descriptor")) (hm:MtR X id r) (ho:PE X o to)
  (hbase:aM o name X.env (az o X.env)=az o X.env:=by rfl) (hline:(apos.endLine==cpos.line)=a6:=by rfl):PE X (.Call (.Attribute o name apos) [] [] cpos) (jkp X.K T r to):=by
 intro pins s σ H Q I h;refine wpAny_Call_method0_late hbase hline (thn (ho pins s σ H _ I h) λv s1 ⟨x,H1,I1,r1,ty,q1⟩=>?_);obtain⟨h1,h2⟩:=j3o I1 r1 ty;exact⟨T,id,pa,slot,hty,h1,h2,gf rfl (PySem.evalArgs_none (hm pins s1 σ H1 x [] v [] Q I1 r1 .nil q1))⟩
theorem Yc (pa:PlainAttrs T) (slot:Slot T name id) (hty:ly (.builtin id)=pure (.type "method_descriptor")) (hm:MtR X id r) (ho:PE X o to) (ha:PA X (e::es) t)
  (hbase:aM o name X.env (az o X.env)=az o X.env:=by rfl)
  (hfew:((aO cpos (a8 (e::es) X.env)).all (λx=>!x.1)&&(bo cpos (aT [] X.env)).all (λx=>x.1.isSome)
   && decide ((e::es).length+([]:List aR).length+(if ([]:List aR).isEmpty then 0 else 1)<30))=a6:=by rfl)
  (hline:(apos.endLine==cpos.line)=a6:=by rfl) (hs:a8 (e::es) X.env=(a5,az e X.env)::a8 es X.env:=by rfl) (hplain:(aO cpos (a8 es X.env)).any (·.1)=a5:=by rfl) :
  PE X (.Call (.Attribute o name apos) (e::es) [] cpos) (tBM X.K T r to t):=by
 intro pins s σ H Q I h;refine wpAny_Call_method_late hbase hfew hline rfl (thn (ho pins s σ H _ I h) λv s1 ⟨x,H1,I1,r1,ty,q1⟩=>?_);obtain⟨h1,h2⟩:=j3o I1 r1 ty;refine⟨T,id,pa,slot,hty,h1,h2,?_⟩;have hA:=ha cpos pins s1 σ H1 _ I1 q1;rw[hs]at hA ⊢;refine gf (by show(a5 || (aO cpos (a8 es X.env)).any (·.1))=a5;rw[hplain]<;>rfl) (gN ?_);exact thn hA λus s2 ⟨vs,H2,I2,r2,q2⟩=>hm pins s2 σ H2 x vs v us Q I2 r1 r2 q2
/- xs.append(e),list.index on a module's tuple .. are MtR facts of 06m -/
end
def MtM(X:Cx)(id:String)(r:V->List V->Hp->VK->Prop):Prop :=
 ∀(pins:k7z) (s:ah) (σ:St) (H:Hp) (x:V) (xs:List V) (v:aa) (us:List aa) (Q:VK),Inv X pins σ H s->RelV x v->Vals xs us->r x xs H Q ->
  ax (ay X.prog X.w) X.A (call (.builtin id) (v::us)) (EP X pins σ Q) X.xe s
theorem Vals.one{x:V}{us:List aa}(h:Vals [x] us):∃u,us=[u]/\RelV x u:=by cases h with|cons r t=>cases t;exact⟨_,rfl,r⟩
theorem Vals.zero:∀{us:List aa},Vals [] us->us=[]
 |_,.nil=>rfl
theorem Vals.eraseIdx:∀{xs:List V}{us:List aa}(i:Nat),Vals xs us->Vals (xs.eraseIdx i) (us.eraseIdx i)
 |_,_,_,.nil=>.nil
 |_,_,0,.cons _ t=>t
 |_,_,i+1,.cons r t=>.cons r (Vals.eraseIdx i t)
theorem Vals.reverse{xs:List V}{us:List aa}(h:Vals xs us):Vals xs.reverse us.reverse:=by
 induction h with
 |nil=>exact .nil
 |cons r t ih=>rw[iI,iI];exact Vals.append ih (.cons r .nil)
theorem Vals.rep{xs:List V}{us:List aa}(h:Vals xs us):∀k:Nat,Vals (ao k xs).flatten (ao k us).flatten
 |0=>.nil
 |k+1=>by rw[Ph,Ph,Te,Te];exact Vals.append h (Vals.rep h k)
theorem Dm{α:Type}:∀(l:List α)(i:Nat),(l.eraseIdx i).length<=l.length
 |[],_=>X7 _
 |_::_,0=>Pb _
 |_::r,i+1=>Nat.succ_le_succ (Dm r i)
theorem foldl_rep(its:List aa):∀(k:Nat)(acc:List aa),
  cU (λx1 x2=>x1++x2) acc.toArray (ao k its.toArray)=(acc++(ao k its).flatten).toArray
 |0,acc=>by simp
 |k+1,acc=>by
  have e:acc.toArray++its.toArray=(acc++its).toArray:=by simp
  have e2:(acc++its)++(ao k its).flatten=acc++(ao (k+1) its).flatten:=by rw[Ph,Te,Tp]
  rw[<-e2,<-foldl_rep its k (acc++its),<-e,Ph,bV]
section
variable{X:Cx}{pins:k7z}{σ:St}{H:Hp}{s:ah}{l b:ae}{xs ys zs:List V}
theorem Inv.lset{its its':List aa}{n:Nat}{f:Array aa->Array aa}{t':Nat}(I:Inv X pins σ H s)(hH:H l=a4 (.lst xs))
  (e:s.heap.get? l=a4 { cls:=.type "list",data:=.seq its.toArray n }) (hf:f its.toArray=its'.toArray) (hv:Vals ys its') (hz:ys.length<=ak) :
  Inv X pins σ (upd H l (.lst ys)) { s with heap:=s.heap.update l (dB f),toks:=t' }:=by
 have q:=PySem.IsL.update e f;rw[hf]at q;refine I.write (x:=l) (e:=l) (by rw[hH];exact trivial) (.inl rfl) (λb' u hb hu=>(gx s.heap (dB f) (bF hb)).trans hu) ⟨_,q⟩ ?_;exact⟨hz,its',_,hv,q⟩
theorem Inv.lnew{its:List aa}{t':Nat}(I:Inv X pins σ H s)(hv:Vals ys its)(hz:ys.length<=ak) :
  Inv X pins σ (upd H s.heap.objs.size (.lst ys)) { s with heap:=s.heap.push { cls:=.type "list",data:=.seq its.toArray },toks:=t' } :=
 I.laid (λ_ _ q=>X8 _ q) (X7 _) ⟨hz,its,0,hv,Xi _ rfl⟩
theorem Inv.fresh(I:Inv X pins σ H s):H s.heap.objs.size=a7:=I.hok.fresh (X7 _)
theorem Inv.lstM(I:Inv X pins σ H s)(hH:H l=a4 (.lst xs)):xs.length<=ak/\∃(its:List aa)(n:Nat),Vals xs its/\xs.length=its.length/\s.heap.get? l=a4 { cls:=.type "list",data:=.seq its.toArray n }:=by obtain⟨z,its,n,r,e⟩:=I.hok l _ hH;exact⟨z,its,n,r,r.length,e⟩
theorem Il{n:Nat}(h:n<=ak):bH n=a5:=by unfold bH;exact decide_eq_false nofun
end
section
variable{X:Cx}
def jbm:V->List V->Hp->VK->Prop:=λx vs H Q=>∃l xs y,x=.ref l/\vs=[y]/\H l=a4 (.lst xs)/\xs.length<ak/\Q .non (upd H l (.lst (xs++[y])))
theorem Ye:MtM X "list.append" jbm:=by intro pins s σ H x vs v us Q I rx rv h;obtain⟨l,xs,y,rfl,rfl,hH,hz,q⟩:=h;cases rx;obtain⟨u,rfl,ru⟩:=rv.one;obtain⟨z,its,n,r,hl,e⟩:=I.lstM hH;refine bB bY ⟨_,e,rfl⟩ F.entry_list_append (F.args_list_append_2 _ _) (PySem.list_append l its.toArray n u (by rw[xu];omega)) ⟨e,?_⟩;refine⟨.non,_,I.lset (its':=its++[u]) hH e (by simp) (r.append (.cons ru .nil)) ?_,rfl,q⟩;rw[Xe,gX];omega
def jbl:V->List V->Hp->VK->Prop:=λx vs H Q=>∃l b xs zs,x=.ref l/\vs=[.ref b]/\H l=a4 (.lst xs)/\H b=a4 (.lst zs)/\xs.length+zs.length<=ak/\Q .non (upd H l (.lst (xs++zs)))
theorem j4x:MtM X "list.extend" jbl:=by
 intro pins s σ H x vs v us Q I rx rv h;obtain⟨l,b,xs,zs,rfl,rfl,hH,hB,hz,q⟩:=h;cases rx;obtain⟨u,rfl,ru⟩:=rv.one;cases ru;obtain⟨z,its,n,r,hl,e⟩:=I.lstM hH;obtain⟨z2,its2,n2,r2,hl2,e2⟩:=I.lstM hB;have hsz:its.toArray.size+its2.toArray.size<=ak:=by rw[xu,xu];omega
 have hlong:¬(!its.toArray.isEmpty&&bH (its.toArray.size+its2.toArray.size))=a6:=by rw[Il hsz,fU];exact xm
 refine bB gL ⟨_,e,rfl⟩ F.entry_list_extend (F.args_list_extend_2 _ _)
  (AutoSeq1.list_extend_list_list_0 l its.toArray n b its2.toArray n2 hlong (by rw[xu];omega) nofun) ⟨e,e2,?_⟩
 refine⟨.non,_,I.lset (its':=its++its2) hH e (by simp) (r.append r2) ?_,rfl,q⟩;rw[Xe];omega
def jeg:V->List V->Hp->VK->Prop:=λx vs H Q=>∃l xs i k y,x=.ref l/\vs=[.int i]/\H l=a4 (.lst xs)/\-(2^63)<=i/\i<2^63/\kx i xs.length=a4 k/\xs[k]?=a4 y/\Q y (upd H l (.lst (xs.eraseIdx k)))
theorem j7g:MtM X "list.pop" jeg:=by
 intro pins s σ H x vs v us Q I rx rv h;obtain⟨l,xs,i,k,y,rfl,rfl,hH,h1,h2,hk,hy,q⟩:=h;cases rx;obtain⟨u,rfl,ru⟩:=rv.one;obtain⟨t,rfl⟩:=ru;obtain⟨z,its,n,r,hl,e⟩:=I.lstM hH;obtain⟨w,hw,rw'⟩:=r.get hy;refine bB ib ⟨_,e,rfl⟩ F.entry_list_pop (F.args_list_pop_2 _ _)
  (MeetsSeq.list_pop_at l its.toArray n i t k w (lz h1 h2) (by rw[xu,<-hl];exact hk) (by rw[<-gG];exact hw) (by rw[xu];omega)) ⟨e,?_⟩
 refine⟨y,_,I.lset (its':=its.eraseIdx k) hH e ?_ (r.eraseIdx k) ?_,rw',q⟩
 .show its.toArray.eraseIdxIfInBounds k=(its.eraseIdx k).toArray;rw[List.eraseIdxIfInBounds_toArray]
 .have:=Dm xs k;omega
def jek:V->List V->Hp->VK->Prop:=λx vs H Q=>∃l xs,x=.ref l/\vs=[]/\H l=a4 (.lst xs)/\Q .non (upd H l (.lst []))
theorem j7h:MtM X "list.clear" jek:=by intro pins s σ H x vs v us Q I rx rv h;obtain⟨l,xs,rfl,rfl,hH,q⟩:=h;cases rx;have hus:=rv.zero;subst hus;obtain⟨z,its,n,r,hl,e⟩:=I.lstM hH;refine bB hJ ⟨_,e,rfl⟩ F.entry_list_clear (F.args_list_clear_1 _) (AutoSeq1.list_clear_list_0 l its.toArray n (by rw[xu];omega)) ⟨e,?_⟩;exact⟨.non,_,I.lset (its':=[]) (ys:=[]) hH e rfl .nil (T9 _),rfl,q⟩
def jl2:R2:=λx y H Q=>∃l k xs,x=.ref l/\y=.int k/\H l=a4 (.lst xs)/\-(2^63)<=k/\k<2^63/\xs.length*k.toNat<=ak /\
 ∀p,H p=a7->Q (.ref p) (upd H p (.lst (ao k.toNat xs).flatten))
theorem len_rep{α:Type}(xs:List α)(k:Nat):(ao k xs).flatten.length=k*xs.length:=by
 induction k with
 |zero=>simp
 |succ k ih=>rw[Ph,Te,Xe,ih,kC,Nat.add_comm]
theorem jf4:OpR X (b7 .Mult) jl2:=by
 intro pins s σ H x y v u Q I rx ry h;obtain⟨l,k,xs,rfl,rfl,hH,h1,h2,hz,q⟩:=h;cases rx;obtain⟨t,rfl⟩:=ry;obtain⟨z,its,n,r,hl,e⟩:=I.lstM hH;have hlen:its.toArray.size*k.toNat<=ak:=by rw[xu,<-hl];exact hz
 have hcap:¬its.toArray.size*k.toNat>(2^63-1)/8:=by
  have:(ak:Nat)<=(2^63-1)/8:=by decide
  omega
 have hfit:¬(!Builtin.List.listFitsIndex k)=a6:=by rw[lz h1 h2];exact xm
 have hlong:¬bH (its.toArray.size*k.toNat)=a6:=by rw[Il hlen];exact xm
 have hnew:cU (λx1 x2=>x1++x2) #[] (ao (if its.toArray.isEmpty=a6 then 0 else k.toNat) its.toArray)=(ao k.toNat its).flatten.toArray:=by
  have f0:∀m:Nat,cU (λx1 x2=>x1++x2) #[] (ao m its.toArray)=(ao m its).flatten.toArray:=λm=>by have:=foldl_rep its m [];rw[fB]at this;exact this
  rw[f0];cases its with
  |nil=>simp
  |cons a r'=>rw[if_neg (by simp)]
 refine hR (T:="list") (U:="int") (by decide) ⟨_,e,rfl⟩ (λs'=>fq s' k t) noFill_list_mul jT dR repeat_list F.slot_int_index.lookup
  (bB dR (fq s k t) jF (jv _ _) (int___rmul___int_list k t l its.toArray n)
   ⟨e,rfl,⟨_,e,rfl⟩,bB F.slot_list_mul ⟨_,e,rfl⟩ F.entry_list_mul (F.args_list_mul_2 _ _) (AutoListH.list___mul___list_int_3 l its.toArray n k t hfit hcap hlong) ⟨e,?_⟩⟩)
 rw[hnew];exact⟨.ref _,_,I.lnew (t':=s.toks) (r.rep k.toNat) (by rw[len_rep,eX];exact hz),rfl,q _ I.fresh⟩
end
end L2
namespace Att
open PySem PySem.W PySem.Calls PyProof.Rows
theorem Ba{P:lD}{h:aE}:∀(ns:List Int)(vs:List aa),WellAll P h vs (ns.map WData.int)->gz vs ns:=by
 intro ns;induction ns with
 |nil =>intro vs w;rw[bP]at w;cases w;exact .nil
 |cons n ns ih =>
  intro vs w;rw[X3]at w;cases w with
  |cons a b =>cases a;exact .cons _ _ (ih _ b)
theorem j45{l:d9}{n:Nat}(hn:l.most=a4 n){P:lD}{h:aE}{args:List WData}{vals:List aa}
  (hpre:l.row.toRowW.claim.pre args=a6) (hwl:WellAll P h vals args) :
  ∃a vs ns,vals=[aF a]/\args=[WData.list (ns.map WData.int)]/\h.get? a=a4 { cls:=.type "list",data:=.seq vs.toArray }/\gz vs ns/\ns.length<=n:=by
 have hsh:WShape.hasAll [] args [.list .int]=a6:=(pre_splitW hpre).1;have hc:l.pre.holds [] { args:=args }=a6:=(pre_splitW hpre).2;obtain⟨d,r,rfl,h1,h2⟩:=hasAllW_cons hsh;obtain rfl:=hasAllW_nil h2;obtain⟨xs,rfl,h3⟩:=hasW_list h1;obtain⟨ns,rfl⟩:=items_int h3;have hlen:ns.length<=n:=by
  unfold OpenLaw.pre at hc;have h4:(WTm.not (.lt (.lit (.int (n:Int))) (.len (.arg 0)))).holds [] { args:=[.list (ns.map .int)] }=a6:=by have h4:=(holds_andW hc).1;rw[hn]at h4;exact h4
  have h5:=condW_of h4 (w_not (w_lt w_lit (w_len_list (w_arg rfl))));rw[xj]at h5;refine Nat.le_of_not_lt λq=>?_;have q':(n:Int)<((ns.length:Nat):Int):=by omega
  first
   |(rw[decide_eq_true q']at h5;exact absurd h5 (by decide))
   |(simp at h5;omega)
 cases hwl with
 |cons w1 w2 =>
  cases w2;cases w1 with
  |list ho hall=>exact⟨_,_,ns,rfl,rfl,ho,Ba ns _ hall,hlen⟩
theorem j4d(l:d9)(args:List WData):l.row.toRowW.claim.post args (.bool a6) args=a6 :=
 postW_of (r:=l.row.toRowW) (X:=(a6==a6))
  (show WShape.has [] (.bool a6) .bool=a6 by first|rfl|decide|simp[WShape.has,WShape.arms,WShape.armsAll])
  (show(WTm.eq .res (.lit (.bool a6))).value [] { args:=args,res:=a4 (.bool a6),after:=args }=a4 (.bool (a6==a6))from w_eq_bool (w_res rfl) w_lit) rfl
theorem attach_call{l:d9}{n:Nat}{q:ar}{loose:List af}{XP:(af->Option aa)->aE->Prop}{YP:aA->aE->Prop}{d:DefRec}
  (hn:l.most=a4 n) (hdf:d.params.defaults=[])
  (call:∀(w:aA)(s₀ s₁:ah)(mg mb:k80)(fa:ae)(o:cb)(pm cd doc:aa)(a:ae) (vs:List aa) (ns:List Int),
   Ground q loose [] XP w s₀ mg mb s₁.heap->YP w s₁.heap ->
   s₁.heap.get? fa=a4 o->o.data=.func (docDef d.name d.params d.body d.scope pm cd doc)->s₁.heap.CodeRec cd d.name->mg d.name=a4 (.ref fa) ->
   s₁.heap.get? a=a4 { cls:=.type "list",data:=.seq vs.toArray }->gz vs ns->ns.length<=n->s₁.gens = #[] ->
   c9 (ay l.prog w) fO (.call (.ref fa) ⟨[.ref a],[]⟩) (λr s'=>r=.ok (.ret (.bool a6))/\OldK s₁.heap s'.heap/\s'.os=s₁.os/\dw s'.gens) s₁) :
  i3 q loose XP YP l.row.toRowW d [] (λf vs=>i6 f vs):=by
 intro w s₀ s₁ mg mb G Y fa o pm cd doc dV kV ho hd hcd hD hmg hg args vals as hpre hlay hrd hwl hlo;obtain rfl:dV=.none:=Dflts.none hD hdf;obtain rfl:kV=.none:=Dflts.noKw hD;obtain⟨a,vs,ns,rfl,rfl,hobj,hints,hlen⟩:=j45 hn hpre hwl;refine enter_call (bU (call w s₀ s₁ mg mb fa o pm cd doc a vs ns G Y ho (fd_plain hd) hcd hmg hobj hints hlen hg) λr s' hq=>?_);obtain⟨rfl,h2,h3,h4⟩:=hq;exact⟨.inl ⟨.bool a6,.bool a6,[],rfl,λ_=>rfl,.bool a6,j4d l _,λ_=>⟨List.Pairwise.nil,λ_ hm=>(nomatch hm)⟩⟩,h2,h3,h4⟩
end Att
namespace L2
open PySem PySem.Spec PyProof.Rows
theorem De:∀{vs:List aa}{ns:List Int},gz vs ns->Vals (ns.map V.int) vs
 |_,_,.nil=>.nil
 |_,_,.cons n t h=>.cons ⟨t,rfl⟩ (De h)
def Only(ts:List (ae×af))(H:Hp):Prop:=(∀b,H b=a7\/(∃o xs,H b=a4 (.frz o (.lst xs)))\/∃q,(b,q)∈ts/\H b=a4 (.cod q))/\∀t∈ts,H t.1=a4 (.cod t.2)
def j9i(ts:List (ae×af))(h:aE):Prop:=(ts.map (·.1)).Nodup/\∀t∈ts,(∃c,PySem.W.CodeHd h c t.1)/\h.get? t.1=a4 (W.tabObj #[])
theorem j0z:∀{ts:List (ae×af)} {b:ae} {q:af},ts.lookup b=a4 q->(b,q)∈ts
 |p::r,b,q,h=>by
  rw[Xn]at h;cases e:b==p.1 with
  |true=>rw[e]at h;cases h;rw[beq_iff_eq.mp e];exact xq ..
  |false=>rw[e]at h;exact xg _ (j0z h)
theorem lookup_tab:∀{ts:List (ae×af)},(ts.map (·.1)).Nodup->∀t∈ts,ts.lookup t.1=a4 t.2
 |[],_,_,h=>by cases h
 |p::r,nd,t,ht=>by
  rw[X3]at nd;rcases xn.mp ht with e|ht
  .subst e;rw[Xn,beq_self_eq_true]
  .have ne:(t.1==p.1)=a5:=beq_eq_false_iff_ne.mpr λz=>(Xq.mp nd).1 (z▸i8 ht);rw[Xn,ne];exact lookup_tab (Xq.mp nd).2 t ht
theorem j7o{P:ar}{w:aA}{K:k7x}{mg mb:k80}{CX:CXT}{k:Nat}{fa a:ae}{fd:aG}{x:af}{sp:Sp}{s₁:ah}{vs:List aa}{ns:List Int}{ts:List (ae×af)}
  (KX:K.In s₁.heap) (hns:s₁.heap.Ns aq mg) (hb:s₁.heap.Ns dk mb) (hbb:∀x:af,x ≠ "__name__"->mb x=b0 x) (hlim:s₁.heap.NoLimit)
  (hbm:∃bm ob,mg "__builtins__" = a4 (.ref bm)/\bm≠dk/\s₁.heap.get? bm=a4 ob/\ob.cls=.type "module"/\ob.dict=a4 dk/\ob.data=.plain) (hT:j9i ts s₁.heap) (hK0:W.noTabs K=a6) (hg:s₁.gens = #[])
  (ha:s₁.heap.get? a=a4 { cls:=.type "list",data:=.seq vs.toArray }) (hi:gz vs ns) (hl:ns.length<=ak) (hr:Room k fO)
  (F:∀base:aE,K.In base->base.Ns aq mg->FnOk P w K mg base CX k fa fd [x] sp) (hbind:∀(s:ah)(u:aa),fR s fd ⟨[u],[]⟩ [(x,u)])
  (hsp:∀H:Hp,Only ts H->SqL K H a (ns.map V.int)->sp [.ref a] H (λv H'=>v=.bl a6/\∀b o,H b=a4 o->H' b=a4 o) λ_ _ _=>False)
  (hCX:∀H e s',CX [] H s₁ (λ_ _ _=>False) e s'->False) :
  c9 (ay P w) fO (.call (.ref fa) ⟨[.ref a],[]⟩) (λr s'=>r=.ok (.ret (.bool a6))/\OldK s₁.heap s'.heap/\s'.os=s₁.os/\dw s'.gens) s₁:=by
 have rv:=De hi;have lenV:=hi.length;have at_:∀{q:af}{b:ae},(b,q)∈ts->s₁.heap.get? b=a4 (W.tabObj #[]):=λ{q b} h=>(hT.2 _ h).2;have core:∀H:Hp,Only ts H->SqL K H a (ns.map V.int)->HOk P w H s₁.heap->(∀b,H b≠a7->b=a\/∃q,(b,q)∈ts)->(H a≠a7->K.lookup a=a7) ->
   c9 (ay P w) fO (.call (.ref fa) ⟨[.ref a],[]⟩) (λr s'=>r=.ok (.ret (.bool a6))/\OldK s₁.heap s'.heap/\s'.os=s₁.os/\dw s'.gens) s₁:=by
  intro H hO hS hok hA hK;have base_of:∀{b:ae}{o:cb},s₁.heap.get? b=a4 o->H b=a7->(Uh s₁.heap H).get? b=a4 o:=λe n=>j89 e n;have noA:∀{b:ae}{o:cb},s₁.heap.get? b=a4 o->(∀vs n,o.data≠.seq vs n)->(∀vs,o.data≠.fields vs)->H b=a7:=λ{b o} e d d2=>by
   cases q:H b with
   |none=>rfl
   |some u =>
    rcases hA b (by rw[q];simp)with e'|⟨q',e'⟩
    .subst e';rw[ha]at e;cases e;exact absurd rfl (d _ _)
    .rw[at_ e']at e;cases e;exact absurd rfl (d2 _)
  have nsK:∀{b:ae}{m:k80},s₁.heap.Ns b m->(Uh s₁.heap H).Ns b m:=λ{b m} ⟨o,es,ep,e,d,r⟩=>⟨o,es,ep,base_of e (noA e (λ_ _ z=>by rw[d]at z;cases z) λ_ z=>by rw[d]at z;cases z),d,r⟩
  have hKb:K.In (Uh s₁.heap H):=λb o e=>base_of (KX b o e) (by
   cases q:H b with
   |none=>rfl
   |some u =>
    rcases hA b (by rw[q];simp)with e'|⟨q',e'⟩
    .subst e'
     rw[hK (by rw[q];simp)]at e;cases e
    .have e2:=KX b o e
     rw[at_ e']at e2
     have h2:=Xy.mp hK0 (b,o) (W.mem_of_lookupK e)
     cases e2
     exact absurd (show a5=a6 from h2) xm)
  have hM:Mod K mg (Uh s₁.heap H):=⟨hKb,nsK hns,⟨mb,nsK hb,hbb⟩,(let ⟨mc,h1,h2⟩:=hlim;⟨mc,nsK h1,h2⟩),
   let ⟨bm,ob,b1,b2,b3,b4,b5,b6⟩:=hbm;⟨bm,ob,b1,b2,base_of b3 (noA b3 (λ_ _ z=>by rw[b6]at z;cases z) λ_ z=>by rw[b6]at z;cases z),b4,b5,b6⟩⟩
  have e0:Env0 P w K mg (Uh s₁.heap H) fO [] s₁ H:=⟨rfl,hM,λb o e=>jbx e,Nat.le_of_eq (j5d _ _),trivial,λb hb=>absurd (show b∈([]:List ae)from hb) (by simp),hok,.of_eq hg⟩
  refine bU ((F _ hKb (nsK hns)).run fO [] s₁ H ⟨[.ref a],[]⟩ [.ref a] [.ref a] _ _ hr e0 (hbind s₁ (.ref a)) (.cons rfl .nil) (hsp H hO hS)) λr s' h=>?_;cases r with
  |error e=>exact(hCX H e s' h).elim
  |ok fl =>
   cases fl with
   |next=>exact aS h
   |brk=>exact aS h
   |cont=>exact aS h
   |ret u =>
    obtain⟨v,H',os,bare,un,hok',r',q,sm⟩:=h;have q':v=.bl a6:=q;subst q';obtain rfl:u=bI a6:=r';have main:∀b o,s₁.heap.get? b=a4 o->s'.heap.get? b=a4 o\/((∃q,(b,q)∈ts)/\o=W.tabObj #[]/\∃ps,s'.heap.get? b=a4 (W.tabObj ps)):=λb o e=>by
     cases q:H b with
     |none=>exact .inl (un.keep b o e q (by intro z;exact absurd (show b∈([]:List ae)from z) (by simp)) (by simp))
     |some u =>
      rcases hO.1 b with z|⟨ob,xs,z⟩|⟨q',hq,z⟩
      .rw[q]at z;cases z
      .have z2:=un.frzs b ob _ z;obtain⟨e1,_⟩:=hok b _ z;obtain⟨e2,_⟩:=hok' b _ z2;rw[e]at e1;cases e1;exact .inl e2
      .obtain⟨ps,e2,_⟩:=(show jk P w H' s'.heap b (.cod q')from hok' b _ (sm b _ z))
       rw[at_ hq]at e;exact .inr ⟨⟨q',hq⟩,(aw e).symm,ps,e2⟩
    refine⟨rfl,⟨λb o e=>?_,λb o e=>?_⟩,os,bare⟩
    .rcases main b o e with z|⟨⟨q,hq⟩,rfl,ps,z⟩
     .exact .inl z
     .obtain⟨c,hc⟩:=(hT.2 _ hq).1;exact .inr (.inl ⟨(hc.tab (at_ hq)).isCodeTable,rfl,#[],ps,rfl,by rw[z,Array.empty_append]⟩)
    .rcases main b o e with z|⟨_,_,ps,z⟩
     .exact⟨o,z⟩
     .exact⟨_,z⟩
 have lkT:∀b q,ts.lookup b=a4 q->(b,q)∈ts:=λb q h=>j0z h;have ofT:∀t∈ts,ts.lookup t.1=a4 t.2:=lookup_tab hT.1;have okT:∀(H:Hp) b q,(b,q)∈ts->jk P w H s₁.heap b (.cod q):=λH b q h=>⟨#[],at_ h,trivial,λpos cv z=>by cases z⟩
 cases hk:K.lookup a with
 |some o =>
  have e:=KX a o hk;rw[ha]at e;cases e;refine core (λb=>(ts.lookup b).map HO.cod) ⟨λb=>?_,λt ht=>by show(ts.lookup t.1).map HO.cod=_;rw[ofT t ht];rfl⟩ (.inr ⟨_,vs.toArray,_,hk,rfl,rfl,rfl,by rw[xu,lenV];exact hl,by simpa using rv⟩) (λb u z=>?_) (λb z=>?_) λz=>?_
  .cases e:ts.lookup b with
   |none=>exact .inl (by show(ts.lookup b).map HO.cod=_;rw[e];rfl)
   |some q=>exact .inr (.inr ⟨q,lkT b q e,by show(ts.lookup b).map HO.cod=_;rw[e];rfl⟩)
  .obtain⟨q,e,rfl⟩:=T4.mp z;exact okT _ b q (lkT b q e)
  .cases e:ts.lookup b with
   |none=>exact absurd (by show(ts.lookup b).map HO.cod=_;rw[e];rfl) z
   |some q=>exact .inr ⟨q,lkT b q e⟩
  .cases e:ts.lookup a with
   |none=>exact absurd (by show(ts.lookup a).map HO.cod=_;rw[e];rfl) z
   |some q=>have:=at_ (lkT a q e);rw[ha]at this;cases this
 |none =>
  have na:∀q,(a,q)∉ts:=λq h=>by have:=at_ h;rw[ha]at this;cases this
  refine core (λb=>if b=a then a4 (.frz { cls:=.type "list",data:=.seq vs.toArray } (.lst (ns.map V.int))) else(ts.lookup b).map HO.cod) ⟨λb=>?_,λt ht=>?_⟩ (.inl (.inr ⟨{ cls:=.type "list",data:=.seq vs.toArray },if_pos rfl⟩)) (λb u z=>?_) (λb z=>?_) λ_=>hk
  .by_cases hb:b=a
   .exact .inr (.inl ⟨_,_,if_pos hb⟩)
   .cases e:ts.lookup b with
    |none=>exact .inl (by show(if b=a then _ else _)=_;rw[if_neg hb,e];rfl)
    |some q=>exact .inr (.inr ⟨q,lkT b q e,by show(if b=a then _ else _)=_;rw[if_neg hb,e];rfl⟩)
  .have nb:t.1≠a:=λz=>na t.2 (z▸ht);show(if t.1=a then _ else _)=_;rw[if_neg nb,ofT t ht];rfl
  .by_cases hb:b=a
   .have z':=(if_pos hb).symm.trans z;cases z';subst hb;exact⟨ha,by rw[xj];exact hl,vs,_,rv,ha⟩
   .have z':=(if_neg hb).symm.trans z;obtain⟨q,e,rfl⟩:=T4.mp z';exact okT _ b q (lkT b q e)
  .by_cases hb:b=a
   .exact .inl hb
   .cases e:ts.lookup b with
    |none=>exact absurd (by show(if b=a then _ else _)=_;rw[if_neg hb,e];rfl) z
    |some q=>exact .inr ⟨q,lkT b q e⟩
theorem walk_of{l:d9}{n k:Nat}{q:ar}{loose:List af}{XP:(af->Option aa)->aE->Prop}{YP:aA->aE->Prop}{d:DefRec}{K:lD->k7x}{CX:aA->CXT}{sp:aA->Sp}{x:af}{ts:aA->List (ae×af)}
  (hn:l.most=a4 n) (hn2:n<=ak) (hdf:d.params.defaults=[]) (hr:Room k fO)
  (hY:∀(w:aA)(h:aE),YP w h->(K w.params).In h/\j9i (ts w) h) (hK0:∀w:aA,W.noTabs (K w.params)=a6)
  (F:∀(w:aA)(mg:k80)(fa:ae)(h:aE),(K w.params).In h->h.Ns aq mg->mg d.name=a4 (.ref fa) ->
   ∃fd:aG,(∀(s:ah)(u:aa),fR s fd ⟨[u],[]⟩ [(x,u)]) /\
    ∀base:aE,(K w.params).In base->base.Ns aq mg->FnOk l.prog w (K w.params) mg base (CX w) k fa fd [x] (sp w))
  (hsp:∀(w:aA)(H:Hp)(a:ae)(ns:List Int),ns.length<=n->Only (ts w) H->SqL (K w.params) H a (ns.map V.int)->sp w [.ref a] H (λv H'=>v=.bl a6/\∀b o,H b=a4 o->H' b=a4 o) λ_ _ _=>False)
  (hCX:∀(w:aA)(H:Hp)(s:ah)(e:aa)(s':ah),CX w [] H s (λ_ _ _=>False) e s'->False) :
  i3 q loose XP YP l.row.toRowW d [] (λf vs=>i6 f vs):=by
 refine Att.attach_call hn hdf λw s₀ s₁ mg mb fa o pm cd doc a vs ns G Y ho hd hcd hmg hobj hints hlen hg=>?_;obtain⟨KX,hT⟩:=hY w _ Y;obtain⟨fd,hb,hF⟩:=F w mg fa _ KX G.T.g hmg;exact j7o KX G.T.g G.T.b G.T.builtins G.T.nolimit G.T.bmain hT (hK0 w) hg hobj hints (Xf hlen hn2) hr hF hb (λH hO hS=>hsp w H a ns hlen hO hS) λH e s'=>hCX w H s₁ e s'
end L2
/- THE LAST THEOREM (shape;LID,My.* are yours):
 My.Adr: a structure of the addresses that your layer names (classes,functions);My.Txt K t: a structure (Prop) of the equations over K;
 My.txt_mk:{K} {implicit addresses ..} (e1:fD K aq "law" = a4 (a4 (.ref f))) (e2:K.lookup f=a4 ⟨oc,od,.func (iw "law" "law" params body scope dV kV doc pm an cdv ct),sl⟩) (e3:codeIn K cdv "law" = a6) ..:∃t,My.Txt K t
(the tactic k_is has no namespace: write k_is) -/
namespace L2
open PySem PySem.Spec PyProof.Rows
noncomputable def ql(s:aJ):ij:=match s with
 |.FunctionDef _ a _ _ _ _ _ _ _ _=>a
 |_=>{ posonlyargs:=[],args:=[],vararg:=a7,kwonlyargs:=[],kw_defaults:=[],kwarg:=a7,defaults:=[] }
noncomputable def jb(s:aJ):List aJ:=match s with
 |.FunctionDef _ _ b _ _ _ _ _ _ _=>b
 |_=>[]
noncomputable def j0(s:aJ):b8:=match s with
 |.FunctionDef _ _ _ _ _ _ sc _ _ _=>sc
 |_=>{ kind:=.function,names:=[],isGenerator:=a5,isCoroutine:=a5 }
noncomputable abbrev CX0:CXT:=λ_ _ _ _ _ _=>False
noncomputable abbrev E0:XK:=λ_ _ _=>False
theorem Oj{X:Cx}:j0d CX0 X E0:=λ_ _ _ _ _ _ _ h=>h.elim
structure Fun(K:k7x)(x qual:af)(st:aJ)(f:ae)(fd:aG):Prop where
 ex:∃(oc:aa)(od:Option ae)(dV kV doc pm:aa)(an:Option ae)(cdv ct:aa)(osl:Array (Option aa)),
  fd=W.fnOf x qual (ql st) (jb st) (j0 st) dV kV doc pm an cdv ct/\K.lookup f=a4 ⟨oc,od,.func fd,osl⟩/\W.codeIn K cdv qual=a6
 kp:W.keepIn K (.ref f)=a6
section
variable{P:ar}{w:aA}{K:k7x}{mg:k80}{base:aE}
theorem Fun.binds{x qual:af}{st:aJ}{f:ae}{kV doc pm:aa}{an:Option ae}{cdv ct:aa}{ps:List af}(F:Fun K x qual st f (W.fnOf x qual (ql st) (jb st) (j0 st) .none kV doc pm an cdv ct))
  (h:∀(kV doc pm:aa)(an:Option ae)(cdv ct:aa)(us:List aa),us.length=ps.length->bZ (W.fnOf x qual (ql st) (jb st) (j0 st) .none kV doc pm an cdv ct) ⟨us,[]⟩=pure (ps.zip us)):Binds K (W.fnOf x qual (ql st) (jb st) (j0 st) .none kV doc pm an cdv ct) ps []:=.all (h kV doc pm an cdv ct)
theorem Yy{x qual:af}{st:aJ}{f:ae}{oc:aa}{od an:Option ae}{osl:Array (Option aa)}{dV kV doc pm cdv ct:aa}(l:K.lookup f=a4 ⟨oc,od,.func (W.fnOf x qual (ql st) (jb st) (j0 st) dV kV doc pm an cdv ct),osl⟩)
  (c:W.codeIn K cdv qual=a6) (k:W.keepIn K (.ref f)=a6):Fun K x qual st f (W.fnOf x qual (ql st) (jb st) (j0 st) dV kV doc pm an cdv ct):=⟨⟨oc,od,dV,kV,doc,pm,an,cdv,ct,osl,rfl,l,c⟩,k⟩
end
theorem Nx{A B:Prop}(h:B):if a5=a6 then A else B:=by rw[if_neg xm];exact h
theorem Ei{A B:Prop}(h:A):if a6=a6 then A else B:=by rw[if_pos rfl];exact h
def j4(H H':Hp):Prop:=∀b o,H b=a4 o->H' b=a4 o
theorem j4.refl(H:Hp):j4 H H:=λ_ _ h=>h
theorem j4.trans{H H1 H2:Hp}(a:j4 H H1)(b:j4 H1 H2):j4 H H2:=λc o h=>b c o (a c o h)
theorem j4.free{H H':Hp}(e:j4 H H'){l:ae}(h:H' l=a7):H l=a7:=by
 cases q:H l with
 |none=>rfl
 |some o =>rw[e l o q]at h;cases h
theorem j4.seq{K:k7x}{H H':Hp}{a:ae}{xs:List V}(e:j4 H H')(h:SqL K H a xs):SqL K H' a xs:=by
 rcases h with (h|⟨o,h⟩)|h
 .exact .inl (.inl (e _ _ h))
 .exact .inl (.inr ⟨o,e _ _ h⟩)
 .exact .inr h
set_option genInjectivity true in
inductive D where
 |non
 |bl (b:Bool)
 |int (i:Int)
 |str (x:af)
 |tup (ds:List D)
 |lst (ds:List D)
 |dct (ks:List (List Int)) (ds:List D)
 |sct (kvs:List (af×Int))
 |fn (x:af) (cs:List D)
noncomputable def kvI(kvs:List (af×Int)):List (Key×V):=kvs.map λp=>(.inr p.1,.int p.2)
noncomputable def zc(x:af):af:=x ++ ".<locals>." ++ "<lambda>"
noncomputable abbrev Tx:=ij×ai×b8
noncomputable def jl8:ai->Option Tx
 |.Lambda a b sc _=>a4 (a,b,sc)
 |.Call _ es _ _=>match es.getLast? with
  |some (.Lambda a b sc _)=>a4 (a,b,sc)
  |_=>a7
 |_=>a7
noncomputable def jfu(b:List aJ):Option Tx:=match b.getLast? with
 |some (.Return (a4 e) _)=>jl8 e
 |_=>a7
noncomputable def j2y(K:k7x)(x:af):Option Tx:=match W.nsIn K aq x with
 |some (a4 (.ref f))=>match K.lookup f with
  |some ⟨_,_,.func fd,_⟩=>match fd.body with
   |.stmts b=>jfu b
   |_=>a7
  |_=>a7
 |_=>a7
noncomputable def Zx(sc:b8):List af:=((sc.names.filter λp=>p.2==.free).map (·.1)).reverse
def J0(H:Hp):List ae->List V->Prop
 |[],vs=>vs=[]
 |c::cs,vs=>∃v r o u,vs=v::r/\H c=a4 (.frz o (.own 0))/\o.data=.cell (a4 u)/\RelV v u/\J0 H cs r
theorem J0.mono{H H':Hp}(g:j4 H H'):∀{cs:List ae}{vs:List V},J0 H cs vs->J0 H' cs vs
 |[],_,h=>h
 |_::_,_,⟨v,r,o,u,e,h,d,rv,l⟩=>⟨v,r,o,u,e,g _ _ h,d,rv,l.mono g⟩
structure LamAt(K:k7x)(H:Hp)(x:af)(a c:ae)(t:Tx)(cl:List (af×ae))(vs:List V):Prop where
 tx:j2y K x=a4 t
 fo:∃pm ctv,H a=a4 (.frz (W.kla_obj "<lambda>" (zc x) t.1 t.2.1 t.2.2 cl pm c ctv) (.own 0))
 co:∃oc,H c=a4 (.frz oc (.own 0))/\j3k oc (zc x)
 nm:cl.map (·.1)=Zx t.2.2
 nd:(cl.map (·.2)).Nodup
 cs:J0 H (cl.map (·.2)) vs
theorem LamAt.mono{K:k7x}{H H':Hp}{x:af}{a c:ae}{tx:Tx}{cl:List (af×ae)}{vs:List V}(g:j4 H H')(h:LamAt K H x a c tx cl vs):LamAt K H' x a c tx cl vs :=
 ⟨h.tx,let ⟨pm,ctv,e⟩:=h.fo;⟨pm,ctv,g _ _ e⟩,let ⟨oc,e,q⟩:=h.co;⟨oc,g _ _ e,q⟩,h.nm,h.nd,h.cs.mono g⟩
noncomputable def del(H:Hp)(A:List ae):Hp:=λb=>if b∈A then a7 else H b
section
variable{H H' F:Hp}{A A':List ae}{a b:ae}{o:HO}
theorem z9(h:b∈A):del H A b=a7:=if_pos h
theorem j7(h:b∉A):del H A b=H b:=if_neg h
theorem of_del(h:del H A b=a4 o):b∉A/\H b=a4 o:=by
 by_cases e:b∈A
 .rw[z9 e]at h;cases h
 .rw[j7 e]at h;exact⟨e,h⟩
theorem jf(g:j4 H H'):j4 (del H A) (del H' A):=λb o h=>by obtain⟨n,e⟩:=of_del h;rw[j7 n];exact g b o e
end
theorem j4.seqT{K:k7x}{H H':Hp}{a:ae}{xs:List V}(e:j4 H H')(h:SqT K H a xs):SqT K H' a xs:=by
 rcases h with (h|⟨o,h⟩)|h
 .exact .inl (.inl (e _ _ h))
 .exact .inl (.inr ⟨o,e _ _ h⟩)
 .exact .inr h
mutual
def Enc(K:k7x)(H:Hp):D->V->Prop
 |.non,v=>v=.non
 |.bl b,v=>v=.bl b
 |.int i,v=>v=.int i
 |.str x,v=>v=.str x
 |.tup ds,v=>∃a xs,v=.ref a/\SqT K H a xs/\j5 K H ds xs
 |.lst ds,v=>∃a xs,v=.ref a/\SqL K H a xs/\j5 K H ds xs
 |.dct ks ds,v=>∃(a:ae)(xs:List (List Int×ae×aa)) (ep:Nat) (vs:List V),v=.ref a/\H a=a4 (.dI xs ep)/\ks=(xs.map λx=>x.1)/\(∀x∈xs,SqT K H x.2.1 (x.1.map V.int))/\Vals vs (xs.map λx=>x.2.2)/\j5 K H ds vs
 |.sct kvs,v=>∃a:ae,v=.ref a/\H a=a4 (.dK (kvI kvs))
 |.fn x ds,v=>∃(a c:ae)(tx:Tx)(cl:List (af×ae)) (vs:List V),v=.ref a/\LamAt K H x a c tx cl vs/\j5 K (del H (cl.map (·.2))) ds vs
def j5(K:k7x)(H:Hp):List D->List V->Prop
 |[],xs=>xs=[]
 |d::ds,xs=>∃x r,xs=x::r/\Enc K H d x/\j5 K H ds r
end
mutual
theorem Enc.mono{K:k7x}{H H':Hp}(g:j4 H H'):∀{d:D}{v:V},Enc K H d v->Enc K H' d v
 |.non,_,h=>h
 |.bl _,_,h=>h
 |.int _,_,h=>h
 |.str _,_,h=>h
 |.tup _,_,⟨a,xs,e,q,l⟩=>⟨a,xs,e,g.seqT q,j5.mono g l⟩
 |.lst _,_,⟨a,xs,e,q,l⟩=>⟨a,xs,e,g.seq q,j5.mono g l⟩
 |.dct _ _,_,⟨a,xs,ep,vs,e,q,ek,kt,rv,l⟩=>⟨a,xs,ep,vs,e,g _ _ q,ek,λx hx=>g.seqT (kt x hx),rv,j5.mono g l⟩
 |.sct _,_,⟨a,e,q⟩=>⟨a,e,g _ _ q⟩
 |.fn _ _,_,⟨a,c,tx,cl,vs,e,q,l⟩=>⟨a,c,tx,cl,vs,e,q.mono g,j5.mono (jf g) l⟩
theorem j5.mono{K:k7x}{H H':Hp}(g:j4 H H'):∀{ds:List D}{xs:List V},j5 K H ds xs->j5 K H' ds xs
 |[],_,h=>h
 |_::_,_,⟨x,r,e,h,l⟩=>⟨x,r,e,Enc.mono g h,j5.mono g l⟩
end
section
variable{K:k7x}{H H':Hp}{ds ds':List D}{xs ys:List V}
theorem j5.length:∀{ds:List D}{xs:List V},j5 K H ds xs->xs.length=ds.length
 |[],_,h=>by cases h;rfl
 |_::_,_,⟨x,r,e,_,l⟩=>by subst e;simp[j5.length l]
theorem j5.get:∀{ds:List D}{xs:List V}{i:Nat}{d:D},j5 K H ds xs->ds[i]?=a4 d->∃x,xs[i]?=a4 x/\Enc K H d x
 |[],_,i,d,_,e=>by simp at e
 |_::_,_,0,d,⟨x,r,e,h,_⟩,q=>by subst e;simp at q;subst q;exact⟨x,rfl,h⟩
 |_::_,_,i+1,d,⟨x,r,e,_,l⟩,q=>by subst e;simp at q;obtain⟨y,hy,hd⟩:=j5.get l q;exact⟨y,by simpa using hy,hd⟩
theorem j5.append:∀{ds ds':List D}{xs ys:List V},j5 K H ds xs->j5 K H ds' ys->j5 K H (ds++ds') (xs++ys)
 |[],_,_,_,h,h'=>by cases h;exact h'
 |_::_,_,_,_,⟨x,r,e,h,l⟩,h'=>by subst e;exact⟨x,_,rfl,h,j5.append l h'⟩
theorem j5.one{d:D}{x:V}(h:Enc K H d x):j5 K H [d] [x]:=⟨x,[],rfl,h,rfl⟩
theorem j5.set:∀{ds:List D}{xs:List V}{i:Nat}{d:D}{x:V},j5 K H ds xs->Enc K H d x->j5 K H (ds.set i d) (xs.set i x)
 |[],_,i,d,x,h,_=>by cases h;exact rfl
 |_::_,_,0,d,y,⟨x,r,e,h,l⟩,q=>by subst e;exact⟨y,r,rfl,q,l⟩
 |_::_,_,i+1,d,y,⟨x,r,e,h,l⟩,q=>by subst e;exact⟨x,_,rfl,h,j5.set l q⟩
theorem j5.take:∀{ds:List D}{xs:List V}(n:Nat),j5 K H ds xs->j5 K H (ds.take n) (xs.take n)
 |[],_,n,h=>by cases h;simp;exact rfl
 |_::_,_,0,⟨x,r,e,h,l⟩=>by simp;exact rfl
 |_::_,_,n+1,⟨x,r,e,h,l⟩=>by subst e;exact⟨x,_,rfl,h,j5.take n l⟩
theorem j5.drop:∀{ds:List D}{xs:List V}(n:Nat),j5 K H ds xs->j5 K H (ds.drop n) (xs.drop n)
 |[],_,n,h=>by cases h;simp;exact rfl
 |_::_,_,0,h=>h
 |_::_,_,n+1,⟨x,r,e,h,l⟩=>by subst e;exact j5.drop n l
theorem j5.rep{ds:List D}{xs:List V}(h:j5 K H ds xs):∀k:Nat,j5 K H (ao k ds).flatten (ao k xs).flatten
 |0=>rfl
 |k+1=>by rw[Ph,Ph,Te,Te];exact h.append (j5.rep h k)
theorem j5.ints(ns:List Int):j5 K H (ns.map D.int) (ns.map V.int):=by
 induction ns with
 |nil=>exact rfl
 |cons n ns ih=>exact⟨_,_,rfl,rfl,ih⟩
end
section
variable{H H' F:Hp}{A A':List ae}{a b:ae}{o:HO}
theorem v8:del H []=H:=funext λb=>if_neg (by simp)
theorem q8:j4 (del H A) H:=λ_ _ h=>(of_del h).2
theorem zy(h:∀b,b∈A'->b∈A):j4 (del H A) (del H A'):=λb o e=>by obtain⟨n,e⟩:=of_del e;rw[j7 λz=>n (h b z)];exact e
theorem Vi(h:a∈A):del (upd H a o) A=del H A:=funext λb=>by
 by_cases e:b∈A
 .rw[z9 e,z9 e]
 .rw[j7 e,j7 e,je];rintro rfl;exact e h
noncomputable def mrg(A:List ae)(H F:Hp):Hp:=λb=>if b∈A then H b else F b
theorem J3(h:b∈A):mrg A H F b=H b:=if_pos h
theorem jg(h:b∉A):mrg A H F b=F b:=if_neg h
theorem Qp(h:∀a∈A,F a=a7):del (mrg A H F) A=F:=funext λb=>by
 by_cases e:b∈A
 .rw[z9 e,h b e]
 .rw[j7 e,jg e]
theorem Mg(g:j4 (del H A) F):j4 H (mrg A H F):=λb o e=>by
 by_cases z:b∈A
 .rw[J3 z];exact e
 .rw[jg z];exact g b o (by rw[j7 z];exact e)
theorem j8(h:H a=a7):j4 H (upd H a o):=λb u q=>by rw[je (Ja q h)];exact q
end
def Hd(o:Option HO):Prop:=(∃xs,o=a4 (.lst xs))\/∃xs ep,o=a4 (.dI xs ep)
def Hq(o:Option HO):Prop:=(∃xs,o=a4 (.lst xs))\/(∃xs ep,o=a4 (.dI xs ep))\/∃kvs,o=a4 (.dK kvs)
theorem Hd.q{o:Option HO}(h:Hd o):Hq o:=h.elim .inl λh=>.inr (.inl h)
section
variable{X:Cx}{pins:k7z}{σ σ':St}{H F:Hp}{s s':ah}{A:List ae}
theorem Inv.noFs(I:Inv X pins σ H s){b:ae}(hb:b∈X.fs):H b=a7:=by
 have q:b∈frs X.stack:=by
  rcases I.ok.stk with e|⟨e,_⟩
  .rw[e];exact hb
  .rw[e];have hb:b∈frs X.outer:=hb;unfold frs at hb ⊢;rw[bT];split
   .exact hb
   .exact xg _ hb
 exact I.stkFree b q
theorem Inv.hideQ(I:Inv X pins σ H s)(hA:∀a∈A,Hq (H a)):Inv X (pins++Qu A s.heap) σ (del H A) s where
 ok:=I.ok
 os:=I.os
 bare:=I.bare
 base:={
  keep:=I.base.keep
  slot:=I.base.slot
  free:=λb o e n hx=>by
   have q:=I.base.free b o e n hx
   by_cases z:b∈A
   .exact z9 z
   .rw[j7 z];exact q
  there:=I.base.there
  tups:=λb xs e=>by
   have q:=I.base.tups b xs e
   rw[j7];exact q
   intro z;rcases hA b z with ⟨ys,e'⟩|⟨ys,ep,e'⟩|⟨ys,e'⟩<;>(rw[q]at e';cases e')
  frzs:=λb o u e=>by
   have q:=I.base.frzs b o u e
   rw[j7];exact q
   intro z;rcases hA b z with ⟨ys,e'⟩|⟨ys,ep,e'⟩|⟨ys,e'⟩<;>(rw[q]at e';cases e')
  tbls:=λb ps e=>by
   obtain⟨more,q⟩:=I.base.tbls b ps e
   refine⟨more,?_⟩
   rw[j7];exact q
   intro z;rcases hA b z with ⟨ys,e'⟩|⟨ys,ep,e'⟩|⟨ys,e'⟩<;>(rw[q]at e';cases e') }
 loc:=I.loc
 cell:=I.cell
 free:=by
  by_cases z:X.env.locals∈A
  .exact z9 z
  .rw[j7 z];exact I.free
 freeC:=λx c e=>by
  by_cases z:c∈A
  .exact z9 z
  .rw[j7 z];exact I.freeC x c e
 pin:=λp hp=>by
  rw[<-Tp]at hp;rcases ph.mp hp with hp|hp
  .obtain⟨h1,h2,h3⟩:=I.pin p hp;refine⟨h1,?_,h3⟩;by_cases z:p.1∈A
   .exact z9 z
   .rw[j7 z];exact h2
  .obtain⟨h1,h2⟩:=Dk hp;rcases hA _ h1 with ⟨xs,e⟩|⟨xs,ep,e⟩|⟨xs,e⟩
   .refine⟨h2,z9 h1,λz=>?_,λz=>?_,λv z=>?_⟩
    .rw[z,I.free]at e;cases e
    .rw[I.noFs z]at e;cases e
    .obtain⟨_,its,n,_,q⟩:=(show jk X.prog X.w H s.heap p.1 (.lst xs)from I.hok _ _ e)
     rw[h2]at q;rw[aw q]at z;cases z
   .refine⟨h2,z9 h1,λz=>?_,λz=>?_,λv z=>?_⟩
    .rw[z,I.free]at e;cases e
    .rw[I.noFs z]at e;cases e
    .obtain⟨_,_,_,ob,es,q,_,qd,_⟩:=(show jk X.prog X.w H s.heap p.1 (.dI xs ep)from I.hok _ _ e)
     rw[h2]at q;rw[aw q,qd]at z;cases z
   .refine⟨h2,z9 h1,λz=>?_,λz=>?_,λv z=>?_⟩
    .rw[z,I.free]at e;cases e
    .rw[I.noFs z]at e;cases e
    .obtain⟨_,_,vs,_,ob,es,ep,q,_,qd,_⟩:=(show jk X.prog X.w H s.heap p.1 (.dK xs)from I.hok _ _ e)
     rw[h2]at q;rw[aw q,qd]at z;cases z
 hok:=λa o e=>by
  obtain⟨n,e⟩:=of_del e;refine jk.stay (I.hok a o e) (λb u _ q=>q) (λb q=>?_) (λb xs q=>?_) (λb _ _ q=>?_)
  .rw[j7];exact q;intro z;rcases hA b z with ⟨ys,e'⟩|⟨ys,ep,e'⟩|⟨ys,e'⟩<;>(rw[q]at e';cases e')
  .rw[j7];exact q;intro z;rcases hA b z with ⟨ys,e'⟩|⟨ys,ep,e'⟩|⟨ys,e'⟩<;>(rw[q]at e';cases e')
  .rw[j7];exact q;intro z;rcases hA b z with ⟨ys,e'⟩|⟨ys,ep,e'⟩|⟨ys,e'⟩<;>(rw[q]at e';cases e')
 len:=I.len
theorem Inv.unhideQ(I0:Inv X pins σ H s)(hA:∀a∈A,Hq (H a))(I:Inv X (pins++Qu A s.heap) σ' F s') :
  (∀a∈A,F a=a7)/\Inv X pins σ' (mrg A H F) s':=by
 have pinned:∀a∈A,∃o,s.heap.get? a=a4 o/\s'.heap.get? a=a4 o/\F a=a7:=λa ha=>by
  have ob:∃o,s.heap.get? a=a4 o:=by
   rcases hA a ha with ⟨xs,e⟩|⟨xs,ep,e⟩|⟨xs,e⟩
   .obtain⟨_,its,n,_,q⟩:=(show jk X.prog X.w H s.heap a (.lst xs)from I0.hok _ _ e)
    exact⟨_,q⟩
   .obtain⟨_,_,_,o,es,q,_⟩:=(show jk X.prog X.w H s.heap a (.dI xs ep)from I0.hok _ _ e)
    exact⟨_,q⟩
   .obtain⟨_,_,_,_,o,es,ep,q,_⟩:=(show jk X.prog X.w H s.heap a (.dK xs)from I0.hok _ _ e)
    exact⟨_,q⟩
  obtain⟨o,q⟩:=ob;obtain⟨h1,h2,_⟩:=I.pin (a,_) (Xo _ (Xo _ (Qv ha q)));exact⟨_,q,h1,h2⟩
 have hF:∀a∈A,F a=a7:=λa ha=>let ⟨_,_,_,q⟩:=pinned a ha;q;have out:∀{b:ae}{o:HO},F b=a4 o->b∉A:=λ{b o} e z=>by rw[hF b z]at e;cases e
 refine⟨hF,?_⟩;exact{
  ok:=I.ok
  os:=I.os
  bare:=I.bare
  base:={
   keep:=I.base.keep
   slot:=I.base.slot
   free:=λb o e n hx=>by
    by_cases z:b∈A
    .rw[J3 z];exact I0.base.free b o e n hx
    .rw[jg z];exact I.base.free b o e n hx
   there:=I.base.there
   tups:=λb xs e=>by
    have q:=I.base.tups b xs e
    rw[jg (out q)];exact q
   frzs:=λb o u e=>by
    have q:=I.base.frzs b o u e
    rw[jg (out q)];exact q
   tbls:=λb ps e=>by
    obtain⟨more,q⟩:=I.base.tbls b ps e
    exact⟨more,by rw[jg (out q)];exact q⟩ }
  loc:=I.loc
  cell:=I.cell
  free:=by
   by_cases z:X.env.locals∈A
   .rw[J3 z];exact I0.free
   .rw[jg z];exact I.free
  freeC:=λx c e=>by
   by_cases z:c∈A
   .rw[J3 z];exact I0.freeC x c e
   .rw[jg z];exact I.freeC x c e
  pin:=λp hp=>by
   obtain⟨h1,h2,h3⟩:=I.pin p (by rw[<-Tp];exact Tc _ hp)
   refine⟨h1,?_,h3⟩
   by_cases z:p.1∈A
   .rw[J3 z];exact(I0.pin p hp).2.1
   .rw[jg z];exact h2
  hok:=λa o e=>by
   by_cases z:a∈A
   .rw[J3 z]at e
    obtain⟨o',q1,q2,_⟩:=pinned a z
    rcases hA a z with ⟨xs,e'⟩|⟨xs,ep,e'⟩|⟨xs,e'⟩
    .rw[e']at e;cases e
     obtain⟨hl,its,n,r,q⟩:=(show jk X.prog X.w H s.heap a (.lst xs)from I0.hok _ _ e')
     rw[q]at q1;cases q1
     exact⟨hl,its,n,r,q2⟩
    .rw[e']at e;cases e
     obtain⟨z1,z2,z3,ob,es,q,z4⟩:=(show jk X.prog X.w H s.heap a (.dI xs ep)from I0.hok _ _ e')
     rw[q]at q1;cases q1
     exact⟨z1,z2,z3,_,es,q2,z4⟩
    .rw[e']at e;cases e
     obtain⟨z1,z2,vs,z3,ob,es,ep,q,z4⟩:=(show jk X.prog X.w H s.heap a (.dK xs)from I0.hok _ _ e')
     rw[q]at q1;cases q1
     exact⟨z1,z2,vs,z3,_,es,ep,q2,z4⟩
   .rw[jg z]at e
    refine jk.stay (I.hok a o e) (λb u _ q=>q) (λb q=>?_) (λb xs q=>?_) (λb _ _ q=>?_)
    .rw[jg (out q)];exact q
    .rw[jg (out q)];exact q
    .rw[jg (out q)];exact q
  len:=I.len }
theorem Inv.hide(I:Inv X pins σ H s)(hA:∀a∈A,Hd (H a)):Inv X (pins++Qu A s.heap) σ (del H A) s:=I.hideQ λa h=>(hA a h).q
theorem Inv.unhide(I0:Inv X pins σ H s)(hA:∀a∈A,Hd (H a))(I:Inv X (pins++Qu A s.heap) σ' F s'):(∀a∈A,F a=a7)/\Inv X pins σ' (mrg A H F) s':=I0.unhideQ (λa h=>(hA a h).q) I
end
def Q0(X:Cx)(e:ai):TE:=λσ H Q=>∀pins s,Inv X pins σ H s->ax (ay X.prog X.w) X.A (az e X.env) (EP X pins σ Q) X.xe s
def Ku(X:Cx)(e:ai):TT:=λσ H Q=>∀pins s,Inv X pins σ H s->ax (ay X.prog X.w) X.A (ft e X.env (az e X.env)) (TP X pins σ Q) X.xe s
def W6(X:Cx)(es:List ai):TA:=λσ H Q=>∀pos pins s,Inv X pins σ H s->ax (ay X.prog X.w) X.A (spliced (aO pos (a8 es X.env))) (AP X pins σ Q) X.xe s
def j6w(X:Cx)(st:aJ):TS:=λD σ H=>∀pins s,Inv X pins σ H s->ax (ay X.prog X.w) X.A (exec st X.env) (SP X pins D) X.xe s
def Qd(X:Cx)(sts:List aJ):TS:=λD σ H=>∀pins s,Inv X pins σ H s->ax (ay X.prog X.w) X.A (execs sts X.env) (SP X pins D) X.xe s
def j6x(X:Cx)(tg iter:ai):TI:=λσ H R=>∀pins s,Inv X pins σ H s ->
 ax (ay X.prog X.w) X.A (az iter X.env) (λv s1=>ax (ay X.prog X.w) X.A (jK v) (PIE X pins σ tg R) X.xe s1) X.xe s
section
variable{X:Cx}{e tg:ai}{es:List ai}{st:aJ}{sts:List aJ}{σ:St}{H:Hp}
theorem peS:PE X e (Q0 X e):=λpins s _ _ _ I h=>h pins s I
theorem ptS:PT X e (Ku X e):=λpins s _ _ _ I h=>h pins s I
theorem paS:PA X es (W6 X es):=λpos pins s _ _ _ I h=>h pos pins s I
theorem psS:PS X st (j6w X st):=λpins s _ _ _ I h=>h pins s I
theorem Zc:PSs X sts (Qd X sts):=λpins s _ _ _ I h=>h pins s I
theorem piS:PI X tg e (j6x X tg e):=λpins s _ _ _ I h=>h pins s I
theorem PE.to{t:TE}(h:PE X e t){Q:VK}(q:t σ H Q):Q0 X e σ H Q:=λpins s I=>h pins s σ H Q I q
theorem PT.to{t:TT}(h:PT X e t){Q:Bool->Hp->Prop}(q:t σ H Q):Ku X e σ H Q:=λpins s I=>h pins s σ H Q I q
theorem PA.to{t:TA}(h:PA X es t){Q:List V->Hp->Prop}(q:t σ H Q):W6 X es σ H Q:=λpos pins s I=>h pos pins s σ H Q I q
theorem PS.to{t:TS}(h:PS X st t){D:Ends}(q:t D σ H):j6w X st D σ H:=λpins s I=>h pins s σ H D I q
theorem PSs.to{t:TS}(h:PSs X sts t){D:Ends}(q:t D σ H):Qd X sts D σ H:=λpins s I=>h pins s σ H D I q
theorem PI.to{t:TI}(h:PI X tg e t){R:It->Hp->Prop}(q:t σ H R):j6x X tg e σ H R:=λpins s I=>h pins s σ H R I q
end
inductive Sl where
 |un
 |val (d:D)
 |own (a:ae) (ds:List D)
 |raw (a:ae) (o:cb) (x:af)
noncomputable abbrev Rho:=List Sl
noncomputable def Sl.addr:Sl->Option ae
 |.own a _=>a4 a
 |_=>a7
noncomputable def owns(ρ:Rho):List ae:=ρ.filterMap Sl.addr
theorem Jh{ρ:Rho}{i:Nat}{a:ae}{ds:List D}(h:ρ[i]?=a4 (.own a ds)):a∈owns ρ:=t7.mpr ⟨_,Xl h,rfl⟩
theorem Zt{ρ:Rho}{a:ae}(h:a∈owns ρ):∃(i:Nat)(ds:List D),ρ[i]?=a4 (.own a ds):=by
 obtain⟨s,hs,e⟩:=t7.mp h;obtain⟨i,hi⟩:=List.mem_iff_getElem?.mp hs;cases s with
 |own b ds=>cases e;exact⟨i,ds,hi⟩
 |un=>cases e
 |val d=>cases e
 |raw b o x=>cases e
theorem jh(s:Sl)(ρ:Rho):owns (s::ρ)=(match s.addr with|some a=>a::owns ρ|none=>owns ρ):=by unfold owns;rw[bT];cases s.addr<;>rfl
theorem jc{s:Sl}(hs:s.addr=a7):∀{ρ:Rho}{i:Nat},(owns (ρ.set i s)).Sublist (owns ρ)
 |[],_=>List.Sublist.refl _
 |x::r,0=>by
  rw[Th,jh,jh,hs];cases x.addr with
  |none=>exact List.Sublist.refl _
  |some a=>exact List.sublist_cons_self _ _
 |x::r,i+1=>by
  rw[cQ,jh,jh];have ih:=jc hs (ρ:=r) (i:=i);cases x.addr with
  |none=>exact ih
  |some a=>exact ih.cons_cons a
theorem Jo{a:ae}{ds ds':List D}:∀{ρ:Rho}{i:Nat},ρ[i]?=a4 (.own a ds)->owns (ρ.set i (.own a ds'))=owns ρ
 |[],_,h=>by simp at h
 |x::r,0,h=>by simp at h;subst h;rw[Th,jh,jh];rfl
 |x::r,i+1,h=>by simp at h;rw[cQ,jh,jh,Jo h]
theorem Ru{s:Sl}(hs:s.addr=a7):∀{ρ:Rho}{i:Nat},(∀a l,ρ[i]?≠a4 (.own a l))->owns (ρ.set i s)=owns ρ
 |[],_,_=>rfl
 |x::r,0,h=>by
  rw[Th,jh,jh,hs];cases x with
  |own a l=>exact absurd rfl (h a l)
  |un=>rfl
  |val d=>rfl
  |raw a o x=>rfl
 |x::r,i+1,h=>by rw[cQ,jh,jh,Ru hs (λa l=>by simpa using h a l)]
theorem J2{a:ae}{ds:List D}:∀{ρ:Rho}{i:Nat},(owns ρ).Nodup->a∉owns ρ->(owns (ρ.set i (.own a ds))).Nodup/\∀b∈owns (ρ.set i (.own a ds)),b=a\/b∈owns ρ
 |[],_,n,_=>⟨n,λb hb=>.inr hb⟩
 |x::r,0,n,h=>by
  rw[Th,jh];rw[jh]at n h;have e:(Sl.own a ds).addr=a4 a:=rfl;rw[e];cases q:x.addr with
  |none =>rw[q]at n h;exact⟨Xq.mpr ⟨h,n⟩,λb hb=>(xn.mp hb).elim .inl λz=>.inr (by rw[jh,q];exact z)⟩
  |some c =>rw[q]at n h;exact⟨Xq.mpr ⟨λz=>h (xg _ z),(Xq.mp n).2⟩,λb hb=>(xn.mp hb).elim .inl λz=>.inr (by rw[jh,q];exact xg _ z)⟩
 |x::r,i+1,n,h=>by
  rw[cQ,jh];rw[jh]at n h;cases q:x.addr with
  |none =>rw[q]at n h;obtain⟨i1,i2⟩:=J2 (ds:=ds) (i:=i) n h;exact⟨i1,λb hb=>(i2 b hb).elim .inl λz=>.inr (by rw[jh,q];exact z)⟩
  |some c =>
   rw[q]at n h;obtain⟨n1,n2⟩:=Xq.mp n;obtain⟨i1,i2⟩:=J2 (ds:=ds) (i:=i) n2 (λz=>h (xg _ z));refine⟨Xq.mpr ⟨λz=>?_,i1⟩,λb hb=>?_⟩
   .rcases i2 c z with e|z
    .subst e;exact h (xq ..)
    .exact n1 z
   .rcases xn.mp hb with e|z
    .exact .inr (by rw[jh,q];exact e▸xq ..)
    .exact(i2 b z).elim .inl λz=>.inr (by rw[jh,q];exact xg _ z)
theorem Vn{a:ae}{l l':List D}:∀{ρ:Rho}{i j:Nat},(owns ρ).Nodup->ρ[i]?=a4 (.own a l)->ρ[j]?=a4 (.own a l')->i=j
 |[],i,_,_,h,_=>by simp at h
 |x::r,0,0,_,_,_=>rfl
 |x::r,0,j+1,n,h,h'=>by simp at h h';subst h;rw[jh]at n;exact absurd (Jh h') (Xq.mp n).1
 |x::r,i+1,0,n,h,h'=>by simp at h h';subst h';rw[jh]at n;exact absurd (Jh h) (Xq.mp n).1
 |x::r,i+1,j+1,n,h,h'=>by
  simp at h h';have n':(owns r).Nodup:=by
   rw[jh]at n;cases q:x.addr with
   |none=>rw[q]at n;exact n
   |some c=>rw[q]at n;exact(Xq.mp n).2
  rw[Vn n' h h']
noncomputable def Zg:List af:=["worst_cost_of_ask","least_numbers","whole_cost_of_ask","round_numbers"]
def TabOk(K:k7x)(H:Hp):Prop:=∀x∈Zg,∀c P,W.tabIn K x=a4 (c,P)->H P=a4 (.cod (zc x))
section
variable{K:k7x}{H H':Hp}
theorem TabOk.mono(h:TabOk K H)(g:j4 H H'):TabOk K H':=λx hx c P e=>g _ _ (h x hx c P e)
theorem TabOk.upd{a:ae}{o u:HO}(h:TabOk K H)(e:H a=a4 u)(n:∀q,u≠.cod q):TabOk K (upd H a o):=λx hx c P z=>by have q:=h x hx c P z;rw[je];exact q;intro y;subst y;rw[e]at q;exact n _ (aw q)
theorem TabOk.del{A:List ae}(h:TabOk K H)(hA:∀a∈A,∃xs,H a=a4 (.lst xs)):TabOk K (del H A):=λx hx c P z=>by have q:=h x hx c P z;rw[j7];exact q;intro y;obtain⟨xs,e⟩:=hA _ y;rw[q]at e;cases e
end
noncomputable def rfN:af:="@"
def K7(K:k7x)(F:Hp)(a:ae)(o:cb)(x:af):Prop:=x=rfN\/(F a=a4 (.frz o (.own a))/\W.nsIn K aq x=a4 (a4 o.cls))
theorem K7.mono{K:k7x}{F F':Hp}{a:ae}{o:cb}{x:af}(h:K7 K F a o x)(g:j4 F F'):K7 K F' a o x:=h.elim .inl λh=>.inr ⟨g _ _ h.1,h.2⟩
structure Rep(K:k7x)(ρ:Rho)(σ:St)(H:Hp):Prop where
 len:σ.length=ρ.length
 val:∀(i:Nat)(d:D),ρ[i]?=a4 (.val d)->∃v,σ[i]?=a4 (a4 v)/\Enc K (del H (owns ρ)) d v
 own:∀(i:Nat)(a:ae)(ds:List D),ρ[i]?=a4 (.own a ds)->σ[i]?=a4 (a4 (.ref a))/\∃xs,H a=a4 (.lst xs)/\j5 K (del H (owns ρ)) ds xs
 nd:(owns ρ).Nodup
 raw:∀(i:Nat)(a:ae)(o:cb)(x:af),ρ[i]?=a4 (.raw a o x)->σ[i]?=a4 (a4 (.ref a))/\K7 K (del H (owns ρ)) a o x
 tb:TabOk K H
section
variable{K:k7x}{ρ ρ':Rho}{σ:St}{H H':Hp}{i:Nat}{d:D}{v:V}{a:ae}{ds ds':List D}{xs:List V}
theorem Rep.owned(R:Rep K ρ σ H):∀a∈owns ρ,∃xs,H a=a4 (.lst xs):=λa h=>by obtain⟨i,ds,e⟩:=Zt h;obtain⟨_,xs,q,_⟩:=R.own i a ds e;exact⟨xs,q⟩
theorem Rep.fresh(R:Rep K ρ σ H)(h:H a=a7):a∉owns ρ:=λz=>by obtain⟨xs,e⟩:=R.owned a z;rw[h]at e;cases e
theorem Rep.grow(R:Rep K ρ σ H)(g:j4 H H'):Rep K ρ σ H' :=
 ⟨R.len,λi d e=>let ⟨v,q,h⟩:=R.val i d e;⟨v,q,h.mono (jf g)⟩,λi a ds e=>let ⟨q,xs,h,l⟩:=R.own i a ds e;⟨q,xs,g _ _ h,l.mono (jf g)⟩,R.nd,λi a o x e=>let ⟨q,h⟩:=R.raw i a o x e;⟨q,h.mono (jf g)⟩,R.tb.mono g⟩
theorem getElem?_set_of{α:Type}{l:List α}{i j:Nat}{x y:α}(h:(l.set i x)[j]?=a4 y):(i=j/\y=x/\i<l.length)\/(i≠j/\l[j]?=a4 y):=by
 rw[Tq]at h;split at h
 .rename_i e;subst e;split at h
  .rename_i z;cases h;exact .inl ⟨rfl,rfl,z⟩
  .cases h
 .rename_i e;exact .inr ⟨e,h⟩
theorem J1{α:Type}{l:List α}{i:Nat}{x:α}(h:i<l.length):(l.set i x)[i]?=a4 x:=by simp[h]
theorem qi{α:Type}{l:List α}{i j:Nat}{x:α}(h:i≠j):(l.set i x)[j]?=l[j]?:=by simp[h]
theorem Rep.set_val(R:Rep K ρ σ H)(e:Enc K (del H (owns ρ)) d v):Rep K (ρ.set i (.val d)) (σ.set i (a4 v)) H:=by
 have sub:(owns (ρ.set i (.val d))).Sublist (owns ρ):=jc rfl;have g:j4 (del H (owns ρ)) (del H (owns (ρ.set i (.val d)))):=zy λb hb=>sub.subset hb;refine⟨by simp[R.len],λj d' h=>?_,λj a ds h=>?_,sub.nodup R.nd,λj a o x h=>?_,R.tb⟩
 .rcases getElem?_set_of h with ⟨rfl,z,hl⟩|⟨n,h⟩
  .cases z;exact⟨v,J1 (by rw[R.len];exact hl),e.mono g⟩
  .obtain⟨u,q,h⟩:=R.val j d' h;exact⟨u,by rw[qi n];exact q,h.mono g⟩
 .rcases getElem?_set_of h with ⟨rfl,z,_⟩|⟨n,h⟩
  .cases z
  .obtain⟨q,xs,h,l⟩:=R.own j a ds h;exact⟨by rw[qi n];exact q,xs,h,l.mono g⟩
 .rcases getElem?_set_of h with ⟨rfl,z,_⟩|⟨n,h⟩
  .cases z
  .obtain⟨q,h⟩:=R.raw j a o x h;exact⟨by rw[qi n];exact q,h.mono g⟩
theorem Rep.set_un{v:Option V}(R:Rep K ρ σ H):Rep K (ρ.set i .un) (σ.set i v) H:=by
 have sub:(owns (ρ.set i .un)).Sublist (owns ρ):=jc rfl;have g:j4 (del H (owns ρ)) (del H (owns (ρ.set i .un))):=zy λb hb=>sub.subset hb;refine⟨by simp[R.len],λj d' h=>?_,λj a ds h=>?_,sub.nodup R.nd,λj a o x h=>?_,R.tb⟩
 .rcases getElem?_set_of h with ⟨rfl,z,hl⟩|⟨n,h⟩
  .cases z
  .obtain⟨u,q,h⟩:=R.val j d' h;exact⟨u,by rw[qi n];exact q,h.mono g⟩
 .rcases getElem?_set_of h with ⟨rfl,z,_⟩|⟨n,h⟩
  .cases z
  .obtain⟨q,xs,h,l⟩:=R.own j a ds h;exact⟨by rw[qi n];exact q,xs,h,l.mono g⟩
 .rcases getElem?_set_of h with ⟨rfl,z,_⟩|⟨n,h⟩
  .cases z
  .obtain⟨q,h⟩:=R.raw j a o x h;exact⟨by rw[qi n];exact q,h.mono g⟩
theorem Rep.set_own(R:Rep K ρ σ H)(g:j4 H H')(ha:H a=a7)(e:H' a=a4 (.lst xs))(l:j5 K (del H' (a::owns ρ)) ds xs):Rep K (ρ.set i (.own a ds)) (σ.set i (a4 (.ref a))) H':=by
 have na:=R.fresh ha;obtain⟨nd,sub⟩:=J2 (ds:=ds) (i:=i) R.nd na;have g1:j4 (del H' (a::owns ρ)) (del H' (owns (ρ.set i (.own a ds)))):=zy λb hb=>by
  rcases sub b hb with e|z
  .exact e▸xq ..
  .exact xg _ z
 have g2:j4 (del H (owns ρ)) (del H' (a::owns ρ)):=λb o q=>by
  obtain⟨n,q⟩:=of_del q;rw[j7];exact g b o q;intro z;rcases xn.mp z with e|z
  .subst e;rw[ha]at q;cases q
  .exact n z
 refine⟨by simp[R.len],λj d' h=>?_,λj b ds' h=>?_,nd,λj b o x h=>?_,R.tb.mono g⟩
 .rcases getElem?_set_of h with ⟨rfl,z,hl⟩|⟨n,h⟩
  .cases z
  .obtain⟨u,q,h⟩:=R.val j d' h;exact⟨u,by rw[qi n];exact q,h.mono (g2.trans g1)⟩
 .rcases getElem?_set_of h with ⟨rfl,z,hl⟩|⟨n,h⟩
  .cases z;exact⟨J1 (by rw[R.len];exact hl),xs,e,l.mono g1⟩
  .obtain⟨q,ys,h,l⟩:=R.own j b ds' h;exact⟨by rw[qi n];exact q,ys,g _ _ h,l.mono (g2.trans g1)⟩
 .rcases getElem?_set_of h with ⟨rfl,z,hl⟩|⟨n,h⟩
  .cases z
  .obtain⟨q,h⟩:=R.raw j b o x h;exact⟨by rw[qi n];exact q,h.mono (g2.trans g1)⟩
theorem Rep.upd_own(R:Rep K ρ σ H)(h:ρ[i]?=a4 (.own a ds))(l:j5 K (del H (owns ρ)) ds' xs):Rep K (ρ.set i (.own a ds')) σ (upd H a (.lst xs)):=by
 have eo:owns (ρ.set i (.own a ds'))=owns ρ:=Jo h;have ed:del (upd H a (.lst xs)) (owns ρ)=del H (owns ρ):=Vi (Jh h);refine⟨by simp[R.len],λj d' q=>?_,λj b l' q=>?_,by rw[eo];exact R.nd,λj b o x q=>?_,let ⟨_,_,z,_⟩:=R.own i a ds h;R.tb.upd z λ_ y=>by cases y⟩
 .rw[eo,ed];rcases getElem?_set_of q with ⟨_,z,_⟩|⟨n,q⟩
  .cases z
  .exact R.val j d' q
 .rw[eo,ed];rcases getElem?_set_of q with ⟨rfl,z,_⟩|⟨n,q'⟩
  .cases z;exact⟨(R.own i a ds h).1,xs,jq,l⟩
  .obtain⟨z,ys,y,l''⟩:=R.own j b l' q';refine⟨z,ys,?_,l''⟩;have nb:b≠a:=λe=>n (Vn R.nd h (e▸q'));rw[je nb];exact y
 .rw[eo,ed];rcases getElem?_set_of q with ⟨_,z,_⟩|⟨n,q⟩
  .cases z
  .exact R.raw j b o x q
theorem Rep.freeze(R:Rep K ρ σ H)(h:ρ[i]?=a4 (.own a ds)):Rep K (ρ.set i (.val (.lst ds))) σ H:=by
 obtain⟨hs,xs,hx,l⟩:=R.own i a ds h;have sub:(owns (ρ.set i (.val (.lst ds)))).Sublist (owns ρ):=jc rfl;have g:j4 (del H (owns ρ)) (del H (owns (ρ.set i (.val (.lst ds))))):=zy λb hb=>sub.subset hb;have na:a∉owns (ρ.set i (.val (.lst ds))):=λz=>by
  obtain⟨j,l',q⟩:=Zt z;rcases getElem?_set_of q with ⟨_,z,_⟩|⟨n,q⟩
  .cases z
  .exact n (Vn R.nd h q)
 refine⟨by simp[R.len],λj d' q=>?_,λj b l' q=>?_,sub.nodup R.nd,λj b o x q=>?_,R.tb⟩
 .rcases getElem?_set_of q with ⟨rfl,z,_⟩|⟨n,q⟩
  .cases z;exact⟨_,hs,a,xs,rfl,.inl (.inl (by rw[j7 na];exact hx)),l.mono g⟩
  .obtain⟨u,q,h⟩:=R.val j d' q;exact⟨u,q,h.mono g⟩
 .rcases getElem?_set_of q with ⟨rfl,z,_⟩|⟨n,q⟩
  .cases z
  .obtain⟨q,ys,h,l⟩:=R.own j b l' q;exact⟨q,ys,h,l.mono g⟩
 .rcases getElem?_set_of q with ⟨_,z,_⟩|⟨n,q⟩
  .cases z
  .obtain⟨q,h⟩:=R.raw j b o x q;exact⟨q,h.mono g⟩
end
def DE(X:Cx)(ρ:Rho)(e:ai)(d:D):Prop:=∀σ H Q,Rep X.K ρ σ H->(∀v H',j4 H H'->Enc X.K (del H' (owns ρ)) d v->Q v H')->Q0 X e σ H Q
def DT(X:Cx)(ρ:Rho)(e:ai)(d:D):Prop:=∀σ H Q,Rep X.K ρ σ H->(∀v H',j4 H H'->Enc X.K H' d v->Q v H')->Q0 X e σ H Q
def DO(X:Cx)(ρ:Rho)(e:ai)(ds:List D):Prop:=∀σ H Q,Rep X.K ρ σ H->(∀a xs H',j4 H H'->H a=a7->H' a=a4 (.lst xs)->j5 X.K (del H' (a::owns ρ)) ds xs->Q (.ref a) H')->Q0 X e σ H Q
def DL(X:Cx)(ρ:Rho)(e:ai)(ds:List D):Prop:=∀σ H Q,Rep X.K ρ σ H->(∀a xs H',j4 H H'->H' a=a4 (.lst xs)->j5 X.K (del H' (owns ρ)) ds xs->Q (.ref a) H')->Q0 X e σ H Q
def DB(X:Cx)(ρ:Rho)(e:ai)(b:Bool):Prop:=∀σ H Q,Rep X.K ρ σ H->(∀H',j4 H H'->Q b H')->Ku X e σ H Q
def DA(X:Cx)(ρ:Rho)(es:List ai)(ds:List D):Prop:=∀σ H Q,Rep X.K ρ σ H->(∀vs H',j4 H H'->j5 X.K (del H' (owns ρ)) ds vs->Q vs H')->W6 X es σ H Q
def DTA(X:Cx)(ρ:Rho)(es:List ai)(ds:List D):Prop:=∀σ H Q,Rep X.K ρ σ H->(∀vs H',j4 H H'->j5 X.K H' ds vs->Q vs H')->W6 X es σ H Q
def j6v(X:Cx)(e:ai):TT:=λσ H Q=>∀whole pins s,Inv X pins σ H s->ax (ay X.prog X.w) X.A (ft e X.env whole) (TP X pins σ Q) X.xe s
theorem pwS{X:Cx}{e:ai}:PW X e (j6v X e):=λwhole pins s _ _ _ I h=>h whole pins s I
theorem PW.to{X:Cx}{e:ai}{t:TT}{σ:St}{H:Hp}(h:PW X e t){Q:Bool->Hp->Prop}(q:t σ H Q):j6v X e σ H Q:=λwhole pins s I=>h whole pins s σ H Q I q
def DW(X:Cx)(ρ:Rho)(e:ai)(b:Bool):Prop:=∀σ H Q,Rep X.K ρ σ H->(∀H',j4 H H'->Q b H')->j6v X e σ H Q
mutual
noncomputable def Q7:D->Bool
 |.lst _=>a5
 |.dct _ _=>a5
 |.sct _=>a5
 |.fn _ _=>a5
 |.tup ds=>qb ds
 |_=>a6
noncomputable def qb:List D->Bool
 |[]=>a6
 |d::ds=>Q7 d&&qb ds
end
mutual
theorem Enc.hide{K:k7x}{H:Hp}{A:List ae}(hA:∀a∈A,Hd (H a)):∀{d:D}{v:V},Q7 d=a6->Enc K H d v->Enc K (del H A) d v
 |.non,_,_,h=>h
 |.bl _,_,_,h=>h
 |.int _,_,_,h=>h
 |.str _,_,_,h=>h
 |.lst _,_,n,_=>by cases n
 |.dct _ _,_,n,_=>by cases n
 |.sct _,_,n,_=>by cases n
 |.fn _ _,_,n,_=>by cases n
 |.tup ds,_,n,⟨a,xs,e,q,l⟩=>by
  refine⟨a,xs,e,?_,j5.hide hA (by simpa [Q7]using n) l⟩;have out:∀{o:HO},H a=a4 o->(∀ys,o≠.lst ys)->(∀ys ep,o≠.dI ys ep)->del H A a=a4 o:=λ{o} h z z2=>by
   rw[j7];exact h;intro y;rcases hA a y with ⟨ys,e'⟩|⟨ys,ep,e'⟩
   .rw[h]at e';cases e';exact z ys rfl
   .rw[h]at e';cases e';exact z2 ys ep rfl
  rcases q with (q|⟨o,q⟩)|q
  .exact .inl (.inl (out q (λ_ z=>by cases z) λ_ _ z=>by cases z))
  .exact .inl (.inr ⟨o,out q (λ_ z=>by cases z) λ_ _ z=>by cases z⟩)
  .exact .inr q
theorem j5.hide{K:k7x}{H:Hp}{A:List ae}(hA:∀a∈A,Hd (H a)):∀{ds:List D}{xs:List V},qb ds=a6->j5 K H ds xs->j5 K (del H A) ds xs
 |[],_,_,h=>h
 |d::ds,_,n,⟨x,r,e,h,l⟩=>by
  have n':Q7 d=a6/\qb ds=a6:=by simpa [qb]using n
  exact⟨x,r,e,Enc.hide hA n'.1 h,j5.hide hA n'.2 l⟩
end
section
variable{X:Cx}{ρ:Rho}{e a b c:ai}{es:List ai}{d da db:D}{ds ds':List D}{i j:Int}{pos:aK}{k:Nat}{x:af}
theorem DE.toT(h:DE X ρ e d):DT X ρ e d:=λσ H Q R q=>h σ H Q R λv H' g l=>q v H' g (l.mono q8)
theorem DT.toE(h:DT X ρ e d)(n:Q7 d=a6:=by rfl):DE X ρ e d:=λσ H Q R q=>h σ H Q R λv H' g l=>q v H' g (l.hide (λa ha=>.inl ((R.grow g).owned a ha)) n)
theorem DO.toL(h:DO X ρ e ds):DL X ρ e ds:=λσ H Q R q=>h σ H Q R λa xs H' g n m l=>q a xs H' g m (l.mono (zy λb hb=>xg _ hb))
theorem DO.toE(h:DO X ρ e ds):DE X ρ e (.lst ds):=λσ H Q R q=>h σ H Q R λa xs H' g n m l =>q _ H' g ⟨a,xs,rfl,.inl (.inl (by rw[j7 (R.fresh n)];exact m)),l.mono (zy λb hb=>xg _ hb)⟩
theorem DL.toT(h:DL X ρ e ds):DT X ρ e (.lst ds):=λσ H Q R q=>h σ H Q R λa xs H' g m l=>q _ H' g ⟨a,xs,rfl,.inl (.inl m),l.mono q8⟩
theorem DW.toB{k:Bool}(h:DW X ρ e k):DB X ρ e k:=λσ H Q R q pins s I=>h σ H Q R q _ pins s I
theorem DE.eq(h:DE X ρ e d){d':D}(q:d=d'):DE X ρ e d':=q▸h
theorem DB.eq{b b':Bool}(h:DB X ρ e b)(q:b=b'):DB X ρ e b':=q▸h
end
section
variable{X:Cx}{ρ:Rho}{e a b c:ai}{es:List ai}{d da db:D}{ds ds':List D}{i j:Int}{pos p:aK}{k:Nat}{x:af}
theorem DE.var(k:Nat)(h:ρ[k]?=a4 (.val d))(hN:X.N[k]?=a4 x:=by rfl)(hv:Vis X.env.scope x:=by first|exact aN rfl|exact bu (aN rfl)|exact bu (bu rfl))
  (hd:(x==k81)=a5:=by decide) (hcd:(x==k82)=a5:=by decide):DE X ρ (.Name x pos) d:=λσ H Q R q=>by
 obtain⟨v,hs,en⟩:=R.val k d h;exact(v7 hN hv hd hcd).to ⟨v,hs,q v H (j4.refl H) en⟩
theorem DL.var(k:Nat){l:ae}(h:ρ[k]?=a4 (.own l ds))(hN:X.N[k]?=a4 x:=by rfl)(hv:Vis X.env.scope x:=by first|exact aN rfl|exact bu (aN rfl)|exact bu (bu rfl))
  (hd:(x==k81)=a5:=by decide) (hcd:(x==k82)=a5:=by decide):DL X ρ (.Name x pos) ds:=λσ H Q R q=>by
 obtain⟨hs,xs,m,en⟩:=R.own k l ds h;exact(v7 hN hv hd hcd).to ⟨_,hs,q l xs H (j4.refl H) m en⟩
theorem DE.glob {u:aa} {v:V} (hg:Gl X x) (hm:X.mg x=a4 u) (r:RelV v u) (h:∀H,Enc X.K H d v) (hd:(x==k81)=a5:=by decide):DE X ρ (.Name x pos) d :=
 λσ H Q R q=>(Nq hg hm r hd).to (q v H (j4.refl H) (h _))
theorem DE.int{i:Int}{n:Nat}{pos:aK}:DE X ρ (.Constant (.int i) n pos) (.int i):=λσ H Q R q=>jew.to (q _ H (j4.refl H) rfl)
theorem DE.bl{b:Bool}{n:Nat}:DE X ρ (.Constant (.bool b) n pos) (.bl b):=λσ H Q R q=>jio.to (q _ H (j4.refl H) rfl)
theorem DE.str{y:af}{n:Nat}:DE X ρ (.Constant (.str y) n pos) (.str y):=λσ H Q R q=>j4h.to (q _ H (j4.refl H) rfl)
theorem DE.arI0{op:iX}{g:Int->Int->Int}(ho:OpR X (b7 op) (rI0 λi j=>.int (g i j)))(ha:DT X ρ a (.int i))(hb:DT X ρ b (.int j)):DE X ρ (.BinOp a op b pos) (.int (g i j)):=λσ H Q R q =>(Y9 ho peS peS).to (ha σ H _ R λv H1 g1 e1=>hb σ H1 _ (R.grow g1) λu H2 g2 e2=>⟨i,j,e1,e2,q _ H2 (g1.trans g2) rfl⟩)
theorem DE.arI{op:iX}{C:Int->Int->Prop}{g:Int->Int->Int}(ho:OpR X (b7 op) (rI C λi j=>.int (g i j)))(ha:DT X ρ a (.int i))(hb:DT X ρ b (.int j))(hC:C i j):DE X ρ (.BinOp a op b pos) (.int (g i j)):=λσ H Q R q =>(Y9 ho peS peS).to (ha σ H _ R λv H1 g1 e1=>hb σ H1 _ (R.grow g1) λu H2 g2 e2=>⟨i,j,e1,e2,hC,q _ H2 (g1.trans g2) rfl⟩)
theorem DE.add(ha:DT X ρ a (.int i))(hb:DT X ρ b (.int j)):DE X ρ (.BinOp a .Add b pos) (.int (i+j)):=DE.arI0 jf9 ha hb
theorem DE.sub(ha:DT X ρ a (.int i))(hb:DT X ρ b (.int j)):DE X ρ (.BinOp a .Sub b pos) (.int (i-j)):=DE.arI0 jf1 ha hb
theorem DE.mul(ha:DT X ρ a (.int i))(hb:DT X ρ b (.int j))(h:j3m i j):DE X ρ (.BinOp a .Mult b pos) (.int (i*j)):=DE.arI jf6 ha hb h
theorem DE.mod(ha:DT X ρ a (.int i))(hb:DT X ρ b (.int j))(h:0<j):DE X ρ (.BinOp a .Mod b pos) (.int (i%j)):=DE.arI jf7 ha hb h
theorem DE.pow(ha:DT X ρ a (.int i))(hb:DT X ρ b (.int j))(h:j3l i j):DE X ρ (.BinOp a .Pow b pos) (.int (i^j.toNat)):=DE.arI jf5 ha hb h
theorem DE.shl(ha:DT X ρ a (.int i))(hb:DT X ρ b (.int j))(h:j3l i j):DE X ρ (.BinOp a .LShift b pos) (.int (i*2^j.toNat)):=DE.arI (g:=λi j=>i*2^j.toNat) jf3 ha hb h
theorem DE.neg(ha:DT X ρ a (.int i)):DE X ρ (.UnaryOp .USub a pos) (.int (-i)):=λσ H Q R q =>(jin jdk peS).to (ha σ H _ R λv H1 g1 e1=>⟨i,e1,q _ H1 g1 rfl⟩)
theorem DE.cmpI{op:fQ}{g:Int->Int->Bool}(ho:OpR X (aX op) (rI0 λi j=>.bl (g i j)))(hm:aL op b=a5)(ha:DT X ρ a (.int i))(hb:DT X ρ b (.int j)):DE X ρ (.Compare a [op] [b] pos) (.bl (g i j)):=λσ H Q R q =>(Jr ho peS peS hm).to (ha σ H _ R λv H1 g1 e1=>hb σ H1 _ (R.grow g1) λu H2 g2 e2=>⟨i,j,e1,e2,q _ H2 (g1.trans g2) rfl⟩)
theorem DB.cmpI{op:fQ}{g:Int->Int->Bool}(ho:OpR X (aX op) (rI0 λi j=>.bl (g i j)))(hm:aL op b=a5)(ha:DT X ρ a (.int i))(hb:DT X ρ b (.int j)):DB X ρ (.Compare a [op] [b] pos) (g i j):=λσ H Q R q =>(Jq ho peS peS hm).to (ha σ H _ R λv H1 g1 e1=>hb σ H1 _ (R.grow g1) λu H2 g2 e2=>⟨i,j,e1,e2,_,rfl,q H2 (g1.trans g2)⟩)
theorem DB.lt(ha:DT X ρ a (.int i))(hb:DT X ρ b (.int j)):DB X ρ (.Compare a [.Lt] [b] pos) (decide (i<j)):=DB.cmpI Ly (zg _) ha hb
theorem DB.le(ha:DT X ρ a (.int i))(hb:DT X ρ b (.int j)):DB X ρ (.Compare a [.LtE] [b] pos) (decide (i<=j)):=DB.cmpI j9u (zg _) ha hb
theorem DB.gt(ha:DT X ρ a (.int i))(hb:DT X ρ b (.int j)):DB X ρ (.Compare a [.Gt] [b] pos) (decide (j<i)):=DB.cmpI j9v (zg _) ha hb
theorem DB.ge(ha:DT X ρ a (.int i))(hb:DT X ρ b (.int j)):DB X ρ (.Compare a [.GtE] [b] pos) (decide (j<=i)):=DB.cmpI j9w (zg _) ha hb
theorem DE.lt(ha:DT X ρ a (.int i))(hb:DT X ρ b (.int j)):DE X ρ (.Compare a [.Lt] [b] pos) (.bl (decide (i<j))):=DE.cmpI Ly (zg _) ha hb
theorem DE.le(ha:DT X ρ a (.int i))(hb:DT X ρ b (.int j)):DE X ρ (.Compare a [.LtE] [b] pos) (.bl (decide (i<=j))):=DE.cmpI j9u (zg _) ha hb
theorem DE.gt(ha:DT X ρ a (.int i))(hb:DT X ρ b (.int j)):DE X ρ (.Compare a [.Gt] [b] pos) (.bl (decide (j<i))):=DE.cmpI j9v (zg _) ha hb
theorem DE.ge(ha:DT X ρ a (.int i))(hb:DT X ρ b (.int j)):DE X ρ (.Compare a [.GtE] [b] pos) (.bl (decide (j<=i))):=DE.cmpI j9w (zg _) ha hb
noncomputable def D.sc:D->Option V
 |.non=>a4 .non
 |.bl b=>a4 (.bl b)
 |.int i=>a4 (.int i)
 |.str x=>a4 (.str x)
 |_=>a7
theorem D.sc_enc{K:k7x}{H:Hp}{d:D}{u v:V}(h:d.sc=a4 u)(q:Enc K H d v):v=u:=by cases d<;>simp[D.sc]at h<;>subst h<;>exact q
theorem DE.eqS{u v:V}(ha:DT X ρ a da)(hb:DT X ρ b db)(h1:da.sc=a4 u:=by rfl)(h2:db.sc=a4 v:=by rfl)(h:Nh u v=a6:=by rfl):DE X ρ (.Compare a [.Eq] [b] pos) (.bl (decide (u=v))):=λσ H Q R q =>
 (Jr j9x peS peS (zg _)).to (ha σ H _ R λx H1 g1 e1=>hb σ H1 _ (R.grow g1) λy H2 g2 e2=>by
  cases D.sc_enc h1 e1;cases D.sc_enc h2 e2;exact⟨h,q _ H2 (g1.trans g2) rfl⟩)
theorem DE.neS{u v:V}(ha:DT X ρ a da)(hb:DT X ρ b db)(h1:da.sc=a4 u:=by rfl)(h2:db.sc=a4 v:=by rfl)(h:Nh u v=a6:=by rfl):DE X ρ (.Compare a [.NotEq] [b] pos) (.bl (!decide (u=v))):=λσ H Q R q =>
 (Jr j9t peS peS (zg _)).to (ha σ H _ R λx H1 g1 e1=>hb σ H1 _ (R.grow g1) λy H2 g2 e2=>by
  cases D.sc_enc h1 e1;cases D.sc_enc h2 e2;exact⟨h,q _ H2 (g1.trans g2) rfl⟩)
theorem DB.eqS{u v:V}(ha:DT X ρ a da)(hb:DT X ρ b db)(h1:da.sc=a4 u:=by rfl)(h2:db.sc=a4 v:=by rfl)(h:Nh u v=a6:=by rfl):DB X ρ (.Compare a [.Eq] [b] pos) (decide (u=v)):=λσ H Q R q =>
 (Jq j9x peS peS (zg _)).to (ha σ H _ R λx H1 g1 e1=>hb σ H1 _ (R.grow g1) λy H2 g2 e2=>by
  cases D.sc_enc h1 e1;cases D.sc_enc h2 e2;exact⟨h,_,rfl,q H2 (g1.trans g2)⟩)
theorem DB.neS{u v:V}(ha:DT X ρ a da)(hb:DT X ρ b db)(h1:da.sc=a4 u:=by rfl)(h2:db.sc=a4 v:=by rfl)(h:Nh u v=a6:=by rfl):DB X ρ (.Compare a [.NotEq] [b] pos) (!decide (u=v)):=λσ H Q R q =>
 (Jq j9t peS peS (zg _)).to (ha σ H _ R λx H1 g1 e1=>hb σ H1 _ (R.grow g1) λy H2 g2 e2=>by
  cases D.sc_enc h1 e1;cases D.sc_enc h2 e2;exact⟨h,_,rfl,q H2 (g1.trans g2)⟩)
theorem Up(i j:Int):decide (V.int i=V.int j)=decide (i=j):=by
 by_cases h:i=j
 .subst h;simp
 .rw[decide_eq_false h,decide_eq_false (λz=>h (V.int.inj z))]
theorem j1y(i j:Bool):decide (V.bl i=V.bl j)=(i==j):=by cases i<;>cases j<;>rfl
theorem Ez(i j:af):decide (V.str i=V.str j)=decide (i=j):=by
 by_cases h:i=j
 .subst h;simp
 .rw[decide_eq_false h,decide_eq_false (λz=>h (V.str.inj z))]
theorem DE.eqI(ha:DT X ρ a (.int i))(hb:DT X ρ b (.int j)):DE X ρ (.Compare a [.Eq] [b] pos) (.bl (decide (i=j))):=(DE.eqS ha hb).eq (by rw[Up])
theorem DE.neI(ha:DT X ρ a (.int i))(hb:DT X ρ b (.int j)):DE X ρ (.Compare a [.NotEq] [b] pos) (.bl (!decide (i=j))):=(DE.neS ha hb).eq (by rw[Up])
theorem DB.eqI(ha:DT X ρ a (.int i))(hb:DT X ρ b (.int j)):DB X ρ (.Compare a [.Eq] [b] pos) (decide (i=j)):=(DB.eqS ha hb).eq (by rw[Up])
theorem DB.neI(ha:DT X ρ a (.int i))(hb:DT X ρ b (.int j)):DB X ρ (.Compare a [.NotEq] [b] pos) (!decide (i=j)):=(DB.neS ha hb).eq (by rw[Up])
theorem DE.neB{x y:Bool}(ha:DT X ρ a (.bl x))(hb:DT X ρ b (.bl y)):DE X ρ (.Compare a [.NotEq] [b] pos) (.bl (x != y)):=(DE.neS ha hb).eq (by rw[j1y];rfl)
theorem DB.neB{x y:Bool}(ha:DT X ρ a (.bl x))(hb:DT X ρ b (.bl y)):DB X ρ (.Compare a [.NotEq] [b] pos) (x != y):=(DB.neS ha hb).eq (by rw[j1y];rfl)
noncomputable def D.isNon:D->Bool
 |.non=>a6
 |_=>a5
theorem Dq{K:k7x}{H:Hp}{d:D}{v:V}(q:Enc K H d v):decide (v=V.non)=d.isNon:=by
 cases d with
 |non=>cases(show v=.non from q);rfl
 |bl b=>cases(show v=.bl b from q);rfl
 |int b=>cases(show v=.int b from q);rfl
 |str b=>cases(show v=.str b from q);rfl
 |tup l=>obtain⟨a,xs,e,_⟩:=q;subst e;rfl
 |lst l=>obtain⟨a,xs,e,_⟩:=q;subst e;rfl
 |dct ks l=>obtain⟨a,xs,ep,vs,e,_⟩:=q;subst e;rfl
 |sct k=>obtain⟨a,e,_⟩:=q;subst e;rfl
 |fn x l=>obtain⟨a,c,tx,cl,vs,e,_⟩:=q;subst e;rfl
theorem DE.isN{n:Nat}{p2:aK}(ha:DT X ρ a d):DE X ρ (.Compare a [.Is] [.Constant .none n p2] pos) (.bl d.isNon):=λσ H Q R q =>(jex (j4k peS)).to (ha σ H _ R λx H1 g1 e1=>q _ H1 g1 (by rw[Dq e1];rfl))
theorem DB.isN{n:Nat}{p2:aK}(ha:DT X ρ a d):DB X ρ (.Compare a [.Is] [.Constant .none n p2] pos) d.isNon:=λσ H Q R q =>(jeq (j4k peS)).to (ha σ H _ R λx H1 g1 e1=>⟨_,rfl,by rw[Dq e1];exact q H1 g1⟩)
theorem DB.val{k:Bool}(ha:DT X ρ a (.bl k))(he:∀whole,ft a X.env whole=(do let v <-whole;fK a.pos;c8 [v] (truthy v)):=by intro _;rfl):DB X ρ a k:=λσ H Q R q =>(jeo peS he).to (ha σ H _ R λx H1 g1 e1=>⟨_,e1,q H1 g1⟩)
theorem DW.and1{k:Bool}(ha:DB X ρ a k):DW X ρ (.BoolOp .And [a] pos) k:=λσ H Q R q=>(jbn ptS).to (ha σ H Q R q)
theorem DW.or1{k:Bool}(ha:DB X ρ a k):DW X ρ (.BoolOp .Or [a] pos) k:=λσ H Q R q=>(jem ptS).to (ha σ H Q R q)
theorem DW.and{k m:Bool}{rest:List ai}(ha:DB X ρ a k)(hb:k=a6->DW X ρ (.BoolOp .And (b::rest) pos) m):DW X ρ (.BoolOp .And (a::b::rest) pos) (k&&m):=λσ H Q R q =>
 (jen ptS pwS).to (ha σ H _ R λH1 g1=>by
  cases k with
  |false=>exact Nx (q H1 g1)
  |true=>exact Ei (hb rfl σ H1 Q (R.grow g1) λH2 g2=>q H2 (g1.trans g2)))
theorem DW.or{k m:Bool}{rest:List ai}(ha:DB X ρ a k)(hb:k=a5->DW X ρ (.BoolOp .Or (b::rest) pos) m):DW X ρ (.BoolOp .Or (a::b::rest) pos) (k || m):=λσ H Q R q =>
 (jil ptS pwS).to (ha σ H _ R λH1 g1=>by
  cases k with
  |true=>exact Ei (q H1 g1)
  |false=>exact Nx (hb rfl σ H1 Q (R.grow g1) λH2 g2=>q H2 (g1.trans g2)))
theorem DB.not{k:Bool}(ha:DB X ρ a k):DB X ρ (.UnaryOp .Not a pos) (!k):=λσ H Q R q=>(jep ptS).to (ha σ H _ R λH1 g1=>q H1 g1)
theorem DE.and{k m:Bool}{rest:List ai}(ha:DT X ρ a (.bl k))(hb:k=a6->DE X ρ (.BoolOp .And (b::rest) pos) (.bl m)):DE X ρ (.BoolOp .And (a::b::rest) pos) (.bl (k&&m)):=λσ H Q R q =>
 (jez peS peS).to (ha σ H _ R λx H1 g1 e1=>⟨k,e1,by
  cases k with
  |false=>exact Nx (q _ H1 g1 rfl)
  |true=>exact Ei (hb rfl σ H1 Q (R.grow g1) λv H2 g2=>q v H2 (g1.trans g2))⟩)
theorem DA.nil:DA X ρ [] []:=λσ H Q R q=>jl.to (q [] H (j4.refl H) rfl)
theorem DA.cons(ha:DE X ρ a d)(hr:DA X ρ es ds)(hs:a8 (a::es) X.env=(a5,az a X.env)::a8 es X.env:=by rfl):DA X ρ (a::es) (d::ds):=λσ H Q R q =>(j9 peS paS hs).to (ha σ H _ R λv H1 g1 e1=>hr σ H1 _ (R.grow g1) λvs H2 g2 e2=>q _ H2 (g1.trans g2) ⟨v,vs,rfl,e1.mono (jf g2),e2⟩)
theorem DTA.nil:DTA X ρ [] []:=λσ H Q R q=>jl.to (q [] H (j4.refl H) rfl)
theorem DTA.cons(ha:DT X ρ a d)(hr:DTA X ρ es ds)(hs:a8 (a::es) X.env=(a5,az a X.env)::a8 es X.env:=by rfl):DTA X ρ (a::es) (d::ds):=λσ H Q R q =>(j9 peS paS hs).to (ha σ H _ R λv H1 g1 e1=>hr σ H1 _ (R.grow g1) λvs H2 g2 e2=>q _ H2 (g1.trans g2) ⟨v,vs,rfl,e1.mono g2,e2⟩)
theorem DE.tup{n:Nat}{x1}(h:DA X ρ es ds)(hl:ds.length<=ak:=by simp only[X4,cD];decide):DE X ρ (.Tuple es x1 pos) (.tup ds):=λσ H Q R q =>(Ii paS).to (h σ H _ R λvs H1 g1 e1=>⟨by rw[e1.length];exact hl,λp hp=>q _ _ (g1.trans (j8 hp)) ⟨p,vs,rfl,.inl (.inl (by rw[j7 ((R.grow g1).fresh hp)];exact jq)),e1.mono (jf (j8 hp))⟩⟩)
theorem DO.lst(h:DA X ρ es ds)(hl:ds.length<=ak:=by simp only[X4,cD];decide):DO X ρ (.List es pos) ds:=λσ H Q R q =>
 (j4j paS).to (h σ H _ R λvs H1 g1 e1=>⟨by rw[e1.length];exact hl,λp hp=>q p vs _ (g1.trans (j8 hp)) (g1.free hp) jq (e1.mono λb o z=>by
  obtain⟨n,z⟩:=of_del z
  rw[j7];exact j8 hp b o z
  intro y
  rcases xn.mp y with y|y
  .subst y;rw[hp]at z;cases z
  .exact n y)⟩)
theorem j5.atI{K:k7x}{H:Hp}{xs:List V}(h:j5 K H ds xs)(q:atI ds i=a4 d):∃x,L2.atI xs i=a4 x/\Enc K H d x:=by
 unfold L2.atI at q ⊢;rw[h.length];cases z:ixN ds.length i with
 |none=>rw[z]at q;cases q
 |some k =>rw[z]at q;exact h.get q
noncomputable def cutD(ds:List D)(lo hi:Option Int):List D:=(ds.drop (HT.sIx ds.length 0 lo)).take (HT.sIx ds.length ds.length hi-HT.sIx ds.length 0 lo)
theorem j5.cut{K:k7x}{H:Hp}{xs:List V}(h:j5 K H ds xs)(lo hi:Option Int):j5 K H (cutD ds lo hi) (Wo xs lo hi):=by unfold cutD Wo;rw[h.length];exact(h.drop _).take _
theorem Um{K:k7x}{H1:Hp}{A:List ae}{ds:List D}{xs:List V}{p:ae}{o:HO}(hp:H1 p=a7)(e1:j5 K (del H1 A) ds xs):j5 K (del (upd H1 p o) (p::A)) ds xs:=e1.mono λb o z=>by
 obtain⟨n,z⟩:=of_del z;rw[j7];exact j8 hp b o z;intro y;rcases xn.mp y with y|y
 .subst y;rw[hp]at z;cases z
 .exact n y
theorem DO.rep(ha:DL X ρ a ds)(hb:DT X ρ b (.int i))(h1:-(2^63)<=i)(h2:i<2^63)(hl:ds.length*i.toNat<=ak):DO X ρ (.BinOp a .Mult b pos) (ao i.toNat ds).flatten:=λσ H Q R q =>
 (Y9 jf4 peS peS).to (ha σ H _ R λl xs H1 g1 m1 e1=>hb σ H1 _ (R.grow g1) λu H2 g2 e2 =>
  ⟨l,i,xs,rfl,e2,g2 _ _ m1,h1,h2,by rw[e1.length];exact hl,λp hp=>q p _ _ ((g1.trans g2).trans (j8 hp)) ((g1.trans g2).free hp) jq (Um hp ((e1.mono (jf g2)).rep _))⟩)
theorem DE.lenT (ha:DT X ρ a (.tup ds)) (hm:X.mg "len" = a7) (hg:Gl X "len":=by rfl) (hs:a8 [a] X.env=[(a5,az a X.env)]:=by rfl) {p2:aK}:DE X ρ (.Call (.Name "len" p2) [a] [] pos) (.int ds.length):=λσ H Q R q =>(zb Ws hg hm fP (j9 peS jl hs) (by decide) (by decide) hs).to (ha σ H _ R λv H1 g1 ⟨l,xs,e,sq,en⟩=>⟨l,xs,by rw[e],.inr sq,q _ H1 g1 (by rw[en.length];rfl)⟩)
theorem DE.lenL (ha:DT X ρ a (.lst ds)) (hm:X.mg "len" = a7) (hg:Gl X "len":=by rfl) (hs:a8 [a] X.env=[(a5,az a X.env)]:=by rfl) {p2:aK}:DE X ρ (.Call (.Name "len" p2) [a] [] pos) (.int ds.length):=λσ H Q R q =>(zb Ws hg hm fP (j9 peS jl hs) (by decide) (by decide) hs).to (ha σ H _ R λv H1 g1 ⟨l,xs,e,sq,en⟩=>⟨l,xs,by rw[e],.inl sq,q _ H1 g1 (by rw[en.length];rfl)⟩)
end
def framed(sp:Sp):Sp:=λvs H Q E=>∃A:List ae,(∀a∈A,∃xs,H a=a4 (.lst xs))/\sp vs (del H A) (λv F=>(∀a∈A,F a=a7)->Q v (mrg A H F)) E
theorem FnOk.framed{P:ar}{w:aA}{K:k7x}{mg:k80}{base:aE}{k:Nat}{f:ae}{fd:aG}{ps:List af}{sp:Sp}(F:FnOk P w K mg base CX0 k f fd ps sp) :
  FnOk P w K mg base CX0 k f fd ps (framed sp) where
 len:=λvs H Q E ⟨A,_,h⟩=>F.len vs _ _ _ h
 run:=by
  rintro A0 outer s H args us vs Q E hr e0 hb rv ⟨A,hA,h⟩;have nd:∀{b:ae},H b=a7->del H A b=a7:=λ{b} q=>by
   by_cases z:b∈A
   .exact z9 z
   .rw[j7 z];exact q
  have out:∀{b:ae}{o:HO},H b=a4 o->(∀ys,o≠.lst ys)->del H A b=a4 o:=λ{b o} q z=>by rw[j7];exact q;intro y;obtain⟨ys,e'⟩:=hA b y;rw[q]at e';cases e';exact z ys rfl
  have e1:Env0 P w K mg base A0 outer s (del H A):=⟨e0.frames,e0.mod,λb o q=>⟨(e0.bs b o q).1,nd (e0.bs b o q).2⟩,e0.bsz,e0.funs,λb hb=>nd (e0.frf b hb),
   λa o q=>by
    obtain⟨_,q⟩:=of_del q
    exact jk.stay (e0.hok a o q) (λb u _ z=>z) (λb z=>out z λ_ y=>by cases y) (λb xs z=>out z λ_ y=>by cases y) (λb _ _ z=>out z λ_ y=>by cases y),e0.bare⟩
  refine bU (F.run A0 outer s (del H A) args us vs _ E hr e1 hb rv h) λr s' hq=>?_;cases r with
  |error e=>exact(show False from hq).elim
  |ok fl =>
   cases fl with
   |next=>exact(show False from hq).elim
   |brk=>exact(show False from hq).elim
   |cont=>exact(show False from hq).elim
   |ret u =>
    obtain⟨v,H',os,bare,un,hok',rel,q⟩:=(show CE outer P w (del H A) s _ u s' from hq)
    have kept:∀a∈A,∃o,s.heap.get? a=a4 o/\s'.heap.get? a=a4 o/\H' a=a7:=λa ha=>by
     obtain⟨xs,e⟩:=hA a ha;obtain⟨_,its,n,_,z⟩:=(show jk P w H s.heap a (.lst xs)from e0.hok _ _ e)
     have nf:a∉frs outer:=λy=>by rw[e0.frf a y]at e;cases e
     exact⟨_,z,un.keep a _ z (z9 ha) nf (by simp),un.free a _ z (z9 ha) (by simp)⟩
    have hF:∀a∈A,H' a=a7:=λa ha=>let ⟨_,_,_,z⟩:=kept a ha;z;have outF:∀{b:ae}{o:HO},H' b=a4 o->b∉A:=λ{b o} e z=>by rw[hF b z]at e;cases e
    refine⟨v,mrg A H H',os,bare,?_,λa o e=>?_,rel,q hF⟩
    .exact{
      keep:=λb o e n=>un.keep b o e (nd n)
      slot:=λb o e n=>un.slot b o e (nd n)
      free:=λb o e n hx=>by
       by_cases z:b∈A
       .rw[J3 z];exact n
       .rw[jg z];exact un.free b o e (nd n) hx
      there:=un.there
      tups:=λb xs e=>by
       have z:=un.tups b xs (out e λ_ y=>by cases y)
       rw[jg (outF z)];exact z
      frzs:=λb o u e=>by
       have z:=un.frzs b o u (out e λ_ y=>by cases y)
       rw[jg (outF z)];exact z
      tbls:=λb ps e=>by
       obtain⟨more,z⟩:=un.tbls b ps (out e λ_ y=>by cases y)
       exact⟨more,by rw[jg (outF z)];exact z⟩ }
    .by_cases z:a∈A
     .rw[J3 z]at e;obtain⟨xs,e'⟩:=hA a z;rw[e']at e;cases e;obtain⟨hl,its,n,r,y⟩:=(show jk P w H s.heap a (.lst xs)from e0.hok _ _ e')
      obtain⟨o',q1,q2,_⟩:=kept a z;rw[y]at q1;cases q1;exact⟨hl,its,n,r,q2⟩
     .rw[jg z]at e;refine jk.stay (hok' a o e) (λb u _ q=>q) (λb q=>?_) (λb xs q=>?_) (λb _ _ q=>?_)
      .rw[jg (outF q)];exact q
      .rw[jg (outF q)];exact q
      .rw[jg (outF q)];exact q
def spP(K:k7x)(S:List D->D->Prop):Sp:=λvs H Q _=>∃A ds d,TabOk K H/\(∀a∈A,∃xs,H a=a4 (.lst xs))/\j5 K (del H A) ds vs/\S ds d/\∀v H',j4 H H'->Enc K (del H' A) d v->Q v H'
def spF(K:k7x)(S:List D->List D->Prop):Sp:=λvs H Q _=>∃A ds l,TabOk K H/\(∀a∈A,∃xs,H a=a4 (.lst xs))/\j5 K (del H A) ds vs/\S ds l /\
 ∀a xs H',j4 H H'->H a=a7->H' a=a4 (.lst xs)->j5 K (del H' (a::A)) l xs->Q (.ref a) H'
def jkr(K:k7x)(S:List D->D->Prop):Sp:=λvs H Q _=>∃ds d,TabOk K H/\j5 K H ds vs/\S ds d/\∀v H',j4 H H'->Enc K H' d v->Q v H'
def jku(K:k7x)(S:List D->List D->Prop):Sp:=λvs H Q _=>∃ds l,TabOk K H/\j5 K H ds vs/\S ds l/\∀a xs H',j4 H H'->H a=a7->H' a=a4 (.lst xs)->j5 K (del H' [a]) l xs->Q (.ref a) H'
section
variable{P:ar}{w:aA}{K:k7x}{mg:k80}{base:aE}{k:Nat}{f:ae}{fd:aG}{ps:List af}
theorem FnOk.toP{S:List D->D->Prop}(F:FnOk P w K mg base CX0 k f fd ps (jkr K S)):FnOk P w K mg base CX0 k f fd ps (spP K S) :=
 F.framed.imp λvs H Q E ⟨A,ds,d,tb,hA,en,hS,q⟩=>⟨A,hA,ds,d,tb.del hA,en,hS,λv F g e hF=>q v _ (Mg g) (by rw[Qp hF];exact e)⟩
theorem FnOk.toF{S:List D->List D->Prop}(F:FnOk P w K mg base CX0 k f fd ps (jku K S)):FnOk P w K mg base CX0 k f fd ps (spF K S) :=
 F.framed.imp λvs H Q E ⟨A,ds,l,tb,hA,en,hS,q⟩=>⟨A,hA,ds,l,tb.del hA,en,hS,λa xs F g n e l' hF=>by
  have na:a∉A:=λz=>by rw[hF a z]at e;cases e
  refine q a xs _ (Mg g) (by rw[j7 na]at n;exact n) (by rw[jg na];exact e) (l'.mono λb o z=>?_)
  obtain⟨n1,z⟩:=of_del z
  have nb:b∉A:=λy=>by rw[hF b y]at z;cases z
  rw[j7,jg nb];exact z
  intro y
  rcases xn.mp y with y|y
  .exact n1 (by rw[y];exact X6.mpr rfl)
  .exact nb y⟩
end
noncomputable def jh3:List af:=["dearest_way","cost_on_whole","worst_table","worst_plan","foe_answer","whole_table","whole_plan","mean_price"]
noncomputable def kG(us ws:List aa):List aa:=match ws with
 |[w]=>us++[w]
 |_=>[]
noncomputable def kGV(vs zs:List V):List V:=match zs with
 |[z]=>vs++[z]
 |_=>[]
def Dfl(K:k7x)(x:af)(fd:aG)(ps:List af):Prop:=x∈jh3->Binds K fd ps [.none]/\KBinds K fd ps ["prices"] kG kGV
structure Cal(X:Cx)(x:af)(sp:Sp):Prop where
 ex:∃(k:Nat)(f:ae)(fd:aG)(ps:List af),FnOk X.prog X.w X.K X.mg X.base CX0 k f fd ps sp/\Room (k+1) X.A/\X.mg x=a4 (.ref f)/\W.keepIn X.K (.ref f)=a6/\Binds X.K fd ps []/\Dfl X.K x fd ps
section
variable{X:Cx}{ρ:Rho}{e a:ai}{es:List ai}{d:D}{ds l:List D}{pos p:aK}{x:af}
theorem DE.call{S:List D->D->Prop}(c:Cal X x (spP X.K S))(ha:DA X ρ (e::es) ds)(hS:S ds d)(hg:Gl X x:=by rfl)(hdb:(x==k81)=a5:=by decide)
  (he:a8 (e::es) X.env=(a5,az e X.env)::a8 es X.env:=by rfl) (hpl:(aO pos (a8 es X.env)).any (·.1)=a5:=by rfl):DE X ρ (.Call (.Name x p) (e::es) [] pos) d:=λσ H Q R q=>by
 obtain⟨k,f,fd,ps,F,hr,hm,hk,hb,_⟩:=c.ex;refine(Yw F (hr.mono (Pb _)) hg hm hk hb .nil Oj paS hdb he hpl).to (ha σ H _ R λvs H1 g1 e1=>?_);show spP X.K S (vs++[]) H1 Q E0;rw[Xx];exact⟨owns ρ,ds,d,R.tb.mono g1,(R.grow g1).owned,e1,hS,λv H2 g2 z=>q v H2 (g1.trans g2) z⟩
theorem DT.call{S:List D->D->Prop}(c:Cal X x (spP X.K S))(ha:DTA X ρ (e::es) ds)(hS:S ds d)(hg:Gl X x:=by rfl)(hdb:(x==k81)=a5:=by decide)
  (he:a8 (e::es) X.env=(a5,az e X.env)::a8 es X.env:=by rfl) (hpl:(aO pos (a8 es X.env)).any (·.1)=a5:=by rfl):DT X ρ (.Call (.Name x p) (e::es) [] pos) d:=λσ H Q R q=>by
 obtain⟨k,f,fd,ps,F,hr,hm,hk,hb,_⟩:=c.ex;refine(Yw F (hr.mono (Pb _)) hg hm hk hb .nil Oj paS hdb he hpl).to (ha σ H _ R λvs H1 g1 e1=>?_);show spP X.K S (vs++[]) H1 Q E0;rw[Xx];exact⟨[],ds,d,R.tb.mono g1,(λa h=>nomatch h),by rw[v8];exact e1,hS,λv H2 g2 z=>q v H2 (g1.trans g2) (by rw[v8]at z;exact z)⟩
theorem DO.call{S:List D->List D->Prop}(c:Cal X x (spF X.K S))(ha:DA X ρ (e::es) ds)(hS:S ds l)(hg:Gl X x:=by rfl)(hdb:(x==k81)=a5:=by decide)
  (he:a8 (e::es) X.env=(a5,az e X.env)::a8 es X.env:=by rfl) (hpl:(aO pos (a8 es X.env)).any (·.1)=a5:=by rfl):DO X ρ (.Call (.Name x p) (e::es) [] pos) l:=λσ H Q R q=>by
 obtain⟨k,f,fd,ps,F,hr,hm,hk,hb,_⟩:=c.ex;refine(Yw F (hr.mono (Pb _)) hg hm hk hb .nil Oj paS hdb he hpl).to (ha σ H _ R λvs H1 g1 e1=>?_);show spF X.K S (vs++[]) H1 Q E0;rw[Xx];exact⟨owns ρ,ds,l,R.tb.mono g1,(R.grow g1).owned,e1,hS,λa xs H2 g2 n m z=>q a xs H2 (g1.trans g2) (g1.free n) m z⟩
end
inductive Rt where
 |val (d:D)
 |fresh (ds:List D)
noncomputable def Rt.d:Rt->D
 |.val d=>d
 |.fresh l=>.lst l
structure Po where
 nx:Rho->Prop
 rt:Rt->Prop
 bk:Rho->Prop:=λ_=>False
 ct:Rho->Prop:=λ_=>False
 ex:af->Rho->Prop:=λ_ _=>False
structure FlQ(q:aa->Prop)(N:ae->Prop)(H:Hp)(h:aE)(e:ae)(C:aa):Prop where
 new:∀b,N b->b≠e
 free:H e=a7
 obj:∃(oe:cb)(vs:Array aa)(a0:aa),h.get? e=a4 oe/\oe.cls=C/\oe.data=.fields vs/\vs[0]?=a4 a0 /\
  (vs[1]?=a4 .none\/∃(T:ae)(oT:cb)(ts:Array aa)(fl:aa),vs[1]?=a4 (.ref T)/\T≠e/\h.get? T=a4 oT/\oT.data=.fields ts/\(ts[3]?=a4 fl/\q fl)/\H T=a7/\∀b,N b->b≠T)
def flN(v:aa):Prop:=v=.none
def flF(env:cu)(v:aa):Prop:=v=.none\/∃L,env.frame=a4 L/\v=jJ L
abbrev Fl(N:ae->Prop)(H:Hp)(h:aE)(e:ae)(C:aa):Prop:=FlQ flN N H h e C
theorem FlQ.up{q q':aa->Prop}{N N':ae->Prop}{H:Hp}{h:aE}{e:ae}{C:aa}(F:FlQ q N H h e C)(hq:∀v,q v->q' v)(hN:∀b,N' b->N b):FlQ q' N' H h e C:=by refine⟨λb hb=>F.new b (hN b hb),F.free,?_⟩;obtain⟨oe,vs,a0,z1,z2,z3,z4,z5⟩:=F.obj;refine⟨oe,vs,a0,z1,z2,z3,z4,z5.imp id ?_⟩;rintro⟨T,oT,ts,fl,y1,y2,y3,y4,⟨y5,y6⟩,y7,y8⟩;exact⟨T,oT,ts,fl,y1,y2,y3,y4,⟨y5,hq _ y6⟩,y7,λb hb=>y8 b (hN b hb)⟩
def Old(X:Cx)(pins:k7z)(b:ae):Prop:=(∃o,X.s₀.heap.get? b=a4 o/\b∉X.ex)\/(∃p∈X.pn++pins,p.1=b)\/b=X.env.locals\/∃x,X.env.cells.lookup x=a4 b
def O3(X:Cx)(σ:St)(H:Hp)(x:af):Prop:=∀(pins:k7z) (H':Hp) (s':ah) (e:ae) (C:aa),Inv X pins σ H' s'->j4 H H'->X.mg x=a4 C->FlQ (flF X.env) (Old X pins) H' s'.heap e C->X.xe (.ref e) s'
def Fr0(ρ ρ':Rho)(H H':Hp):Prop:=j4 (del H (owns ρ)) (del H' (owns ρ'))
def Fy(K:k7x)(ρ:Rho)(H H':Hp)(v:V):Rt->Prop
 |.val d=>j4 (del H (owns ρ)) H'/\Enc K H' d v
 |.fresh ds=>∃a xs,v=.ref a/\j4 (del H (owns ρ)) (del H' [a])/\H' a=a4 (.lst xs)/\j5 K (del H' [a]) ds xs
structure EndsOk(X:Cx)(ρ:Rho)(H:Hp)(P:Po)(E:Ends):Prop where
 nx:∀ρ' σ' H',P.nx ρ'->Rep X.K ρ' σ' H'->Fr0 ρ ρ' H H'->E.nx σ' H'
 bk:∀ρ' σ' H',P.bk ρ'->Rep X.K ρ' σ' H'->Fr0 ρ ρ' H H'->E.bk σ' H'
 ct:∀ρ' σ' H',P.ct ρ'->Rep X.K ρ' σ' H'->Fr0 ρ ρ' H H'->E.ct σ' H'
 rt:∀r v H',P.rt r->Fy X.K ρ H H' v r->E.rt v H'
 ex:∀x ρ' σ' H',P.ex x ρ'->Rep X.K ρ' σ' H'->Fr0 ρ ρ' H H'->O3 X σ' H' x
theorem Fy.step{K:k7x}{ρ ρ1:Rho}{H H1 H':Hp}{v:V}{r:Rt}(f:Fr0 ρ ρ1 H H1)(h:Fy K ρ1 H1 H' v r):Fy K ρ H H' v r:=by
 cases r with
 |val d=>exact⟨f.trans h.1,h.2⟩
 |fresh ds=>obtain⟨a,xs,e,g,m,l⟩:=h;exact⟨a,xs,e,f.trans g,m,l⟩
theorem EndsOk.step{X:Cx}{ρ ρ1:Rho}{H H1:Hp}{P:Po}{E:Ends}(h:EndsOk X ρ H P E)(f:Fr0 ρ ρ1 H H1):EndsOk X ρ1 H1 P E :=
 ⟨λρ' σ' H' n R g=>h.nx ρ' σ' H' n R (f.trans g),λρ' σ' H' n R g=>h.bk ρ' σ' H' n R (f.trans g),λρ' σ' H' n R g=>h.ct ρ' σ' H' n R (f.trans g),λr v H' n g=>h.rt r v H' n (Fy.step f g),λx ρ' σ' H' n R g=>h.ex x ρ' σ' H' n R (f.trans g)⟩
theorem Fr0.grow{ρ:Rho}{H H':Hp}(g:j4 H H'):Fr0 ρ ρ H H':=jf g
theorem Fr0.refl(ρ:Rho)(H:Hp):Fr0 ρ ρ H H:=j4.refl _
theorem Fr0.drop{ρ ρ':Rho}{H:Hp}(h:∀b∈owns ρ',b∈owns ρ):Fr0 ρ ρ' H H:=zy h
theorem Fr0.new{ρ:Rho}{H H':Hp}{i:Nat}{a:ae}{ds:List D}{K:k7x}{σ:St}(R:Rep K ρ σ H)(g:j4 H H')(n:H a=a7):Fr0 ρ (ρ.set i (.own a ds)) H H':=λb o q=>by
 obtain⟨nb,q⟩:=of_del q;rw[j7];exact g b o q;intro z;rcases(J2 (ds:=ds) (i:=i) R.nd (R.fresh n)).2 b z with e|z
 .subst e;rw[n]at q;cases q
 .exact nb z
def DS(X:Cx)(ρ:Rho)(st:aJ)(P:Po):Prop:=∀σ H E,Rep X.K ρ σ H->EndsOk X ρ H P E->j6w X st E σ H
def DSs(X:Cx)(ρ:Rho)(sts:List aJ)(P:Po):Prop:=∀σ H E,Rep X.K ρ σ H->EndsOk X ρ H P E->Qd X sts E σ H
section
variable{X:Cx}{ρ:Rho}{e a b c:ai}{es:List ai}{st:aJ}{rest sa sb body:List aJ}{P:Po}{d:D}{ds ds':List D}{pos p p1 p2 p3:aK}{x:af}{i:Nat}
theorem DSs.nil(h:P.nx ρ):DSs X ρ [] P:=λσ H E R q=>Ra.to (q.nx ρ σ H h R (Fr0.refl ρ H))
theorem DSs.cons{N:Rho->Prop}(h1:DS X ρ st { P with nx:=N })(h2:∀ρ1,N ρ1->DSs X ρ1 rest P):DSs X ρ (st::rest) P:=λσ H E R q =>(Zb psS Zc).to (h1 σ H { E with nx:=Qd X rest E } R ⟨λρ' σ' H' n R' f=>h2 ρ' n σ' H' E R' (q.step f),q.bk,q.ct,q.rt,q.ex⟩)
theorem DSs.freeze(i:Nat){l:ae}(h:ρ[i]?=a4 (.own l ds))(h2:DSs X (ρ.set i (.val (.lst ds))) body P):DSs X ρ body P:=λσ H E R q =>h2 σ H E (R.freeze h) (q.step (.drop λb hb=>(jc rfl).subset hb))
theorem DSs.forget(i:Nat)(h2:DSs X (ρ.set i .un) body P):DSs X ρ body P:=λσ H E R q=>by
 have z:=R.set_un (i:=i) (v:=a7);have R':Rep X.K (ρ.set i .un) σ H:=by
  have q:=R.set_un (i:=i) (v:=(σ[i]?).join);have e:σ.set i ((σ[i]?).join)=σ:=by
   apply Xz;intro j;rw[Tq];split
   .rename_i h;subst h;split
    .rename_i h;rw[kh h];rfl
    .rename_i h;rw[Xc nofun]
   .rfl
  rw[e]at q;exact q
 exact h2 σ H E R' (q.step (.drop λb hb=>(jc rfl).subset hb))
theorem DS.set(i:Nat)(he:DE X ρ e d)(h:P.nx (ρ.set i (.val d)))(hN:X.N.Nodup)(hi:X.N[i]?=a4 x:=by rfl)(hx:Loc X.env.scope x:=by first|exact aN rfl|exact bu rfl)
  (hs:aP e (a4 (.Name x p)) pos.line X.env=pure a5:=by rfl) (hf:X.fn x=a6\/X.env.scope.names.lookup x=a4 .local:=by first|exact .inl rfl|exact .inr rfl):DS X ρ (.Assign [.Name x p] e pos) P:=λσ H E R q =>
 (Yu hN hi hx peS hs hf).to (he σ H _ R λv H1 g1 e1=>q.nx _ _ H1 h ((R.grow g1).set_val e1) (j4.trans (Fr0.grow g1) (Fr0.drop λb hb=>(jc rfl).subset hb)))
theorem DS.setO(i:Nat)(he:DO X ρ e ds)(h:∀l,P.nx (ρ.set i (.own l ds)))(hN:X.N.Nodup)(hi:X.N[i]?=a4 x:=by rfl)(hx:Loc X.env.scope x:=by first|exact aN rfl|exact bu rfl)
  (hs:aP e (a4 (.Name x p)) pos.line X.env=pure a5:=by rfl) (hf:X.fn x=a6\/X.env.scope.names.lookup x=a4 .local:=by first|exact .inl rfl|exact .inr rfl):DS X ρ (.Assign [.Name x p] e pos) P:=λσ H E R q =>
 (Yu hN hi hx peS hs hf).to (he σ H _ R λl xs H1 g1 n m e1=>q.nx _ _ H1 (h l) (R.set_own g1 n m e1) (.new R g1 n))
theorem DS.if{k:Bool}(hc:DB X ρ c k)(ha:k=a6->DSs X ρ sa P)(hb:k=a5->DSs X ρ sb P):DS X ρ (.If c sa sb pos) P:=λσ H E R q =>
 (j2j ptS Zc Zc).to (hc σ H _ R λH1 g1=>by
  cases k with
  |true=>exact Ei (ha rfl σ H1 E (R.grow g1) (q.step (.grow g1)))
  |false=>exact Nx (hb rfl σ H1 E (R.grow g1) (q.step (.grow g1))))
theorem DS.ret(he:DT X ρ e d)(h:P.rt (.val d)):DS X ρ (.Return (a4 e) pos) P:=λσ H E R q =>(W9 peS).to (he σ H _ R λv H1 g1 e1=>q.rt _ v H1 h ⟨q8.trans g1,e1⟩)
theorem DS.retO(he:DO X ρ e ds)(h:P.rt (.fresh ds)):DS X ρ (.Return (a4 e) pos) P:=λσ H E R q =>
 (W9 peS).to (he σ H _ R λl xs H1 g1 n m e1=>q.rt _ _ H1 h ⟨l,xs,rfl,(λb o z=>by
  obtain⟨nb,z⟩:=of_del z
  rw[j7];exact g1 b o z
  intro y;rw[X6.mp y,n]at z;cases z),m,e1.mono (zy λb hb=>by rw[X6.mp hb];exact xq ..)⟩)
theorem DS.retV(k:Nat){l:ae}(hk:ρ[k]?=a4 (.own l ds))(h:P.rt (.fresh ds))(hN:X.N[k]?=a4 x:=by rfl)(hv:Vis X.env.scope x:=by first|exact aN rfl|exact bu (aN rfl)|exact bu (bu rfl))
  (hd:(x==k81)=a5:=by decide) (hcd:(x==k82)=a5:=by decide):DS X ρ (.Return (a4 (.Name x p)) pos) P:=λσ H E R q=>by
 obtain⟨hs,xs,m,en⟩:=R.own k l ds hk;have g:j4 (del H (owns ρ)) (del H [l]):=zy λb hb=>by rw[X6.mp hb];exact Jh hk
 exact(W9 (v7 hN hv hd hcd)).to ⟨_,hs,q.rt _ _ H h ⟨l,xs,rfl,g,m,en.mono g⟩⟩
theorem DS.expr(he:DT X ρ e d)(h:P.nx ρ)(hs:aP e a7 pos.line X.env=pure a5:=by rfl):DS X ρ (.Expr e pos) P:=λσ H E R q =>(Zd peS hs).to (he σ H _ R λv H1 g1 e1=>q.nx ρ σ H1 h (R.grow g1) (.grow g1))
theorem Yz{σ:St}{H H':Hp}{l:ae}{o:HO}(hk:ρ[i]?=a4 (.own l ds))(g:j4 H H'):Fr0 ρ (ρ.set i (.own l ds')) H (upd H' l o):=by unfold Fr0;rw[Jo hk,Vi (Jh hk)];exact jf g
theorem DS.append(i:Nat){l:ae}(hk:ρ[i]?=a4 (.own l ds))(he:DE X ρ e d)(hl:ds.length<ak)(h:P.nx (ρ.set i (.own l (ds++[d]))))
  (hN:X.N[i]?=a4 x:=by rfl) (hv:Vis X.env.scope x:=by first|exact aN rfl|exact bu (aN rfl)|exact bu (bu rfl)) (hd:(x==k81)=a5:=by decide) (hcd:(x==k82)=a5:=by decide)
  (hst:a8 [e] X.env=[(a5,az e X.env)]:=by rfl) (hline:(p1.endLine==p2.line)=a6:=by rfl)
  (hbase:aM (.Name x p) "append" X.env (az (.Name x p) X.env)=az (.Name x p) X.env:=by rfl) (hfew:((aO p2 (a8 [e] X.env)).all (λx=>!x.1)&&(bo p2 (aT [] X.env)).all (λx=>x.1.isSome)
   && decide (([e]:List ai).length+([]:List aR).length+(if ([]:List aR).isEmpty then 0 else 1)<30))=a6:=by rfl)
  (hs:aP (.Call (.Attribute (.Name x p) "append" p1) [e] [] p2) a7 pos.line X.env=pure a5:=by rfl) :
  DS X ρ (.Expr (.Call (.Attribute (.Name x p) "append" p1) [e] [] p2) pos) P:=λσ H E R q=>by
 obtain⟨hσ,xs,m,en⟩:=R.own i l ds hk;refine(Zd (Yc Pu bY cW Ye (v7 hN hv hd hcd) (j9 peS jl hst) hbase hfew hline hst rfl) hs).to ?_;refine⟨_,hσ,.inl ⟨rfl,xs,.inl (.inl m)⟩,he σ H _ R λv H1 g1 e1=>⟨l,xs,v,rfl,rfl,g1 _ _ m,by rw[en.length];exact hl,?_⟩⟩;exact q.nx _ σ _ h ((R.grow g1).upd_own hk ((en.mono (jf g1)).append (.one e1))) (Yz (σ:=σ) hk g1)
theorem DS.extend(i:Nat){l:ae}(hk:ρ[i]?=a4 (.own l ds))(he:DO X ρ e ds')(hl:ds.length+ds'.length<=ak)(h:P.nx (ρ.set i (.own l (ds++ds'))))
  (hN:X.N[i]?=a4 x:=by rfl) (hv:Vis X.env.scope x:=by first|exact aN rfl|exact bu (aN rfl)|exact bu (bu rfl)) (hd:(x==k81)=a5:=by decide) (hcd:(x==k82)=a5:=by decide)
  (hst:a8 [e] X.env=[(a5,az e X.env)]:=by rfl) (hline:(p1.endLine==p2.line)=a6:=by rfl)
  (hbase:aM (.Name x p) "extend" X.env (az (.Name x p) X.env)=az (.Name x p) X.env:=by rfl) (hfew:((aO p2 (a8 [e] X.env)).all (λx=>!x.1)&&(bo p2 (aT [] X.env)).all (λx=>x.1.isSome)
   && decide (([e]:List ai).length+([]:List aR).length+(if ([]:List aR).isEmpty then 0 else 1)<30))=a6:=by rfl)
  (hs:aP (.Call (.Attribute (.Name x p) "extend" p1) [e] [] p2) a7 pos.line X.env=pure a5:=by rfl) :
  DS X ρ (.Expr (.Call (.Attribute (.Name x p) "extend" p1) [e] [] p2) pos) P:=λσ H E R q=>by
 obtain⟨hσ,xs,m,en⟩:=R.own i l ds hk;refine(Zd (Yc Pu gL PySem.F.type_list_extend j4x (v7 hN hv hd hcd) (j9 peS jl hst) hbase hfew hline hst rfl) hs).to ?_;refine⟨_,hσ,.inl ⟨rfl,xs,.inl (.inl m)⟩,he σ H _ R λb ys H1 g1 n1 m1 e1=>⟨l,b,xs,ys,rfl,rfl,g1 _ _ m,m1,by rw[en.length,e1.length];exact hl,?_⟩⟩;exact q.nx _ σ _ h ((R.grow g1).upd_own hk ((en.mono (jf g1)).append (e1.mono (zy λc hc=>xg _ hc)))) (Yz (σ:=σ) hk g1)
def Uz(K:k7x)(F:Hp)(J:It)(ds:List D):Prop:=∀(i:Nat)(H:Hp)(A:List ae),j4 F (del H A)->(∀a∈A,H a≠a7) ->
 (i<ds.length->J.go i H)/\(ds.length<=i->J.stop i H)/\∀x H',J.yld i H x H'->j4 H H'/\∀d,ds[i]?=a4 d->Enc K (del H' A) d x
def DI(X:Cx)(ρ:Rho)(tg it:ai)(ds:List D):Prop:=∀σ H R,Rep X.K ρ σ H->(∀J H',j4 H H'->Uz X.K (del H' (owns ρ)) J ds->R J H')->j6x X tg it σ H R
variable{tg it:ai}
theorem j59{K:k7x}{F:Hp}{l:ae}{xs:List V}(sq:SqL K F l xs)(en:j5 K F ds xs):Uz K F (Itl K l) ds:=λi H A g hA=>by
 have sq':SqL K H l xs:=q8.seq (g.seq sq);refine⟨λh=>?_,λh=>⟨xs,sq',by rw[en.length];exact h⟩,λx H' ⟨e,y⟩=>?_⟩
 .obtain⟨v,hv,_⟩:=en.get (kh h);exact⟨xs,v,sq',hv⟩
 .subst e;refine⟨j4.refl _,λd hd=>?_⟩;obtain⟨v,hv,ev⟩:=en.get hd;have e:=y xs sq';rw[hv]at e;cases e;exact ev.mono g
theorem j7s{K:k7x}{F:Hp}{l:ae}{xs:List V}(sq:SqT K F l xs)(en:j5 K F ds xs):Uz K F (Itt K l) ds:=λi H A g hA=>by
 have sq':SqT K H l xs:=q8.seqT (g.seqT sq);refine⟨λh=>?_,λh=>⟨xs,sq',by rw[en.length];exact h⟩,λx H' ⟨e,y⟩=>?_⟩
 .obtain⟨v,hv,_⟩:=en.get (kh h);exact⟨xs,v,sq',hv⟩
 .subst e;refine⟨j4.refl _,λd hd=>?_⟩;obtain⟨v,hv,ev⟩:=en.get hd;have e:=y xs sq';rw[hv]at e;cases e;exact ev.mono g
theorem DI.lst(h:DE X ρ it (.lst ds)):DI X ρ tg it ds:=λσ H R r q=>(j1c peS).to (h σ H _ r λv H1 g1 ⟨l,xs,e,sq,en⟩=>⟨l,e,⟨xs,q8.seq sq⟩,q _ H1 g1 (j59 sq en)⟩)
theorem DI.tup(h:DE X ρ it (.tup ds)):DI X ρ tg it ds:=λσ H R r q=>(jet peS).to (h σ H _ r λv H1 g1 ⟨l,xs,e,sq,en⟩=>⟨l,e,⟨xs,q8.seqT sq⟩,q _ H1 g1 (j7s sq en)⟩)
noncomputable def upto(lo:Int)(n:Nat):List D:=(au n).map λk=>D.int (lo+(k:Nat))
theorem Ox{K:k7x}{F:Hp}(lo:Int)(n:Nat):Uz K F (Itr lo n) (upto lo n):=λi H A g hA=>by
 have hl:(upto lo n).length=n:=by unfold upto;rw[xj,Xw]
 rw[hl];refine⟨λh=>h,λh=>h,λx H' ⟨e,y⟩=>?_⟩;subst e;refine⟨j4.refl _,λd hd=>?_⟩;unfold upto at hd;rw[xx]at hd;cases z:(au n)[i]? with
 |none=>rw[z]at hd;cases hd
 |some k =>
  rw[z]at hd;have ek:k=i:=by have:=Xu (n:=n) (i:=i) (by have:=(Xb.mp z).1;rwa [Xw]at this);rw[this]at z;exact(aw z).symm
  subst ek;cases hd;exact y
theorem DI.range1 {n:Int} (h:DT X ρ a (.int n)) (hm:X.mg "range" = a7) (h1:-(2^62)<=n) (h2:n<2^62) (hg:Gl X "range":=by rfl) (hs:a8 [a] X.env=[(a5,az a X.env)]:=by rfl):DI X ρ tg (.Call (.Name "range" p) [a] [] pos) (upto 0 n.toNat):=λσ H R r q =>(j4g hg hm (j9 peS jl hs) hs).to (h σ H _ r λv H1 g1 e=>⟨n,by rw[show v=.int n from e],h1,h2,q _ H1 g1 (Ox 0 _)⟩)
theorem DI.range2 {m n:Int} (h:DT X ρ a (.int m)) (h':DT X ρ b (.int n)) (hm:X.mg "range" = a7) (h1:-(2^62)<=m) (h2:m<2^62) (h3:-(2^62)<=n) (h4:n<2^62) (hg:Gl X "range":=by rfl) (hs:a8 [a,b] X.env=[(a5,az a X.env),(a5,az b X.env)]:=by rfl)
  (hs2:a8 [b] X.env=[(a5,az b X.env)]:=by rfl) (hs3:a8 [a,b] X.env=(a5,az a X.env)::a8 [b] X.env:=by rfl):DI X ρ tg (.Call (.Name "range" p) [a,b] [] pos) (upto m (n-m).toNat):=λσ H R r q =>
 (j4f hg hm (j9 peS (j9 peS jl hs2) hs3) hs hs2).to (h σ H _ r λv H1 g1 e=>h' σ H1 _ (r.grow g1) λu H2 g2 e2=>⟨m,n,by rw[show v=.int m from e,show u=.int n from e2],⟨h1,h2,h3,h4⟩,q _ H2 (g1.trans g2) (Ox m _)⟩)
def j6y(X:Cx)(tg:ai):TG:=λv σ H Q=>∀pins s u,Inv X pins σ H s->RelV v u->ax (ay X.prog X.w) X.A (cI tg X.env u) (λ_ s'=>∃σ' H',Inv X pins σ' H' s'/\Q σ' H') X.xe s
theorem pgS:PG X tg (j6y X tg):=λpins s σ H v u Q I r h=>h pins s u I r
theorem PG.to{t:TG}{σ:St}{H:Hp}{v:V}{Q:St->Hp->Prop}(h:PG X tg t)(q:t v σ H Q):j6y X tg v σ H Q:=λpins s u I r=>h pins s σ H v u Q I r q
def DG(X:Cx)(ρ:Rho)(tg:ai)(d:D)(ρ':Rho):Prop:=(∀b∈owns ρ',b∈owns ρ)/\∀σ H v Q,Rep X.K ρ σ H->Enc X.K (del H (owns ρ)) d v->(∀σ',Rep X.K ρ' σ' H->Q σ' H)->j6y X tg v σ H Q
theorem DG.name(i:Nat)(hN:X.N.Nodup)(hi:X.N[i]?=a4 x:=by rfl)(hx:Loc X.env.scope x:=by first|exact aN rfl|exact bu rfl)(hf:X.fn x=a6\/X.env.scope.names.lookup x=a4 .local:=by first|exact .inl rfl|exact .inr rfl):DG X ρ (.Name x p) d (ρ.set i (.val d)) :=
 ⟨λb hb=>(jc rfl).subset hb,λσ H v Q R en q=>(Yv hN hi hx hf).to (q _ (R.set_val en))⟩
theorem DS.for(W:Nat->Rho->Prop)(hi:DI X ρ tg it ds)(h0:W 0 ρ)(hs:∀i d ρ',ds[i]?=a4 d->W i ρ'->∃ρ2,DG X ρ' tg d ρ2/\DSs X ρ2 body { nx:=W (i+1),rt:=P.rt,bk:=P.nx,ct:=W (i+1),ex:=P.ex })
  (hd:∀ρ',W ds.length ρ'->P.nx ρ') (hc:X.calm=a6) (hp:dP (ay X.prog X.w) X.A X.env X.xe) (hf:∀x,aH it X.env x=pure x:=by intro _;rfl):DS X ρ (.For tg it body [] pos) P:=λσ H E R q=>by
 refine(Ig hp hc piS pgS Zc hf).to (hi σ H _ R λJ H1 g1 ok=>?_);refine⟨λi m σ' H'=>∃ρ',W i ρ'/\Rep X.K ρ' σ' H'/\Fr0 ρ ρ' H1 H'/\m=ds.length-i/\i<=ds.length,⟨ds.length,ρ,h0,R.grow g1,Fr0.refl _ _,rfl,T9 _⟩,?_⟩;rintro i m σ' H' ⟨ρ',w,R',f,rfl,hle⟩;obtain⟨go,stop,yld⟩:=ok i H' (owns ρ') f λa ha=>by obtain⟨xs,e⟩:=R'.owned a ha;rw[e];simp
 by_cases hlt:i<ds.length
 .refine .inr ⟨go hlt,λσ2 H2=>∃ρ2,W (i+1) ρ2/\Rep X.K ρ2 σ2 H2/\Fr0 ρ ρ2 H1 H2,λσ2 H2 ⟨ρ2,w2,R2,f2⟩=>⟨ds.length-(i+1),by omega,ρ2,w2,R2,f2,rfl,hlt⟩,λx H2 y=>?_⟩;obtain⟨g2,en⟩:=yld x H2 y;obtain⟨ρ2,⟨sub,hG⟩,hB⟩:=hs i ds[i] ρ' (kh hlt) w;refine hG σ' H2 x _ (R'.grow g2) (en _ (kh hlt)) λσ3 R3=>?_;have f2:Fr0 ρ ρ2 H1 H2:=j4.trans f (j4.trans (Fr0.grow g2) (Fr0.drop sub));refine hB σ3 H2 _ R3 ⟨λρ3 σ4 H4 n R4 f4=>⟨ρ3,n,R4,f2.trans f4⟩,λρ3 σ4 H4 n R4 f4=>q.nx ρ3 σ4 H4 n R4 ((Fr0.grow g1).trans (f2.trans f4)),λρ3 σ4 H4 n R4 f4=>⟨ρ3,n,R4,f2.trans f4⟩,λr v H4 n z=>q.rt r v H4 n (Fy.step ((Fr0.grow g1).trans f2) z),λx ρ3 σ4 H4 n R4 f4=>q.ex x ρ3 σ4 H4 n R4 ((Fr0.grow g1).trans (f2.trans f4))⟩
 .have e:i=ds.length:=by omega
  subst e;exact .inl ⟨stop (X7 _),q.nx ρ' σ' H' (hd ρ' w) R' ((Fr0.grow g1).trans f)⟩
end
noncomputable def jm(N:List af)(ds:List D):Rho:=ds.map Sl.val++ao (N.length-ds.length) Sl.un
theorem Js(N:List af)(ds:List D):owns (jm N ds)=[]:=by
 unfold owns jm;rw[List.filterMap_append];have h1:(ds.map Sl.val).filterMap Sl.addr=[]:=List.filterMap_eq_nil_iff.mpr λs hs=>by obtain⟨d,_,rfl⟩:=Xh.mp hs;rfl
 have h2:(ao (N.length-ds.length) Sl.un).filterMap Sl.addr=[]:=List.filterMap_eq_nil_iff.mpr λs hs=>by rw[(T7.mp hs).2];rfl
 rw[h1,h2];rfl
theorem Ql{K:k7x}{H:Hp}{N:List af}{ds:List D}{vs:List V}(tb:TabOk K H)(h:j5 K H ds vs):Rep K (jm N ds) (start N vs) H:=by
 have ho:=Js N ds;have hl:=h.length;refine⟨by unfold jm start;simp[hl],λi d e=>?_,λi a l e=>?_,by rw[ho];exact jC,λi a o y e=>?_,tb⟩
 .rw[ho,v8];unfold jm at e;by_cases z:i<ds.length
  .rw[Pz (by simpa using z),xx]at e;rw[kh z]at e;cases e;obtain⟨v,hv,en⟩:=h.get (kh z);refine⟨v,?_,en⟩;unfold start;rw[Pz (by rw[xj,hl];exact z),xx,hv];rfl
  .rw[cS (by simpa using z)]at e;have:=Xl e;cases(T7.mp this).2
 .have:=Jh e;rw[ho]at this;cases this
 .unfold jm at e;rcases ph.mp (Xl e)with z|z
  .obtain⟨d,_,q⟩:=Xh.mp z;cases q
  .cases(T7.mp z).2
section
variable{P:ar}{w:aA}{K:k7x}{mg:k80}{base:aE}{x qual:af}{st:aJ}{f:ae}{fd:aG}{N ps:List af}{k:Nat}
def V5(K:k7x)(f:ae)(cdv:aa):Prop:=∃(oc:aa)(od:Option ae)(fd:aG)(sl:Array (Option aa)),K.lookup f=a4 ⟨oc,od,.func fd,sl⟩/\fd.code=cdv
theorem Fun.okC{sp:Sp}(F:Fun K x qual st f fd)(S:FnScope N ps (j0 st))(len:∀vs H Q E,sp vs H Q E->vs.length=ps.length)
  (hbody:∀(cdv:aa)(A:aD)(outer:List cu)(s:ah)(H:Hp)(vs:List V)(Q:VK) (E:XK),V5 K f cdv->Room k (A.deeper (ba qual (j0 st) s.heap.objs.size f cdv))->sp vs H Q E ->
   ∃t,PSs (jx CX0 P w K mg base N qual (j0 st) f cdv A outer s H E).nox (jb st) t/\t { nx:=λ_ H'=>Q .non H',rt:=Q } (start N vs) H):FnOk P w K mg base CX0 (k+1) f fd ps sp:=by
 obtain⟨oc,od,dV,kV,doc,pm,an,cdv,ct,osl,rfl,lk,hcd⟩:=F.ex;refine j31 lk hcd S len λA outer s H vs Q E hr hsp=>?_;obtain⟨t,h,q⟩:=hbody cdv A outer s H vs Q E ⟨oc,od,_,osl,lk,rfl⟩ hr hsp;exact⟨t,h.nox,q⟩
theorem Ff{S:List D->D->Prop}(F:Fun K x qual st f fd)(Sc:FnScope N ps (j0 st))(hl:∀ds d,S ds d->ds.length=ps.length)
  (hbody:∀(cdv:aa)(A:aD)(outer:List cu)(s:ah)(H:Hp)(E:XK),V5 K f cdv->Room k (A.deeper (ba qual (j0 st) s.heap.objs.size f cdv))->∀ds d,S ds d ->
   DSs (jx CX0 P w K mg base N qual (j0 st) f cdv A outer s H E).nox (jm N ds) (jb st) { nx:=λ_=>d=.non,rt:=λr=>r.d=d }):FnOk P w K mg base CX0 (k+1) f fd ps (spP K S):=by
 refine FnOk.toP (F.okC Sc (λvs H Q E ⟨ds,d,tb,en,hS,_⟩=>by rw[en.length];exact hl ds d hS) λcdv A outer s H vs Q E hcv hr ⟨ds,d,tb,en,hS,q⟩=>⟨_,Zc,?_⟩);have ho:=Js N ds;refine hbody cdv A outer s H E hcv hr ds d hS (start N vs) H _ (Ql tb en) ⟨λρ' σ' H' n R f=>?_,λ_ _ _ z=>z.elim,λ_ _ _ z=>z.elim,λr v H' n z=>?_,λ_ _ _ _ z=>z.elim⟩
 .subst n;unfold Fr0 at f;rw[ho,v8]at f;exact q _ H' (f.trans q8) rfl
 .cases r with
  |val d' =>cases(show d'=d from n);obtain⟨g,en'⟩:=z;rw[ho,v8]at g;exact q v H' g en'
  |fresh l =>cases(show D.lst l=d from n);obtain⟨a,xs,e,g,m,en'⟩:=z;rw[ho,v8]at g;exact q v H' (g.trans q8) ⟨a,xs,e,.inl (.inl m),en'.mono q8⟩
theorem j8h{S:List D->List D->Prop}(F:Fun K x qual st f fd)(Sc:FnScope N ps (j0 st))(hl:∀ds d,S ds d->ds.length=ps.length)
  (hbody:∀(cdv:aa)(A:aD)(outer:List cu)(s:ah)(H:Hp)(E:XK),V5 K f cdv->Room k (A.deeper (ba qual (j0 st) s.heap.objs.size f cdv))->∀ds l,S ds l ->
   DSs (jx CX0 P w K mg base N qual (j0 st) f cdv A outer s H E).nox (jm N ds) (jb st) { nx:=λ_=>False,rt:=λr=>r=.fresh l }):FnOk P w K mg base CX0 (k+1) f fd ps (spF K S):=by
 refine FnOk.toF (F.okC Sc (λvs H Q E ⟨ds,d,tb,en,hS,_⟩=>by rw[en.length];exact hl ds d hS) λcdv A outer s H vs Q E hcv hr ⟨ds,l,tb,en,hS,q⟩=>⟨_,Zc,?_⟩);have ho:=Js N ds;refine hbody cdv A outer s H E hcv hr ds l hS (start N vs) H _ (Ql tb en) ⟨λρ' σ' H' n R f=>n.elim,λ_ _ _ z=>z.elim,λ_ _ _ z=>z.elim,λr v H' n z=>?_,λ_ _ _ _ z=>z.elim⟩;cases(show r=.fresh l from n);obtain⟨a,xs,e,g,m,en'⟩:=z;rw[ho,v8]at g;subst e;refine q a xs H' (g.trans q8) ?_ m en';cases y:H a with
 |none=>rfl
 |some o=>have:=g a o y;rw[z9 (X6.mpr rfl)]at this;cases this
end
section
variable{prog:ar}{w:aA}{A:aD}{R:eO->ah->Prop}{s:ah}
theorem j00{elt target iter:ai}{ifs:List ai}{scope:b8}{pos:aK}{it acc:aa}{env:cu}(I:Nat->ah->Prop)
  (turn:∀n s,I n s->ax (ay prog w) A (pyNext it) (λr s₁=>match r with
   |none=>R (.ok .next) s₁
   |some v=>ax (ay prog w) A (dZ target it v) (λ_ s₁'=>ax (ay prog w) A (cI target env v) (λ_ s₂ =>
     ax (ay prog w) A (forIn ifs a6 λc r=>if r=a6 then do let ok <-ft c env (az c env);pure (bQ ok)else pure (bQ r)) (λok s₃ =>
      if ok=a6 then ax (ay prog w) A (az elt env) (λx s₄ =>
       ax (ay prog w) A (call (.builtin "list.append") [acc,x]) (λ_ s₅=>∃m,m<n/\I m s₅) (λ_ _=>False) s₄) (λ_ _=>False) s₃
      else ∃m,m<n/\I m s₃) (λ_ _=>False) s₂) (λ_ _=>False) s₁') (λ_ _=>False) s₁) (λ_ _=>False) s)
  (n:Nat) (h:I n s) :
  c9 (ay prog w) A (.compLoop (.ListComp elt [⟨target,iter,ifs,0⟩] scope pos) 0 it acc env) R s:=by
 refine codeAny_loop rfl I (λn s hI=>?_) n h;show ax _ A ((compTurn (.ListComp elt [⟨target,iter,ifs,0⟩] scope pos) 0 it acc env).onRaise (λx=>do de x env;theTreesLotGoes x)) _ _ s;refine wpAny_noted ?_;rw[compTurn_list];refine aj (fb (aj (aZ (turn n s hI) (λr s₁ h₁=>?_) λ_ _ h'=>h'.elim)));cases r with
 |none=>exact aC h₁
 |some v =>
  refine aj (aZ h₁ (λ_ s₁' h₁'=>?_) λ_ _ h'=>h'.elim);refine aj (aZ h₁' (λ_ s₂ h₂=>aj (aZ h₂ (λok s₃ h₃=>?_) λ_ _ h'=>h'.elim)) λ_ _ h'=>h'.elim);cases ok with
  |false=>exact aC ⟨rfl,h₃⟩
  |true =>exact aj (aj (aZ h₃ (λx s₄ h₄=>aj (aZ h₄ (λ_ s₅ h₅=>aC (aC ⟨rfl,h₅⟩)) λ_ _ h'=>h'.elim)) λ_ _ h'=>h'.elim))
end
noncomputable def zm(env:cu):List (af×bq)->List (af×ae)->List (af×ae)
 |[],acc=>acc
 |(n,k)::r,acc=>zm env r (if k==.free then(match env.cells.lookup n with|some a=>(n,a)::acc|none=>acc)else acc)
theorem Bt{scope:b8}{env:cu}(h:∀y∈scope.names,y.2=.free->(env.cells.lookup y.1).isSome=a6):closureFor scope env=pure (zm env scope.names []):=by
 simp only[closureFor];have step:∀(names:List (af×bq)) (acc:List (af×ae)),(∀y∈names,y.2=.free->(env.cells.lookup y.1).isSome=a6) ->
   (forIn names acc (λx r=>(do if (x.2==b9)=a6 then(do let a <-cellOf env x.1;pure (bQ ((x.1,a)::r)))else pure (bQ r):kZ _)):kZ _)=pure (zm env names acc):=by
  intro names;induction names with
  |nil=>intro acc _;rfl
  |cons y r ih =>
   intro acc hy;obtain⟨n,k⟩:=y;rw[List.forIn_cons];by_cases e:(k==b9)=a6
   .have hk:k=.free:=by simpa using e
    have hs:=hy (n,k) (xq ..) hk;obtain⟨a,ha⟩:=Xr.mp hs;have hc:cellOf env n=pure a:=by unfold cellOf;rw[ha]
    simp only[e,if_true,hc,pure_bind];rw[ih _ λz hz=>hy z (xg _ hz)];simp only[zm,e,if_true,ha]
   .have e':(k==b9)=a5:=by simpa using e
    simp only[e',Pr,if_false,pure_bind];rw[ih _ λz hz=>hy z (xg _ hz)];simp only[zm,e',Pr,if_false]
 have:=step scope.names [] h;rw[show(forIn scope.names ([]:List (af×ae)) λx r=>_)=_ from this];rfl
theorem Cj{env:cu}{y:af}{c:ae}:∀{names:List (af×bq)} {acc:List (af×ae)},(∀y c,acc.lookup y=a4 c->env.cells.lookup y=a4 c)->(zm env names acc).lookup y=a4 c->env.cells.lookup y=a4 c
 |[],acc,h,q=>h y c q
 |(n,k)::r,acc,h,q=>by
  unfold zm at q;refine Cj (acc:=_) ?_ q;intro z d hz;split at hz
  .split at hz
   .rename_i a ha;rw[Xn]at hz;split at hz
    .rename_i e;have e':z=n:=by simpa using e
     subst e';cases hz;exact ha
    .exact h z d hz
   .exact h z d hz
  .exact h z d hz
theorem Bu{env:cu}{y:af}:∀{names:List (af×bq)} {acc:List (af×ae)},(acc.lookup y).isSome=a6->((zm env names acc).lookup y).isSome=a6
 |[],acc,h=>h
 |(n,k)::r,acc,h=>by
  unfold zm;refine Bu ?_;split
  .split
   .rw[Xn];split
    .rfl
    .exact h
   .exact h
  .exact h
theorem Ur{env:cu}{y:af}(hs:(env.cells.lookup y).isSome=a6):∀{names:List (af×bq)} {acc:List (af×ae)},(y,b9)∈names->((zm env names acc).lookup y).isSome=a6
 |[],acc,h=>nomatch h
 |(n,k)::r,acc,h=>by
  unfold zm;rcases xn.mp h with e|h
  .cases e;refine Bu ?_;obtain⟨a,ha⟩:=Xr.mp hs;rw[if_pos (by rfl),ha];rw[Xn];simp
  .exact Ur hs h
noncomputable def J5(scope:b8)(env:cu)(N:List af)(cs:List Nat):Bool :=
 scope.names.all (λy=>(y.2 != .cell || scope.names.lookup y.1==a4 .cell)&&(y.2 != .local || scope.names.lookup y.1==a4 .local)&&(y.2 != .free || ((env.cells.lookup y.1).isSome&&(env.kindOf y.1==a4 .cell || env.kindOf y.1==a4 .free)))) &&
 (au N.length).all (λj=>cs.contains j || (match N[j]? with|some y=>scope.names.lookup y != a4 .local&&scope.names.lookup y != a4 .cell|none=>a6))
theorem lookup_mem{α β:Type}[BEq α][LawfulBEq α]{l:List (α×β)}{a:α}{b:β}(h:l.lookup a=a4 b):(a,b)∈l:=by
 induction l with
 |nil=>cases h
 |cons x r ih =>
  obtain⟨c,d⟩:=x;rw[Xn]at h;split at h
  .rename_i e;cases h;have e':a=c:=by simpa using e
   subst e';exact xq ..
  .exact xg _ (ih h)
theorem Jb{env:cu}{x:af}{k':bq}:∀{names:List (af×bq)},
  (names.map λ(n,k)=>if (k==b9&&env.scope.kind==.function&&env.kindOf n==a4 .cell) then(n,bC) else(n,k)).lookup x=a4 k' ->
  ∃k,names.lookup x=a4 k/\(k'=k\/(k=.free/\k'=.cell))
 |[],h=>by cases h
 |(n,k)::r,h=>by
  rw[X3]at h;rw[Xn];by_cases hc:(k==b9&&env.scope.kind==.function&&env.kindOf n==a4 .cell)=a6
  .dsimp only at h;rw[if_pos hc,Xn]at h;cases e:x==n with
   |true =>
    rw[e]at h;cases h;have:(k==b9)=a6:=by
     cases z:k==b9 with
     |true=>rfl
     |false=>rw[z]at hc;simp at hc
    exact⟨k,rfl,.inr ⟨by simpa using this,rfl⟩⟩
   |false=>rw[e]at h;exact Jb h
  .dsimp only at h;rw[if_neg hc,Xn]at h;cases e:x==n with
   |true=>rw[e]at h;cases h;exact⟨_,rfl,.inl rfl⟩
   |false=>rw[e]at h;exact Jb h
theorem Vy:∀(names:List (af×bq)) (n:Nat) (acc:List (af×ae)),aQ n names acc=aQ n names []++acc
 |[],_,_=>rfl
 |(x,k)::r,n,acc=>by
  unfold aQ;split
  .rw[Vy r (n+1) ((x,n)::acc),Vy r (n+1) [(x,n)],Tp];rfl
  .exact Vy r n acc
theorem Bv:∀{names:List (af×bq)} {n:Nat} {x:af} {c:ae},(x,c)∈aQ n names []->(x,bC)∈names/\n<=c
 |[],_,_,_,h=>nomatch h
 |(y,k)::r,n,x,c,h=>by
  unfold aQ at h;split at h
  .rename_i hk;rw[Vy]at h;rcases ph.mp h with h|h
   .have q:=Bv h;exact⟨xg _ q.1,Nat.le_of_succ_le q.2⟩
   .cases X6.mp h;have hk:k=bC:=by simpa using hk
    subst hk;exact⟨xq ..,X7 _⟩
  .have q:=Bv h;exact⟨xg _ q.1,q.2⟩
theorem V9{β:Type}:∀{l m:List (af×β)} {y:af},(l++m).lookup y=(l.lookup y).or (m.lookup y)
 |[],m,y=>rfl
 |(x,b)::r,m,y=>by
  rw[cz,Xn,Xn];split
  .rfl
  .exact V9
theorem Ck{names:List (af×bq)}{n:Nat}{acc:List (af×ae)}{y:af}{c:ae}(h:(aQ n names acc).lookup y=a4 c) :
  ((y,c)∈aQ n names []/\(y,bC)∈names/\n<=c)\/((aQ n names []).lookup y=a7/\acc.lookup y=a4 c):=by
 rw[Vy,V9]at h;cases e:(aQ n names []).lookup y with
 |some c'=>rw[e]at h;cases h;have q:=lookup_mem e;exact .inl ⟨q,Bv q⟩
 |none=>rw[e]at h;exact .inr ⟨rfl,h⟩
theorem jhb{names:List (af×bq)}{n:Nat}{acc:List (af×ae)}{y:af}(h:(y,bC)∉names):(aQ n names acc).lookup y=acc.lookup y:=by
 rw[Vy,V9];cases e:(aQ n names []).lookup y with
 |some c'=>exact absurd (Bv (lookup_mem e)).1 h
 |none=>rfl
theorem jd0{names:List (af×bq)}{n:Nat}{acc:List (af×ae)}{y:af}(h:(acc.lookup y).isSome=a6):∃c,(aQ n names acc).lookup y=a4 c:=by
 rw[Vy,V9];cases e:(aQ n names []).lookup y with
 |some c'=>exact⟨c',rfl⟩
 |none=>obtain⟨c,hc⟩:=Xr.mp h;exact⟨c,hc⟩
theorem Io{M:g6}{A:aD}{E:k7y}{s:ah}{scope:b8}{globals:ae}{closure:List (af×ae)}{qual:af}{env:cu}{Q:cu->ah->Prop}
  (hQ:Q { scope:=scope,locals:=s.heap.objs.size,globals:=globals,cells:=aQ (s.heap.objs.size+1) scope.names closure,qual:=qual,func:=a7,code:=env.code,frame:=env.frame,builtins:=env.builtins }
   { s with heap:=ic (s.heap.push { cls:=.type "dict",data:=.dict #[] }) scope.names }) :
  ax M A (eM scope globals closure [] qual a7 .none (a4 env)) Q E s:=by
 simp only[eM,eA,if_true];refine aj (wpAny_alloc ?_);refine aj (wpAny_layCells _ (λname kind cells=>by cases hkc:kind==bC<;>simp[hkc]) _ _ _ _ ?_);rw[show({ s with heap:=s.heap.push { cls:=.type "dict",data:=.dict #[] } }:ah).heap.objs.size=s.heap.objs.size+1 from bJ ..];exact aj (aC (aC hQ))
noncomputable abbrev cCx(X:Cx)(scope:b8)(C:ae)(s:ah)(H:Hp)(fp:List ae)(pn:k7z):Cx :=
 { X with env:=lC scope (aQ (C+1) scope.names (zm X.env scope.names [])) C X.env,s₀:=s,H₀:=H,outer:=X.stack,stack:=X.stack,ex:=fp,fn:=λx=>scope.names.lookup x==a4 .cell,pn:=pn,xe:=λ_ _=>False }
noncomputable def V6(scope:b8)(y:af):Bool:=scope.names.lookup y==a4 .local || scope.names.lookup y==a4 .cell
theorem Z7{env:cu}:∀{names:List (af×bq)} {x:af},names.lookup x=a4 .cell ->
  (names.map λ(n,k)=>if (k==b9&&env.scope.kind==.function&&env.kindOf n==a4 .cell) then(n,bC) else(n,k)).lookup x=a4 .cell
 |[],_,h=>by simp at h
 |(n,k)::r,x,h=>by
  have ih:=@Z7 env r x;rw[X3];cases hx:x==n with
  |true =>simp only[Xn,hx]at h;cases h;simp[Xn,hx]
  |false =>
   simp only[Xn,hx]at h;dsimp only;by_cases hc:(k==b9&&env.scope.kind==.function&&env.kindOf n==a4 .cell)=a6
   .rw[if_pos hc];simp only[Xn,hx];exact ih h
   .rw[if_neg hc];simp only[Xn,hx];exact ih h
theorem Wy{X:Cx}{scope:b8}{C:ae}{s:ah}{H:Hp}{fp:List ae}{pn:k7z}{y:af}(h:V6 scope y=a6):Loc (cCx X scope C s H fp pn).env.scope y:=by
 unfold V6 at h;rw[bW]at h;rcases h with h|h
 .exact .inl (iU (by simpa using h))
 .exact .inr (Z7 (by simpa using h))
theorem O7{X:Cx}{scope:b8}{C:ae}{s:ah}{H:Hp}{fp:List ae}{pn:k7z}{y:af}(h:V6 scope y=a6):(cCx X scope C s H fp pn).fn y=a6\/(cCx X scope C s H fp pn).env.scope.names.lookup y=a4 .local:=by
 unfold V6 at h;rw[bW]at h;rcases h with h|h
 .exact .inr (iU (by simpa using h))
 .exact .inl h
def DTs(X:Cx)(ρ:Rho)(ifs:List ai)(b:Bool):Prop:=match ifs with
 |[]=>b=a6
 |[c]=>DB X ρ c b
 |_=>False
theorem DTs.nil{X:Cx}{ρ:Rho}:DTs X ρ [] a6:=rfl
theorem DTs.one{X:Cx}{ρ:Rho}{c:ai}{b:Bool}(h:DB X ρ c b):DTs X ρ [c] b:=h
theorem DTs.run{X:Cx}{ρ:Rho}{ifs:List ai}{b:Bool}(h:DTs X ρ ifs b){pins:k7z}{σ:St}{H:Hp}{s:ah}(I:Inv X pins σ H s)(R:Rep X.K ρ σ H) :
  ax (ay X.prog X.w) X.A (forIn ifs a6 λc r=>if r=a6 then do let ok <-ft c X.env (az c X.env);pure (bQ ok)else pure (bQ r)) (λok s'=>ok=b/\∃H',Inv X pins σ H' s'/\j4 H H') X.xe s:=by
 match ifs,h with
 |[],h=>exact wpAny_tests_nil ⟨h.symm,H,I,j4.refl H⟩
 |[c],h=>exact wpAny_tests_one (thn (h σ H (λk H'=>k=b/\j4 H H') R (λH' g=>⟨rfl,g⟩) pins s I) λk s' ⟨H',I',e,g⟩=>⟨e,H',I',g⟩)
theorem Rep.weaken{K:k7x}{ρ:Rho}{σ σ':St}{H:Hp}(R:Rep K ρ σ H)(hl:σ'.length=σ.length)(h:∀(i:Nat),ρ[i]?≠a4 .un->σ'[i]?=σ[i]?):Rep K ρ σ' H :=
 ⟨by rw[hl,R.len],λi d e=>let ⟨v,q,z⟩:=R.val i d e;⟨v,by rw[h i (by rw[e];simp)];exact q,z⟩,λi a ds e=>let ⟨q,z⟩:=R.own i a ds e;⟨by rw[h i (by rw[e];simp)];exact q,z⟩,R.nd,λi a o x e=>let ⟨q,z⟩:=R.raw i a o x e;⟨by rw[h i (by rw[e];simp)];exact q,z⟩,R.tb⟩
noncomputable def mask(cs:List Nat)(σ:St):St:=σ.mapIdx λj v=>if cs.contains j then a7 else v
theorem Rv(cs:List Nat)(σ:St):(mask cs σ).length=σ.length:=by unfold mask;simp
theorem j7l{cs:List Nat}{σ:St}{j:Nat}{v:V}(h:(mask cs σ)[j]?=a4 (a4 v)):j∉cs/\σ[j]?=a4 (a4 v):=by
 unfold mask at h;rw[hZ]at h;cases e:σ[j]? with
 |none=>rw[e]at h;cases h
 |some u =>
  rw[e]at h;have h':(if cs.contains j then a7 else u)=a4 v:=aw h;by_cases z:cs.contains j=a6
  .rw[if_pos z]at h';cases h'
  .rw[if_neg z]at h';subst h';exact⟨λy=>z (by simpa using y),rfl⟩
theorem j7k{cs:List Nat}{σ:St}{j:Nat}(h:j∉cs):(mask cs σ)[j]?=σ[j]?:=by
 unfold mask;rw[hZ];cases e:σ[j]? with
 |none=>rfl
 |some u=>simp[h]
def Wk(ρ2 ρ:Rho):Prop:=∀K σ H,Rep K ρ2 σ H->Rep K ρ σ H
theorem Zm(H:Hp)(A B:List ae):del (del H A) B=del H (A++B):=funext λb=>by unfold del;by_cases h1:b∈A<;>by_cases h2:b∈B<;>simp[h1,h2]
structure Loose(X:Cx)(pins:k7z)(H:Hp)(C:ae):Prop where
 free:H C=a7
 loc:C≠X.env.locals
 new:X.s₀.heap.objs.size<=C
 cell:∀x c,X.env.cells.lookup x=a4 c->c≠C
 pin:∀p∈X.pn++pins,p.1≠C
section
variable{X:Cx}{pins:k7z}{σ:St}{H2:Hp}{s2:ah}{ρ:Rho}{tg elt iter:ai}{ifs:List ai}{scope:b8}{pos:aK}{ds:List D}{cs:List Nat}{p:D->Bool}{g:D->D}
theorem j8q{J:It}{fp:List ae}{it:ae}{tn:Nat->aE->Prop}(I2:Inv X pins σ H2 s2)(T:Turn X.prog X.w X.K tg J fp it tn)(st2:tn 0 s2.heap)(f2:∀b∈fp,Y5 X pins H2 b)
  (hkind:scope.kind=.function) (hok:J5 scope X.env X.N cs=a6) {E:k7y} {RR:aa->ae->eO->ah->Prop}
  (hk:∀(C Dd:ae)(h₁:aE),(cCx X scope C s2 H2 fp (X.pn++pins)).Ok->Inv (cCx X scope C s2 H2 fp (X.pn++pins)) [] (mask cs σ) (upd H2 Dd (.lst [])) { s2 with heap:=h₁ }->s2.heap.objs.size=Dd->Dd<C->H2 Dd=a7->(∀b o,s2.heap.get? b=a4 o->h₁.get? b=a4 o) ->
   c9 (ay X.prog X.w) X.A (.compLoop (.ListComp elt [⟨tg,iter,ifs,0⟩] scope pos) 0 (.ref it) (.ref Dd) (lC scope (aQ (C+1) scope.names (zm X.env scope.names [])) C X.env)) (RR (.ref Dd) C) { s2 with heap:=h₁ }) :
  ax (ay X.prog X.w) X.A (newList []) (λacc s₃=>ax (ay X.prog X.w) X.A (eM scope X.env.globals (zm X.env scope.names []) [] X.env.qual a7 .none (a4 X.env)) (λcenv s₄=>cenv.frame=X.env.frame /\
   c9 (ay X.prog X.w) X.A (.compStart (.ListComp elt [⟨tg,iter,ifs,0⟩] scope pos) 0 (.ref it) acc { cenv with scope:=jW scope X.env }) (RR acc cenv.locals) s₄) E s₃) E s2:=by
 unfold J5 at hok;rw[Xd]at hok;obtain⟨hn,hN⟩:=hok;have hn':∀y∈scope.names,(y.2=.cell->scope.names.lookup y.1=a4 .cell)/\(y.2=.free->(X.env.cells.lookup y.1).isSome=a6/\(X.env.kindOf y.1=a4 .cell\/X.env.kindOf y.1=a4 .free)):=λy hy=>by have:=Xy.mp hn y hy;simp only[Xd,bne_iff_ne,ne_eq,bW,beq_iff_eq]at this;obtain⟨⟨a,_⟩,c⟩:=this;exact⟨λe=>a.elim (λz=>absurd e z) id,λe=>c.elim (λz=>absurd e z) id⟩
 have nocell:∀{y:af},scope.names.lookup y=a4 .free->(y,bC)∉scope.names:=λ{y} h z=>by have q:=(hn' _ z).1 rfl;rw[h]at q;cases q
 have hloc:∀(j:Nat)(y:af),X.N[j]?=a4 y->j∉cs->scope.names.lookup y≠a4 .local/\scope.names.lookup y≠a4 .cell:=λj y hj hc=>by
  have hlt:j<X.N.length:=(Xb.mp hj).1;have:=Xy.mp hN j (Xa.mpr hlt);rw[hj]at this;simp only[bW,Xd,bne_iff_ne,ne_eq]at this;rcases this with z|z
  .exact absurd (by simpa using z) hc
  .exact z
 have cl_of:∀{y:af}{c:ae},(zm X.env scope.names []).lookup y=a4 c->X.env.cells.lookup y=a4 c:=λ{y c} h=>Cj (λ_ _ z=>by cases z) h;refine bA (Io ?_);dsimp only;generalize hH2:s2.heap.push { cls:=.type "list",dict:=a7,data:=.seq ([]:List aa).toArray }=hp2;have keep1:∀b o,hp2.get? b=a4 o->(ic (hp2.push { cls:=.type "dict",data:=.dict #[] }) scope.names).get? b=a4 o:=λb o e=>kY _ _ b o (X8 _ e);have hns₁:(ic (hp2.push { cls:=.type "dict",data:=.dict #[] }) scope.names).Ns hp2.objs.size (λ_=>a7):=(Heap.Ns.new hp2 (.type "dict")).keeps (kY _ _);have okl:=cellsFrom_ok scope.names (hp2.push { cls:=.type "dict",data:=.dict #[] }) (hp2.objs.size+1) [] ⟨λ_ _ hm=>(nomatch hm),List.Pairwise.nil⟩ (by rw[bJ];exact X7 _);rw[bJ]at okl;generalize ic (hp2.push { cls:=.type "dict",data:=.dict #[] }) scope.names=h₁ at keep1 hns₁ okl ⊢;have hC:hp2.objs.size=s2.heap.objs.size+1:=by rw[<-hH2,bJ]
 have hDC:s2.heap.objs.size≠hp2.objs.size:=by rw[hC];exact Xj (fv _)
 have hCle:s2.heap.objs.size<=hp2.objs.size:=by rw[hC];exact Pb _
 have below:∀b,b<s2.heap.objs.size->b≠hp2.objs.size/\b≠s2.heap.objs.size:=λb hb=>⟨by rw[hC];exact Xj (dh hb),Xj hb⟩
 have old:∀b o,s2.heap.get? b=a4 o->h₁.get? b=a4 o:=λb o e=>keep1 b o (hH2▸X8 _ e);have hacc:h₁.get? s2.heap.objs.size=a4 { cls:=.type "list",dict:=a7,data:=.seq ([]:List aa).toArray }:=keep1 _ _ (hH2▸Xi _ rfl);have none_of:∀b,s2.heap.objs.size<=b->s2.heap.get? b=a7:=λb hb=>by
  cases e:s2.heap.get? b with
  |none=>rfl
  |some o'=>exact absurd (xr e) (Nat.not_lt.mpr hb)
 have hD0:H2 s2.heap.objs.size=a7:=I2.fresh;generalize hDd:s2.heap.objs.size=Dd at *;generalize hCc:hp2.objs.size=C at *;have hC0:H2 C=a7:=I2.hok.fresh (by rw[hDd];exact hCle);have pinlt:∀p∈X.pn++pins,p.1<Dd:=λp hp=>by rw[<-hDd];exact xr (I2.pin p hp).1
 have celllt:∀y c,X.env.cells.lookup y=a4 c->c<Dd:=λy c h=>by obtain⟨v,o,e,_⟩:=I2.cell y c h;rw[<-hDd];exact xr e
 have loclt:X.env.locals<Dd:=by rw[<-hDd];exact I2.lt
 have fplt:∀b∈fp,b<Dd:=λb hb=>by obtain⟨o,e,_⟩:=T.obj _ _ st2 b hb;rw[<-hDd];exact xr e
 have hDlt:Dd<C:=by omega
 have cellD:∀{y:af}{c:ae},(aQ (C+1) scope.names (zm X.env scope.names [])).lookup y=a4 c->((y,c)∈aQ (C+1) scope.names []/\C+1<=c)\/X.env.cells.lookup y=a4 c:=λ{y c} h=>by
  rcases Ck h with ⟨q,_,z⟩|⟨_,q⟩
  .exact .inl ⟨q,z⟩
  .exact .inr (cl_of q)
 have celln:∀{y:af}{c b:ae},(aQ (C+1) scope.names (zm X.env scope.names [])).lookup y=a4 c->b<Dd->(∀c,X.env.cells.lookup y=a4 c->c≠b)->c≠b:=λ{y c b} h hb ho=>by
  rcases cellD h with ⟨_,z⟩|q
  .exact bS (Pk hb (Pk hDlt (Tt z)))
  .exact ho c q
 have okc:(cCx X scope C s2 H2 fp (X.pn++pins)).Ok:={
  mod:=I2.ok.mod
  kind:=hkind
  glob:=I2.ok.glob
  blt:=I2.ok.blt
  above:=by show s2.heap.objs.size<=C;rw[hDd];exact hCle
  inj:=λx y c h1 h2=>by
   rcases cellD h1 with ⟨m1,z1⟩|q1<;>rcases cellD h2 with ⟨m2,z2⟩|q2
   .exact name_of_addr okl.apart m1 m2
   .exact absurd (Pk (celllt y c q2) (Pk hDlt (Tt z1))) (Pj _)
   .exact absurd (Pk (celllt x c q1) (Pk hDlt (Tt z2))) (Pj _)
   .exact I2.ok.inj x y c q1 q2
  has:=λx h=>by
   have key:∀k',(jW scope X.env).names.lookup x=a4 k'->(k'=.cell\/k'=.free)->∃c,(aQ (C+1) scope.names (zm X.env scope.names [])).lookup x=a4 c:=λk' hk hk'=>by
    obtain⟨k,hl,e⟩:=Jb hk
    have hm:=lookup_mem hl
    have hk0:k=.free\/k=.cell:=by
     rcases e with e|e
     .subst e
      exact hk'.symm
     .exact .inl e.1
    rcases hk0 with hk0|hk0
    .subst hk0
     exact jd0 (Ur ((hn' _ hm).2 rfl).1 hm)
    .subst hk0
     exact Xr.mp (W.cellsFrom_some _ _ _ (.inl hl))
   rcases h with h|h
   .exact key _ h (.inl rfl)
   .exact key _ h (.inr rfl)
  cab:=λx c h h2=>by
   have hx:scope.names.lookup x=a4 .cell:=by simpa using h
   show s2.heap.objs.size<=c
   rw[hDd]
   rcases Ck h2 with ⟨_,_,z⟩|⟨z,_⟩
   .exact dE (Pk hDlt (Tt z))
   .obtain⟨c',hc'⟩:=Xr.mp (W.cellsFrom_some scope.names (C+1) [] (.inl hx))
    rw[z]at hc';cases hc'
  hd:=I2.ok.hd
  frames:=I2.ok.frames
  stk:=.inl rfl
  exf:=λb hb=>⟨Xj (Pk (fplt b hb) hDlt),λx c h=>celln h (fplt b hb) λc q=>(f2 b hb).2.2.2.2.1 x c q⟩
  bs:=I2.bs
  bsz:=Xf I2.ok.bsz I2.sz
  noex:=λb o e hb=>by
   rcases(f2 b hb).2.2.2.1 with z|z
   .exact I2.ok.noex b o e z
   .exact absurd (xr e) (Nat.not_lt.mpr (Xf I2.ok.bsz z))
  exfs:=λb hb hf=>by
   rcases xn.mp (I2.stkSub b hf)with z|z
   .exact(f2 b hb).2.1 z
   .exact(f2 b hb).2.2.1 z
  funs:=I2.stack
  frf:=I2.stkFree }
 have hpush:HOk X.prog X.w (upd H2 Dd (.lst [])) h₁:=HOk.laid I2.hok old (by rw[hDd];exact X7 _) ⟨T9 _,[],_,.nil,hacc⟩;have I0:Inv (cCx X scope C s2 H2 fp (X.pn++pins)) [] (mask cs σ) (upd H2 Dd (.lst [])) { s2 with heap:=h₁ }:={
  ok:=okc
  os:=rfl
  bare:=I2.bare
  base:=Un.laid old (by rw[hDd];exact X7 _) hD0
  loc:=by
   refine⟨_,hns₁,λj y v hj hv hvis=>?_⟩
   obtain⟨hjc,hσ⟩:=j7l hv
   obtain⟨m,hm,hlook⟩:=I2.loc
   have key:∀k',(jW scope X.env).names.lookup y=a4 k'->scope.names.lookup y=a4 .free:=λk' hk=>by
    obtain⟨k,hl,e⟩:=Jb hk
    have hmm:=lookup_mem hl
    have:k=.free:=by
     rcases e with e|e
     .subst e
      rcases hvis with z|z|z
      .have z:=hk.symm.trans z;cases z;exact absurd hl (hloc j y hj hjc).1
      .have z:=hk.symm.trans z;cases z;exact absurd hl (hloc j y hj hjc).2
      .have z:=hk.symm.trans z;cases z;rfl
     .exact e.1
    rw[hl,this]
   have hfree:scope.names.lookup y=a4 .free:=by rcases hvis with z|z|z<;>exact key _ z
   have hmm:=lookup_mem hfree
   obtain⟨hs,hk⟩:=(hn' _ hmm).2 rfl
   have hvis':Vis X.env.scope y:=by rcases hk with z|z;exact .inr (.inl z);exact .inr (.inr z)
   obtain⟨u,ru,look⟩:=hlook j y v hj hσ hvis'
   refine⟨u,ru,?_⟩
   rcases look with ⟨z,_⟩|⟨_,c,hcl,hcv⟩
   .rcases hk with y'|y'<;>rw[y']at z<;>cases z
   .refine .inr ⟨?_,c,?_,?_⟩
    .rcases hvis with z|z|z
     .exfalso
      obtain⟨k,hl,e⟩:=Jb z
      rw[hfree]at hl;cases hl
      rcases e with e|e
      .cases e
      .cases e.2
     .exact .inl z
     .exact .inr z
    .obtain⟨c',hc'⟩:=Xr.mp (Ur (acc:=[]) hs hmm)
     have:=cl_of hc'
     rw[hcl]at this;cases this
     exact(jhb (nocell hfree)).trans hc'
    .obtain⟨o,e,d⟩:=hcv
     exact⟨o,old _ _ e,d⟩
  cell:=λx c h=>by
   rcases cellD h with ⟨q,_⟩|q
   .exact⟨_,(okl.empty x c q).1⟩
   .obtain⟨v,o,e,d⟩:=I2.cell x c q
    exact⟨v,o,old _ _ e,d⟩
  free:=by show upd H2 Dd (.lst []) C=a7;rw[je (bS hDlt)];exact hC0
  freeC:=λx c h=>by
   rcases cellD h with ⟨_,z⟩|q
   .rw[je (bS (Pk hDlt (Tt z)))];exact I2.hok.fresh (by rw[hDd];exact dE (Pk hDlt (Tt z)))
   .rw[je (Xj (celllt x c q))];exact I2.freeC x c q
  pin:=λp hp=>by
   rw[Xx]at hp
   obtain⟨h1,h2,h3,h4,h5⟩:=I2.pin p hp
   have hlt:=pinlt p hp
   refine⟨old _ _ h1,by rw[je (Xj hlt)];exact h2,Xj (Pk hlt hDlt),λz=>?_,h5⟩
   rcases xn.mp (I2.stkSub _ z)with y|y
   .exact h3 y
   .exact h4 y
  hok:=hpush
  len:=by rw[Rv];exact I2.len }
 have go:=hk C Dd h₁ okc I0 rfl hDlt hD0 old;exact⟨rfl,codeAny_compStart_list go (T.self _ 0 _ _ _ (T.keep _ _ _ st2 (λb _ o e=>old b o e)) go)⟩
theorem Dz{J:It}{fp:List ae}{it:ae}{tn:Nat->aE->Prop}(I2:Inv X pins σ H2 s2)(R2:Rep X.K ρ σ H2)(T:Turn X.prog X.w X.K tg J fp it tn)(st2:tn 0 s2.heap)(f2:∀b∈fp,Y5 X pins H2 b)
  (ok:Uz X.K (del H2 (owns ρ)) J ds) (hc:X.calm=a6) (hkind:scope.kind=.function) (hok:J5 scope X.env X.N cs=a6) (hcs:∀j∈cs,ρ[j]?=a4 .un) (hsz:ds.length<=ak)
  (hb:∀C s H fp pn,∀d∈ds,∃ρ2,DG (cCx X scope C s H fp pn) ρ tg d ρ2/\Wk ρ2 ρ/\owns ρ2=owns ρ/\DTs (cCx X scope C s H fp pn) ρ2 ifs (p d)/\(p d=a6->DE (cCx X scope C s H fp pn) ρ2 elt (g d)))
  {E:k7y} {RR:aa->ae->eO->ah->Prop}
  (hRR:∀D C xs H' s' m,Inv X pins σ H' s'->j4 H2 H'->H2 D=a7->H' D=a4 (.lst xs)->j5 X.K (del H' (D::owns ρ)) ((ds.filter p).map g) xs->s'.heap.Ns C m->Loose X pins H' C->RR (.ref D) C (.ok .next) s') :
  ax (ay X.prog X.w) X.A (newList []) (λacc s₃=>ax (ay X.prog X.w) X.A (eM scope X.env.globals (zm X.env scope.names []) [] X.env.qual a7 .none (a4 X.env)) (λcenv s₄ =>
   c9 (ay X.prog X.w) X.A (.compStart (.ListComp elt [⟨tg,iter,ifs,0⟩] scope pos) 0 (.ref it) acc { cenv with scope:=jW scope X.env }) (RR acc cenv.locals) s₄) E s₃) E s2:=by
 refine thn (j8q (RR:=RR) I2 T st2 f2 hkind hok λC Dd h₁ okc I0 hDd hDlt hD0 old=>?_) λacc s₃ h=>thn h λcenv s₄ h=>h.2;have hDlt:@LT.lt Nat _ Dd C:=hDlt;have pinlt:∀p∈X.pn++pins,p.1<Dd:=λp hp=>by rw[<-hDd];exact xr (I2.pin p hp).1
 have celllt:∀y c,X.env.cells.lookup y=a4 c->c<Dd:=λy c h=>by obtain⟨v,o,e,_⟩:=I2.cell y c h;rw[<-hDd];exact xr e
 have loclt:X.env.locals<Dd:=by rw[<-hDd];exact I2.lt
 have fplt:∀b∈fp,b<Dd:=λb hb=>by obtain⟨o,e,_⟩:=T.obj _ _ st2 b hb;rw[<-hDd];exact xr e
 have hDo:Dd∉owns ρ:=R2.fresh hD0;have fpok:∀{H':Hp},(∀b∈fp,H' b=a7)->∀b∈fp,Y5 (cCx X scope C s2 H2 fp (X.pn++pins)) [] H' b:=λ{H'} hn b hb =>⟨hn b hb,(okc.exf b hb).1,okc.exfs b hb,.inl hb,(okc.exf b hb).2,λp hp=>by rw[Xx]at hp;exact(f2 b hb).2.2.2.2.2 p hp⟩
 have R0:Rep X.K ρ (mask cs σ) H2:=R2.weaken (Rv _ _) λj hj=>j7k λz=>hj (hcs j z);have e0:del (upd H2 Dd (.lst [])) [Dd]=H2:=by
  rw[Vi (X6.mpr rfl)]
  funext b
  by_cases z:b∈[Dd]
  .rw[z9 z,X6.mp z,hD0]
  .exact j7 z
 have loop:∀s₃:ah,s₃={ s2 with heap:=h₁ } ->
   c9 (ay X.prog X.w) X.A (.compLoop (.ListComp elt [⟨tg,iter,ifs,0⟩] scope pos) 0 (.ref it) (.ref Dd) (lC scope (aQ (C+1) scope.names (zm X.env scope.names [])) C X.env)) (RR (.ref Dd) C) s₃:=by
  rintro s₃ rfl;refine j00 (λn s=>∃i σ' H' ys,Inv (cCx X scope C s2 H2 fp (X.pn++pins)) [] σ' H' s/\tn i s.heap/\(∀b∈fp,H' b=a7)/\i<=ds.length/\n=ds.length-i/\Rep X.K ρ σ' (del H' [Dd])/\j4 H2 (del H' [Dd])/\H' Dd=a4 (.lst ys) /\
   j5 X.K (del H' (Dd::owns ρ)) (((ds.take i).filter p).map g) ys) ?_ ds.length
   ⟨0,mask cs σ,upd H2 Dd (.lst []),[],I0,T.keep _ _ _ st2 (λb _ o e=>old b o e),λb hb=>by rw[je (Xj (fplt b hb))];exact(f2 b hb).1,T9 _,rfl,by rw[e0];exact R0,by rw[e0];exact j4.refl _,jq,rfl⟩
  rintro n s3 ⟨i,σ3,H3,ys,I3,st3,fr3,hle,rfl,R3,g3,m3,en3⟩;have F3:j4 (del H2 (owns ρ)) (del H3 (Dd::owns ρ)):=by
   have:del H3 (Dd::owns ρ)=del (del H3 [Dd]) (owns ρ):=by rw[Zm];rfl
   rw[this];exact jf g3
  obtain⟨go,stop,yld⟩:=ok i H3 (Dd::owns ρ) F3 λa ha=>by
   rcases xn.mp ha with e|ha
   .rw[e,m3];simp
   .obtain⟨xs,e⟩:=R3.owned a ha;rw[(of_del e).2];simp
  by_cases hlt:i<ds.length
  .refine thn (T.item (cCx X scope C s2 H2 fp (X.pn++pins)) rfl rfl rfl hc i [] s3 σ3 H3 (λ_ _=>False) I3 (fpok fr3) st3 (go hlt)) λr s4 ⟨u,hr,h4⟩=>?_;subst hr;refine thn h4 λ_ s5 ⟨x,H5,I5,r5,y5,st5,fr5⟩=>?_;obtain⟨g5,en5⟩:=yld x H5 y5;have hd:ds[i]?=a4 ds[i]:=kh hlt;obtain⟨ρ2,⟨sub,hG⟩,wk,eo,hT,hE⟩:=hb C s2 H2 fp (X.pn++pins) ds[i] (Py hlt);have m5:H5 Dd=a4 (.lst ys):=g5 _ _ m3;have hA:∀a∈[Dd],Hd (H5 a):=λa ha=>.inl ⟨ys,by rw[X6.mp ha];exact m5⟩;have I5p:=I5.pinned (fpok fr5) (T.obj _ _ st5);have I5h:=I5p.hide hA;have R5:Rep X.K ρ σ3 (del H5 [Dd]):=R3.grow (jf g5);have en5':Enc X.K (del (del H5 [Dd]) (owns ρ)) ds[i] x:=by rw[Zm];exact en5 _ hd
   refine thn (hG σ3 (del H5 [Dd]) x (λσ6 F6=>F6=del H5 [Dd]/\Rep X.K ρ2 σ6 F6) R5 en5' (λσ6 R6=>⟨rfl,R6⟩) _ s5 u I5h r5) λ_ s6 ⟨σ6,F6,I6,e6,R6⟩=>?_;subst e6;refine thn (hT.run I6 R6) λokv s7 ⟨e7,F7,I7,g7⟩=>?_;subst e7;have R7:Rep X.K ρ σ6 F7:=wk _ _ _ (R6.grow g7);have g27:j4 H2 F7:=g3.trans ((jf g5).trans g7);have en7:j5 X.K (del F7 (owns ρ)) (((ds.take i).filter p).map g) ys:=en3.mono (by
    have:del H3 (Dd::owns ρ)=del (del H3 [Dd]) (owns ρ):=by rw[Zm];rfl
    rw[this];exact jf ((jf g5).trans g7))
   have jY:∀{F:Hp}{s':ah},Inv (cCx X scope C s2 H2 fp (X.pn++pins)) ([]++Qu fp s5.heap) σ6 F s'->Inv (cCx X scope C s2 H2 fp (X.pn++pins)) [] σ6 F s'/\tn (i+1) s'.heap/\∀b∈fp,F b=a7:=λ{F s'} I=>by refine⟨I.unpinned,T.keep _ _ _ st5 λb hb o e=>(I.pin (b,o) (Xo _ (Xo _ (Qv hb e)))).1,λb hb=>?_⟩;obtain⟨o,e,d⟩:=T.obj _ _ st5 b hb;exact(I.pin (b,o) (Xo _ (Xo _ (Qv hb e)))).2.1
   have tk:ds.take (i+1)=ds.take i++[ds[i]]:=by rw[cc,hd];rfl
   cases hp:p ds[i] with
   |false =>
    rw[if_neg xm];obtain⟨hF,I8⟩:=I5p.unhide hA I7;obtain⟨I9,st9,fr9⟩:=jY I8;refine⟨ds.length-(i+1),by omega,i+1,σ6,_,ys,I9,st9,fr9,hlt,rfl,by rw[Qp hF];exact R7,by rw[Qp hF];exact g27,by rw[J3 (X6.mpr rfl)];exact m5,?_⟩;have:del (mrg [Dd] H5 F7) (Dd::owns ρ)=del F7 (owns ρ):=by
     have e:del (mrg [Dd] H5 F7) (Dd::owns ρ)=del (del (mrg [Dd] H5 F7) [Dd]) (owns ρ):=by rw[Zm];rfl
     rw[e,Qp hF]
    rw[this,tk,eK];have e:[ds[i]].filter p=[]:=by simp[hp]
    rw[e,Xx];exact en7
   |true =>
    rw[if_pos rfl];refine thn (hE hp σ6 F7 (λv F8=>j4 F7 F8/\Enc X.K (del F8 (owns ρ2)) (g ds[i]) v) (R6.grow g7) (λv F8 g8 e8=>⟨g8,e8⟩) _ s7 I7) λy s8 ⟨v,F8,I8,r8,g8,e8⟩=>?_;obtain⟨hF,I8'⟩:=I5p.unhide hA I8;rw[eo]at e8;have eH:del (mrg [Dd] H5 F8) (Dd::owns ρ)=del F8 (owns ρ):=by
     have e:del (mrg [Dd] H5 F8) (Dd::owns ρ)=del (del (mrg [Dd] H5 F8) [Dd]) (owns ρ):=by rw[Zm];rfl
     rw[e,Qp hF]
    have hlen:ys.length<ak:=by have e1:=en7.length;have e2:((ds.take i).filter p).length<=(ds.take i).length:=t6 _ _;rw[xj]at e1;rw[Xm]at e2;omega
    refine thn (Ye _ s8 σ6 (mrg [Dd] H5 F8) (.ref Dd) [v] (.ref Dd) [y] (λ_ H9=>H9=upd (mrg [Dd] H5 F8) Dd (.lst (ys++[v]))) I8' rfl (.cons r8 .nil)
     ⟨Dd,ys,v,rfl,rfl,by rw[J3 (X6.mpr rfl)];exact m5,hlen,rfl⟩) λ_ s9 ⟨_,H9,I9,_,e9⟩=>?_
    subst e9;obtain⟨I10,st10,fr10⟩:=jY I9;have ed:del (upd (mrg [Dd] H5 F8) Dd (.lst (ys++[v]))) [Dd]=F8:=by rw[Vi (X6.mpr rfl),Qp hF]
    refine⟨ds.length-(i+1),by omega,i+1,σ6,_,ys++[v],I10,st10,fr10,hlt,rfl,by rw[ed];exact R7.grow g8,by rw[ed];exact g27.trans g8,jq,?_⟩;rw[Vi (xq ..),eH,tk,eK,Xp];have e:[ds[i]].filter p=[ds[i]]:=by simp[hp]
    rw[e];exact(en7.mono (jf g8)).append (.one e8)
  .have hi:i=ds.length:=by omega
   subst hi;refine thn (T.done (cCx X scope C s2 H2 fp (X.pn++pins)) rfl rfl rfl hc ds.length [] s3 σ3 H3 (λ_ _=>False) I3 (fpok fr3) st3 (stop (X7 _))) λr s4 ⟨hr,I4⟩=>?_;subst hr;rw[cw]at en3;obtain⟨m,hm,_⟩:=I4.loc;refine hRR Dd C ys H3 s4 m ?_ (g3.trans q8) hD0 m3 en3 hm ⟨I4.free,bS (Pk loclt hDlt),?_,λx c h=>Xj (Pk (celllt x c h) hDlt),λp hp=>Xj (Pk (pinlt p hp) hDlt)⟩
   .exact I2.call' (ch:=fp) I4.os I4.base I4.hok I4.bare λb hb=>⟨(f2 b hb).2.2.2.1,(f2 b hb).2.1,(f2 b hb).2.2.2.2.1,(f2 b hb).2.2.2.2.2⟩
   .have:=I2.sz;omega
 exact loop _ rfl
end
section
variable{X:Cx}{ρ:Rho}{tg elt iter:ai}{ifs:List ai}{scope:b8}{pos p1 spos:aK}{ds:List D}{cs:List Nat}{p:D->Bool}{g:D->D}{x:af}{P:Po}
theorem M3{env:cu}{N:List af}(h:J5 scope env N cs=a6):∀y∈scope.names,y.2=.free->(env.cells.lookup y.1).isSome=a6:=λy hy e=>by unfold J5 at h;rw[Xd]at h;have:=Xy.mp h.1 y hy;simp only[Xd,bne_iff_ne,ne_eq,bW]at this;exact this.2.elim (λz=>absurd e z) λz=>z.1
theorem Wq{env:cu}{N:List af}(h:J5 scope env N cs=a6):∀y∈scope.names,y.2=.local->scope.names.lookup y.1=a4 .local:=λy hy e=>by unfold J5 at h;rw[Xd]at h;have:=Xy.mp h.1 y hy;simp only[Xd,bne_iff_ne,ne_eq,bW,beq_iff_eq]at this;exact this.1.2.elim (λz=>absurd e z) λz=>z
theorem Inv.loose{pins:k7z}{σ:St}{H:Hp}{s:ah}{C:ae}{h':aE}(I:Inv X pins σ H s)(L:Loose X pins H C)(sb:cK C s.heap h'):Inv X pins σ H { s with heap:=h' } :=
 I.turned (t':=s.toks) (λb o hb e=>sb.extBut b o hb e) L.free L.loc (.inr L.new) L.cell L.pin
theorem DO.comp(cs:List Nat)(p:D->Bool)(g:D->D)(hi:DI X ρ tg iter ds)
  (hb:∀C s H fp pn,∀d∈ds,∃ρ2,DG (cCx X scope C s H fp pn) ρ tg d ρ2/\Wk ρ2 ρ/\owns ρ2=owns ρ/\DTs (cCx X scope C s H fp pn) ρ2 ifs (p d)/\(p d=a6->DE (cCx X scope C s H fp pn) ρ2 elt (g d)))
  (hcs:∀j∈cs,ρ[j]?=a4 .un) (hsz:ds.length<=ak) (hc:X.calm=a6:=by rfl) (hkind:scope.kind=.function:=by rfl) (hok:J5 scope X.env X.N cs=a6:=by rfl)
  (hs:∀x,aH iter X.env x=pure x:=by intro _;rfl):DO X ρ (.ListComp elt [⟨tg,iter,ifs,0⟩] scope pos) ((ds.filter p).map g):=λσ H Q R q pins s I=>by
 rw[eval_ListComp];refine i4 (use:=a7) rfl hs (Bt (M3 hok)) hkind (Wq hok) (thn (hi σ H (λJ H'=>j4 H H'/\Uz X.K (del H' (owns ρ)) J ds) R (λJ H' g1 ok=>⟨g1,ok⟩) pins s I) λv s1 h1=>thn h1 λitv s2 h2=>?_);obtain⟨it,fp,tn,J,H2,e,I2,T,st2,f2,g2,ok⟩:=h2;subst e;refine Dz (RR:=λacc C=>compPost (ay X.prog X.w) X.A X.xe a7 (EP X pins σ Q) acc C) I2 (R.grow g2) T st2 f2 ok hc hkind hok hcs hsz hb ?_;intro D C xs H' s' m I' gg n m' en hm L;exact⟨m,hm,λh' sb=>⟨.ref D,H',I'.loose L sb,rfl,q D xs H' (g2.trans gg) (g2.free n) m' en⟩⟩
theorem Wk.set{i:Nat}{d:D}(h:ρ[i]?=a4 .un):Wk (ρ.set i (.val d)) ρ:=λK σ H R=>by
 have q:=R.set_un (i:=i) (v:=(σ[i]?).join);have e:σ.set i ((σ[i]?).join)=σ:=by
  apply Xz;intro j;rw[Tq];split
  .rename_i h;subst h;split
   .rename_i h;rw[kh h];rfl
   .rename_i h;rw[Xc nofun]
  .rfl
 have e2:(ρ.set i (.val d)).set i .un=ρ:=by
  rw[jZ];apply Xz;intro j;rw[Tq];split
  .rename_i z;subst z;split
   .rw[h]
   .rename_i z;rw[Xc nofun]at h;cases h
  .rfl
 rw[e,e2]at q;exact q
theorem Zr{i:Nat}{d:D}(h:ρ[i]?=a4 .un):owns (ρ.set i (.val d))=owns ρ:=Ru rfl λa l z=>by rw[h]at z;cases z
end
section
variable{prog:ar}{w:aA}{A:aD}{E:k7y}{s:ah}
theorem j35{j t:ae}{k:Nat}{its:Array aa}{y:aa}{Q:k7y}(hj:s.heap.IsTupleIter j t k)(ht:s.heap.IsTuple t its)(hy:its[k]?=a4 y)
  (q:∀h',h'.IsTupleIter j t (k+1)->cK j s.heap h'->Q y { s with heap:=h' }):ax (ay prog w) A (aW (.ref j)) Q E s:=by
 obtain⟨o,ho,hc,hd⟩:=id hj;obtain⟨ot,hot,_,m,hdt⟩:=ht;unfold aW;refine aj (dO (name:=dz "__next__") hj.typeIs bR (dN bR hj.typeIs fY ?_ (fV _)));show ax _ _ (field (.ref j) 0 >>= _) _ _ s;refine aj (cq ho hd (x:=.ref t) rfl ?_);show ax _ _ (if (aF t==aV)=a6 then _ else _) _ _ s;rw[if_neg (show ¬((aF t==aV)=a6)from xm)];show ax _ _ (field (.ref j) 1 >>= _) _ _ s;refine aj (cq ho hd (x:=.int k 0) rfl ?_);show ax _ _ (seqItems? (.ref t) >>= _) _ _ s;refine aj (lq hot hdt ?_);simp only[X5,hy];refine aj (lp ho hd (by simp) (aC ⟨y,rfl,aC (q _ ?_ (Heap.SameBut.update ..))⟩));exact⟨_,gJ _ ho (Obj.isFreed_of_fields (iA hd _)),(Obj.cls_mapFields ..).trans hc,by rw[iA hd];simp[jJ]⟩
theorem j5i{j t:ae}{k:Nat}{its:Array aa}{Q:k7y}(hh:A.handled=a7)(hj:s.heap.IsTupleIter j t k)(ht:s.heap.IsTuple t its)(hy:its[k]?=a7)
  (q:∀h' x,fh j s.heap h'->(∃o,h'.get? x=a4 o/\o.cls=.type "StopIteration")->E (.ref x) { s with heap:=h' }):ax (ay prog w) A (aW (.ref j)) Q E s:=by
 obtain⟨o,ho,hc,hd⟩:=id hj;obtain⟨ot,hot,_,m,hdt⟩:=ht;unfold aW;refine aj (dO (name:=dz "__next__") hj.typeIs bR (dN bR hj.typeIs fY ?_ (fV _)));show ax _ _ (field (.ref j) 0 >>= _) _ _ s;refine aj (cq ho hd (x:=.ref t) rfl ?_);show ax _ _ (if (aF t==aV)=a6 then _ else _) _ _ s;rw[if_neg (show ¬((aF t==aV)=a6)from xm)];show ax _ _ (field (.ref j) 1 >>= _) _ _ s;refine aj (cq ho hd (x:=.int k 0) rfl ?_);show ax _ _ (seqItems? (.ref t) >>= _) _ _ s;refine aj (lq hot hdt ?_);simp only[X5,hy];refine aj (wpAny_rule (aj (lp ho hd (by simp) ?_)));show ax _ _ (newExc (.type "StopIteration") [] >>= _) _ _ _;refine aj ?_;simp only[newExc,newTuple];refine aj (bA ?_ (by size_fits));refine aj (m:=lA _ _) (wpAny_of_eq (a:=aV) (by first|rfl|(simp only[lA];rfl)) ?_);refine bA ?_ (by size_fits);simp only[raiseNew];refine aj (wpAny_handled ?_)
 first|rw[show A.in1.handled=a7 from hh]|rw[hh]
 refine aj (aC (wpAny_throw ?_));exact q _ _ (((Heap.SameBut.update ..).extBut.push _).push _) ⟨_,Xi _ rfl,rfl⟩
end
def qw(lst:Bool)(h:aE)(j t:ae)(k:Nat):Prop:=if lst=a6 then h.IsListIter j t k else h.IsTupleIter j t k
def qj(lst:Bool)(h:aE)(t:ae)(its:Array aa):Prop:=if lst=a6 then h.IsList t its else h.IsTuple t its
section
variable{prog:ar}{w:aA}{A:aD}{E:k7y}{s:ah}{lst:Bool}{h h':aE}{j t b:ae}{k:Nat}{its:Array aa}
theorem qw.ext(x:qw lst h j t k)(e:fh b h h')(n:j≠b):qw lst h' j t k:=by
 unfold qw at x ⊢;cases lst with
 |true=>rw[if_pos rfl]at x ⊢;exact x.extBut e n
 |false=>rw[if_neg xm]at x ⊢;exact x.extBut e n
theorem qw.stay(x:qw lst h j t k)(e:∀o,h.get? j=a4 o->h'.get? j=a4 o):qw lst h' j t k:=by
 unfold qw at x ⊢;cases lst with
 |true=>rw[if_pos rfl]at x ⊢;exact x.at e
 |false=>rw[if_neg xm]at x ⊢;exact x.at e
theorem qw.obj(x:qw lst h j t k):∃o,h.get? j=a4 o/\∀v,o.data≠.cell v:=by
 unfold qw at x;cases lst with
 |true=>rw[if_pos rfl]at x;obtain⟨o,e,c,d⟩:=x;exact⟨o,e,λv z=>by rw[d]at z;cases z⟩
 |false=>rw[if_neg xm]at x;obtain⟨o,e,c,d⟩:=x;exact⟨o,e,λv z=>by rw[d]at z;cases z⟩
theorem qj.ext(x:qj lst h t its)(e:fh b h h')(n:t≠b):qj lst h' t its:=by
 unfold qj at x ⊢;cases lst with
 |true=>rw[if_pos rfl]at x ⊢;exact x.extBut e n
 |false=>rw[if_neg xm]at x ⊢;exact x.extBut e n
theorem j41{y:aa}{Q:k7y}(hj:qw lst s.heap j t k)(ht:qj lst s.heap t its)(hy:its[k]?=a4 y)
  (q:∀h',qw lst h' j t (k+1)->cK j s.heap h'->Q y { s with heap:=h' }):ax (ay prog w) A (aW (.ref j)) Q E s:=by
 unfold qw at hj q;unfold qj at ht;cases lst with
 |true=>rw[if_pos rfl]at hj ht;simp only[if_true]at q;exact wpAny_nextOf_list_item hj ht hy q
 |false=>rw[if_neg xm]at hj ht;simp only[Pr,if_false]at q;exact j35 hj ht hy q
theorem Kr{Q:k7y}(hh:A.handled=a7)(hj:qw lst s.heap j t k)(ht:qj lst s.heap t its)(hy:its[k]?=a7)
  (q:∀h' x,fh j s.heap h'->(∃o,h'.get? x=a4 o/\o.cls=.type "StopIteration")->E (.ref x) { s with heap:=h' }):ax (ay prog w) A (aW (.ref j)) Q E s:=by
 unfold qw at hj;unfold qj at ht;cases lst with
 |true=>rw[if_pos rfl]at hj ht;exact wpAny_nextOf_list_end hh hj ht hy q
 |false=>rw[if_neg xm]at hj ht;exact j5i hh hj ht hy q
end
noncomputable def Ks(lst:Bool):String:=if lst=a6 then "list_iterator" else "tuple_iterator"
noncomputable abbrev zh1(h:aE)(l1:Bool)(t1:ae):aE:=h.push { cls:=.type (Ks l1),data:=.fields #[.ref t1,.int 0 0] }
section
variable{prog:ar}{w:aA}{A:aD}{E:k7y}{s:ah}{l1 l2:Bool}{t1 t2:ae}{us vs:Array aa}
theorem Wf{lst:Bool}{t:ae}{its:Array aa}{Q:k7y}(h:qj lst s.heap t its)(q:Q (.ref s.heap.objs.size) { s with heap:=zh1 s.heap lst t }):ax (ay prog w) A (jK (.ref t)) Q E s:=by
 unfold qj at h;cases lst with
 |true=>rw[if_pos rfl]at h;exact cB h q
 |false=>rw[if_neg xm]at h;exact fj h q
end
def SqB(K:k7x)(lst:Bool)(H:Hp)(a:ae)(xs:List V):Prop:=if lst=a6 then SqL K H a xs else SqT K H a xs
section
variable{X:Cx}{pins:k7z}{σ:St}{H:Hp}{s:ah}{a p:ae}{xs ys:List V}{lst:Bool}{ch:List ae}{h':aE}
theorem j4.seqB{K:k7x}{H':Hp}(e:j4 H H')(h:SqB K lst H a xs):SqB K lst H' a xs:=by
 unfold SqB at h ⊢;cases lst with
 |true=>rw[if_pos rfl]at h ⊢;exact e.seq h
 |false=>rw[if_neg xm]at h ⊢;exact e.seqT h
theorem Inv.side(I:Inv X pins σ H s)(h:SqB X.K lst H a xs):∃us:List aa,Vals xs us/\qj lst s.heap a us.toArray/\xs.length<=ak:=by
 unfold SqB at h;unfold qj;cases lst with
 |true=>rw[if_pos rfl]at h;obtain⟨its,r,q,l⟩:=I.list h;exact⟨its,r,by rw[if_pos rfl];exact q.isList,l⟩
 |false=>rw[if_neg xm]at h;obtain⟨its,r,q,l⟩:=I.tuple h;exact⟨its,r,by rw[if_neg xm];exact q,l⟩
theorem Inv.side_inj(I:Inv X pins σ H s)(h:SqB X.K lst H a xs)(h':SqB X.K lst H a ys):xs=ys:=by
 unfold SqB at h h';cases lst with
 |true=>rw[if_pos rfl]at h h';exact I.list_inj h h'
 |false=>rw[if_neg xm]at h h';exact I.tuple_inj h h'
theorem Inv.chg(I:Inv X pins σ H s)(hf:∀b∈ch,Y5 X pins H b)(kp:∀c o,c∉ch->s.heap.get? c=a4 o->h'.get? c=a4 o):Inv X pins σ H { s with heap:=h' }:=by
 refine I.step (g':=s.gens) (t':=s.toks) (d':=s.drawn) (ch:=ch) (λb hb=>⟨(hf b hb).2.2.2.1,(hf b hb).2.1,(hf b hb).2.2.2.2.1,(hf b hb).2.2.2.2.2⟩) (λb o _ _ nc e _=>kp b o nc e) (λb o _ _ nc e _=>⟨o.slots,kp b o nc e⟩)
  (λb o _ _ n=>n) (λb o nc e=>⟨o,kp b o nc e⟩) (λb xs e=>e) (λb o u e=>e) (λb ps e=>⟨#[],by rw[e];simp⟩) (λm hm=>hm.at' λo e=>kp _ o (λz=>(hf _ z).2.1 rfl) e) (λc o e=>?_) I.bare
 have out:∀{b:ae}{u:HO},H b=a4 u->b∉ch:=λ{b u} q z=>by rw[(hf b z).1]at q;cases q
 refine jk.stay (I.hok c o e) (λb u hb q=>kp b u ?_ q) (λb q=>q) (λb xs q=>q) (λb _ _ q=>q);rcases hb with hb|hb
 .subst hb;exact out e
 .exact out hb
theorem Inv.chgT(I:Inv X pins σ H s)(hf:∀b∈ch,Y5 X pins H b)(kp:∀c o,c∉ch->s.heap.get? c=a4 o->h'.get? c=a4 o){us:List aa}(rv:Vals xs us)(hl:xs.length<=ak)
  (hp:ik h' s.heap.objs.size us.toArray) (hq:Zq h' s.heap.objs.size):Inv X pins σ (upd H s.heap.objs.size (.tup xs)) { s with heap:=h' }:=by
 have hn:=I.fresh;have nz:∀{b:ae}{o:cb},s.heap.get? b=a4 o->b≠s.heap.objs.size:=λ{b o} e=>Xj (xr e);have tr:∀{b:ae}{u:HO},H b=a4 u->upd H s.heap.objs.size (.tup xs) b=a4 u:=λ{b u} e=>by rw[je (Ja e hn)];exact e
 refine I.step (g':=s.gens) (t':=s.toks) (d':=s.drawn) (ch:=ch) (λb hb=>⟨(hf b hb).2.2.2.1,(hf b hb).2.1,(hf b hb).2.2.2.2.1,(hf b hb).2.2.2.2.2⟩) (λb o _ _ nc e _=>kp b o nc e) (λb o _ _ nc e _=>⟨o.slots,kp b o nc e⟩)
  (λb o _ e n=>by rw[je (nz e)];exact n) (λb o nc e=>⟨o,kp b o nc e⟩) (λb xs e=>tr e) (λb o u e=>tr e) (λb ps e=>⟨#[],by rw[tr e];simp⟩) (λm hm=>hm.at' λo e=>kp _ o (λz=>(hf _ z).2.1 rfl) e) (λc o e=>?_) I.bare
 have out:∀{b:ae}{u:HO},H b=a4 u->b∉ch:=λ{b u} q z=>by rw[(hf b z).1]at q;cases q
 by_cases z:c=s.heap.objs.size
 .subst z;rw[jq]at e;cases e;exact⟨hl,us,rv,hp,hq⟩
 .rw[je z]at e;refine jk.stay (I.hok c o e) (λb u hb q=>kp b u ?_ q) (λb q=>tr q) (λb xs q=>tr q) (λb _ _ q=>tr q);rcases hb with hb|hb
  .subst hb;exact out e
  .exact out hb
end
section
variable{X:Cx}{ρ:Rho}{a b:ai}{es:List ai}{n:Nat}{pos p q1 q2:aK}{ds ds':List D}{l1 l2:Bool}
noncomputable def D.seq(lst:Bool)(ds:List D):D:=if lst=a6 then .lst ds else .tup ds
theorem Zi{K:k7x}{H:Hp}{lst:Bool}{v:V}(h:Enc K H (D.seq lst ds) v):∃t xs,v=.ref t/\SqB K lst H t xs/\j5 K H ds xs:=by
 unfold D.seq at h;unfold SqB;cases lst with
 |true=>rw[if_pos rfl]at h;obtain⟨t,xs,e,s,l⟩:=h;exact⟨t,xs,e,by rw[if_pos rfl];exact s,l⟩
 |false=>rw[if_neg xm]at h;obtain⟨t,xs,e,s,l⟩:=h;exact⟨t,xs,e,by rw[if_neg xm];exact s,l⟩
theorem DG.pair{x y:af}(i j:Nat){d d':D}(hij:i≠j)(hN:X.N.Nodup)(hi:X.N[i]?=a4 x:=by rfl)(hj:X.N[j]?=a4 y:=by rfl)(hx:Loc X.env.scope x:=by first|exact aN rfl|exact bu rfl)(hy:Loc X.env.scope y:=by first|exact aN rfl|exact bu rfl)
  (fx:X.fn x=a6\/X.env.scope.names.lookup x=a4 .local:=by first|exact .inl rfl|exact .inr rfl) (fy:X.fn y=a6\/X.env.scope.names.lookup y=a4 .local:=by first|exact .inl rfl|exact .inr rfl) (hc:X.calm=a6:=by rfl)
  (hn:(bp [.Name x q1,.Name y q2] X.env).length=2:=by rfl) (hst:(bp [.Name x q1,.Name y q2] X.env).findIdx? (·.1)=a7:=by rfl)
  (e1:(bp [.Name x q1,.Name y q2] X.env).map (·.2)=cI (.Name x q1) X.env::(bp [.Name y q2] X.env).map (·.2):=by rfl) (e2:(bp [.Name y q2] X.env).map (·.2)=cI (.Name y q2) X.env::(bp [] X.env).map (·.2):=by rfl) :
  DG X ρ (.Tuple [.Name x q1,.Name y q2] n pos) (.tup [d,d']) ((ρ.set i (.val d)).set j (.val d')):=by
 refine⟨λb hb=>(jc rfl).subset ((jc rfl).subset hb),λσ H v Q R en q=>?_⟩;obtain⟨t,xs,ev,sq,u,r,e,eu,u',r',e',eu',er⟩:=en;subst e e' ev er;refine(jeu hc (Ih (Yv hN hi hx fx) (Ih (Yv hN hj hy fy) jbq e2) e1) hn hst).to ⟨t,[u,u'],rfl,q8.seqT sq,rfl,u,[u'],rfl,u',[],rfl,rfl,?_⟩;refine q _ ?_;have R1:Rep X.K (ρ.set i (.val d)) (σ.set i (a4 u)) H:=R.set_val eu;exact R1.set_val (eu'.mono (zy λb hb=>(jc rfl).subset hb))
end
noncomputable def D.ty:D->String
 |.non=>"NoneType"
 |.bl _=>"bool"
 |.int _=>"int"
 |.str _=>"str"
 |.tup _=>"tuple"
 |.lst _=>"list"
 |.dct _ _=>"dict"
 |.sct _=>"dict"
 |.fn _ _=>"function"
section
variable{X:Cx}{pins:k7z}{σ:St}{H:Hp}{s:ah}{A:aD}{E:k7y}{Q:k7y}{c:aa}{b:Bool}
theorem j56 {d:D} {v:V} {u:aa} (I:Inv X pins σ H s) (en:Enc X.K H d v) (r:RelV v u) (nf:d.ty ≠ "function"):∃P:aE->Prop,iR X.K u (.type d.ty) P/\P s.heap/\u≠.builtin "__main__.__loader__#opaque":=by
 cases d with
 |non=>cases(show v=.non from en);cases(show u=aV from r);exact⟨_,W.kitx_none,trivial,λz=>nomatch z⟩
 |bl k=>cases(show v=.bl k from en);cases(show u=bI k from r);exact⟨_,W.kitx_bool,trivial,λz=>nomatch z⟩
 |int k=>cases(show v=.int k from en);obtain⟨t,q⟩:=(show ∃t,u=bx k t from r);cases q;exact⟨_,W.kitx_int,trivial,λz=>nomatch z⟩
 |str k=>cases(show v=.str k from en);obtain⟨t,q⟩:=(show ∃t,u=bg k t from r);cases q;exact⟨_,W.kitx_str,trivial,λz=>nomatch z⟩
 |tup l =>obtain⟨a,xs,e,sq,_⟩:=en;subst e;cases(show u=aF a from r);obtain⟨its,_,⟨o,h1,h2,_⟩,_⟩:=I.tuple sq;exact⟨_,W.kitx_tuple,⟨o,h1,h2⟩,λz=>nomatch z⟩
 |lst l =>obtain⟨a,xs,e,sq,_⟩:=en;subst e;cases(show u=aF a from r);obtain⟨its,_,⟨o,n,h1,h2,_⟩,_⟩:=I.list sq;exact⟨_,W.kitx_list,⟨o,h1,h2⟩,λz=>nomatch z⟩
 |dct ks l =>
  obtain⟨a,xs,ep,vs,e,hx,_⟩:=en;subst e;cases(show u=aF a from r);obtain⟨_,_,_,o,es,h1,h2,_⟩:=(show jk X.prog X.w H s.heap a (.dI xs ep)from I.hok _ _ hx)
  exact⟨_,W.kitx_dict,⟨o,h1,h2.1⟩,λz=>nomatch z⟩
 |sct k =>
  obtain⟨a,e,hx⟩:=en;subst e;cases(show u=aF a from r);obtain⟨_,_,vs,_,o,es,ep,h1,h2,_⟩:=(show jk X.prog X.w H s.heap a (.dK (kvI k))from I.hok _ _ hx)
  exact⟨_,W.kitx_dict,⟨o,h1,h2.1⟩,λz=>nomatch z⟩
 |fn x l=>exact absurd rfl nf
theorem j63:vm X (.builtin "isinstance") (λxs H Q=>∃v d c b,xs=[v,.ty c]/\Enc X.K H d v/\d.ty ≠ "function"/\W.kitOne X.K (.type d.ty) (.type c)=a4 b/\Q (.bl b) H):=by rintro pins s σ H xs us Q I r ⟨v,d,c,b,e,en,nf,k,q⟩;subst e;obtain⟨u,u',eu,r1,r2⟩:=vals2 r;subst eu;cases(show u'=dr c from r2);obtain⟨P,Z,hp,hn⟩:=j56 I en r1 nf;exact W.kia_one Z I.kIn hp k hn λtk=>⟨.bl b,H,I.tok tk,rfl,q⟩
theorem j62:vm X (.builtin "isinstance") (λxs H Q=>∃(v:V)(t:ae)(d:D)(cs:List String)(b:Bool),xs=[v,.ref t]/\Enc X.K H d v/\d.ty ≠ "function"/\SqT X.K H t (cs.map V.ty)/\W.kitAny X.K (.type d.ty) (cs.map dr)=a4 b/\Q (.bl b) H):=by
 rintro pins s σ H xs us Q I r ⟨v,t,d,cs,b,e,en,nf,sq,k,q⟩;subst e;obtain⟨u,u',eu,r1,r2⟩:=vals2 r;subst eu;cases(show u'=aF t from r2);obtain⟨P,Z,hp,hn⟩:=j56 I en r1 nf;obtain⟨its,rv,⟨⟨cl,dd,da,sl⟩,h1,h2,n,h3⟩,_⟩:=I.tuple sq;have h2:cl=.type "tuple":=h2;have h3:da=.seq its.toArray n:=h3;subst h2 h3;have ei:∀{cs:List String}{its:List aa},Vals (cs.map V.ty) its->its=cs.map dr:=λ{cs}=>by
  induction cs with
  |nil=>intro its h;exact h.zero
  |cons c cs ih=>intro its h;cases h with|cons a b=>cases a;rw[ih b];rfl
 rw[ei rv]at h1;exact W.kia_tup Z I.kIn hp h1 k hn λtk=>⟨.bl b,H,I.tok tk,rfl,q⟩
end
section
variable{X:Cx}{ρ:Rho}{a b:ai}{d:D}{pos p p1 p2 p3:aK}{T T1 T2:af}{c c1 c2:String}{k:Bool}{n:Nat}
theorem Lw (hg:Gl X T) (hm:X.mg T=a7) (hv:b0 T=a4 (.type c)) (hn:T ≠ "__name__":=by decide) (hd:(T==k81)=a5:=by decide):PE X (.Name T p) (tC (.ty c)):=jbr hg hm hv rfl hn hd
theorem DE.isi1 (ha:DT X ρ a d) (nf:d.ty ≠ "function") (hm:X.mg "isinstance" = a7) (hT:X.mg T=a7) (hv:b0 T=a4 (.type c)) (hk:W.kitOne X.K (.type d.ty) (.type c)=a4 k) (hg:Gl X "isinstance":=by rfl) (hg2:Gl X T:=by rfl)
  (hn:T ≠ "__name__":=by decide) (hd:(T==k81)=a5:=by decide)
  (hs:a8 [a,.Name T p2] X.env=(a5,az a X.env)::a8 [.Name T p2] X.env:=by rfl) (hs2:a8 [.Name T p2] X.env=(a5,az (.Name T p2) X.env)::a8 [] X.env:=by rfl) (hpl:(aO pos (a8 [.Name T p2] X.env)).any (·.1)=a5:=by rfl) :
  DE X ρ (.Call (.Name "isinstance" p) [a,.Name T p2] [] pos) (.bl k):=λσ H Q R q =>
 (zb j63 hg hm cZ (j9 peS (j9 (Lw hg2 hT hv hn hd) jl hs2) hs) (by decide) (by decide) hs hpl).to (ha σ H _ R λv H1 g1 e1=>⟨v,d,c,k,rfl,e1,nf,hk,q _ H1 g1 rfl⟩)
theorem DE.isi2 {m:Nat} (ha:DT X ρ a d) (nf:d.ty ≠ "function") (hm:X.mg "isinstance" = a7) (hT1:X.mg T1=a7) (hT2:X.mg T2=a7) (hv1:b0 T1=a4 (.type c1)) (hv2:b0 T2=a4 (.type c2))
  (hk:W.kitAny X.K (.type d.ty) [.type c1,.type c2]=a4 k) (hg:Gl X "isinstance":=by rfl) (hg1:Gl X T1:=by rfl) (hg2:Gl X T2:=by rfl)
  (hn1:T1 ≠ "__name__":=by decide) (hd1:(T1==k81)=a5:=by decide) (hn2:T2 ≠ "__name__":=by decide) (hd2:(T2==k81)=a5:=by decide)
  (hs:a8 [a,.Tuple [.Name T1 p1,.Name T2 p2] m p3] X.env=(a5,az a X.env)::a8 [.Tuple [.Name T1 p1,.Name T2 p2] m p3] X.env:=by rfl)
  (hs2:a8 [.Tuple [.Name T1 p1,.Name T2 p2] m p3] X.env=(a5,az (.Tuple [.Name T1 p1,.Name T2 p2] m p3) X.env)::a8 [] X.env:=by rfl) (hpl:(aO pos (a8 [.Tuple [.Name T1 p1,.Name T2 p2] m p3] X.env)).any (·.1)=a5:=by rfl)
  (hs3:a8 [.Name T1 p1,.Name T2 p2] X.env=(a5,az (.Name T1 p1) X.env)::a8 [.Name T2 p2] X.env:=by rfl) (hs4:a8 [.Name T2 p2] X.env=(a5,az (.Name T2 p2) X.env)::a8 [] X.env:=by rfl) :
  DE X ρ (.Call (.Name "isinstance" p) [a,.Tuple [.Name T1 p1,.Name T2 p2] m p3] [] pos) (.bl k):=λσ H Q R q =>
 (zb j62 hg hm cZ (j9 peS (j9 (Ii (j9 (Lw hg1 hT1 hv1 hn1 hd1) (j9 (Lw hg2 hT2 hv2 hn2 hd2) jl hs4) hs3)) jl hs2) hs) (by decide) (by decide) hs hpl).to
  (ha σ H _ R λv H1 g1 e1=>⟨by show 2<=ak;decide,λt ht=>⟨v,t,d,[c1,c2],k,rfl,e1.mono (j8 ht),nf,.inl (.inl jq),hk,q _ _ (g1.trans (j8 ht)) rfl⟩⟩)
end
mutual
noncomputable def deq:D->D->Bool
 |.non,.non=>a6
 |.bl a,.bl b=>a==b
 |.bl a,.int b=>(if a then 1 else 0)==b
 |.int a,.bl b=>a==(if b then 1 else 0)
 |.int a,.int b=>a==b
 |.str a,.str b=>a==b
 |.tup xs,.tup ys=>qx xs ys
 |.lst xs,.lst ys=>qx xs ys
 |.dct k xs,.dct m ys=>decide (k=m)&&qx xs ys
 |.sct k,.sct m=>decide (k=m)
 |_,_=>a5
noncomputable def qx:List D->List D->Bool
 |[],[]=>a6
 |x::xs,y::ys=>deq x y&&qx xs ys
 |_,_=>a5
end
theorem jh4{a b:Bool}:deq (.bl a) (.bl b)=(a==b):=(rfl)
theorem j5j{a b:Int}:deq (.int a) (.int b)=(a==b):=(rfl)
theorem Wm{a b:af}:deq (.str a) (.str b)=(a==b):=(rfl)
theorem Bp{a b:List D}:deq (.tup a) (.tup b)=qx a b:=(rfl)
theorem Bq{a b:List D}:deq (.lst a) (.lst b)=qx a b:=(rfl)
theorem Q3:qx [] []=a6:=(rfl)
theorem vq{x y:D}{xs ys:List D}:qx (x::xs) (y::ys)=(deq x y&&qx xs ys):=(rfl)
theorem Zj{y:D}{ys:List D}:qx [] (y::ys)=a5:=(rfl)
theorem Zk{x:D}{xs:List D}:qx (x::xs) []=a5:=(rfl)
mutual
noncomputable def D.dep:D->Nat
 |.tup xs=>D.depL xs+1
 |.lst xs=>D.depL xs+1
 |.dct _ _=>20000
 |.sct _=>20000
 |.fn _ _=>20000
 |_=>0
noncomputable def D.depL:List D->Nat
 |[]=>0
 |x::xs=>max x.dep (D.depL xs)
end
mutual
theorem Mx:∀d:D,d.dep<10000->deq d d=a6
 |.non,_=>rfl
 |.bl b,_=>by rw[jh4];simp
 |.int i,_=>by rw[j5j];simp
 |.str x,_=>by rw[Wm];simp
 |.tup xs,h=>by rw[Bp];exact Wn xs (by simp only[D.dep]at h;omega)
 |.lst xs,h=>by rw[Bq];exact Wn xs (by simp only[D.dep]at h;omega)
 |.dct _ _,h=>by simp[D.dep]at h
 |.sct _,h=>by simp[D.dep]at h
 |.fn _ _,h=>by simp[D.dep]at h
theorem Wn:∀ds:List D,D.depL ds<10000->qx ds ds=a6
 |[],_=>rfl
 |d::ds,h=>by rw[D.depL]at h;rw[vq,Mx d nofun,Wn ds nofun];rfl
end
theorem Vx:∀{xs ys:List D},xs.length≠ys.length->qx xs ys=a5
 |[],[],h=>absurd rfl h
 |[],_::_,_=>by simp[Q3,vq,Zj,Zk]
 |_::_,[],_=>by simp[Q3,vq,Zj,Zk]
 |x::xs,y::ys,h=>by have:=Vx (xs:=xs) (ys:=ys) (by simpa using h);simp[Q3,vq,Zj,Zk,this]
theorem Z0{f:Nat->Bool}:∀{xs ys:List D},xs.length=ys.length->(∀(j:Nat) x y,xs[j]?=a4 x->ys[j]?=a4 y->f j=deq x y)->(au xs.length).all f=qx xs ys
 |[],[],_,_=>by simp[Q3,vq,Zj,Zk]
 |[],_::_,h,_=>by simp at h
 |_::_,[],h,_=>by simp at h
 |x::xs,y::ys,h,hf=>by have ih:=Z0 (f:=λj=>f (j+1)) (xs:=xs) (ys:=ys) (by simpa using h) (λj a b ha hb=>hf (j+1) a b (by simpa using ha) (by simpa using hb));rw[X4,dy,g9,hf 0 x y rfl rfl,k6];simp only[vq];rw[<-ih];rfl
section
variable{X:Cx}{pins:k7z}{σ:St}{H:Hp}{s:ah}
theorem Ik(I:Inv X pins σ H s){a:ae}{xs ys:List V}(h:SqT X.K H a xs)(h':SqL X.K H a ys):False:=by obtain⟨_,_,⟨o,h1,h2,_⟩,_⟩:=I.tuple h;obtain⟨_,_,⟨o',n,h1',h2',_⟩,_⟩:=I.list h';rw[h1]at h1';cases h1';rw[h2]at h2';injection h2' with e;exact absurd e (by decide)
noncomputable def D.atom:D->Option V
 |.non=>a4 .non
 |.bl b=>a4 (.bl b)
 |.int i=>a4 (.int i)
 |.str x=>a4 (.str x)
 |_=>a7
theorem Enc.at_{K:k7x}{d:D}{v u:V}(h:Enc K H d v)(e:d.atom=a4 u):v=u:=by
 cases d with
 |non=>cases e;exact(show v=.non from h)
 |bl b=>cases e;exact(show v=.bl b from h)
 |int i=>cases e;exact(show v=.int i from h)
 |str x=>cases e;exact(show v=.str x from h)
 |_=>cases e
theorem Enc.ref{K:k7x}{d:D}{v:V}(h:Enc K H d v)(e:d.atom=a7):∃a,v=.ref a:=by
 cases d with
 |tup l=>obtain⟨a,_,e,_⟩:=h;exact⟨a,e⟩
 |lst l=>obtain⟨a,_,e,_⟩:=h;exact⟨a,e⟩
 |dct k l=>obtain⟨a,_,_,_,e,_⟩:=h;exact⟨a,e⟩
 |sct k=>obtain⟨a,e,_⟩:=h;exact⟨a,e⟩
 |fn x l=>obtain⟨a,_,_,_,_,e,_⟩:=h;exact⟨a,e⟩
 |_=>cases e
theorem j9f{d d':D}{u:V}(h:d.atom=a4 u)(h':d'.atom=a4 u):d=d':=by cases d<;>cases d'<;>first|(cases h;done)|(cases h';done)|(cases h;cases h';rfl)|(cases h;cases h')
theorem j0b{d:D}{a:ae}(h:d.atom=a4 (.ref a)):False:=by cases d<;>cases h
theorem jg9(I:Inv X pins σ H s){d d':D}{v:V}(hd:d.dep<10000)(hd':d'.dep<10000)(h:Enc X.K H d v)(h':Enc X.K H d' v) :
  d=d'\/∃ds ds' xs,((d=.tup ds/\d'=.tup ds')\/(d=.lst ds/\d'=.lst ds'))/\j5 X.K H ds xs/\j5 X.K H ds' xs:=by
 cases e:d.atom with
 |some u =>
  have ev:=h.at_ e;subst ev;cases e':d'.atom with
  |some u'=>exact .inl (j9f e ((h'.at_ e')▸e'))
  |none=>obtain⟨a,ea⟩:=h'.ref e';subst ea;exact(j0b e).elim
 |none =>
  cases e':d'.atom with
  |some u'=>have ev:=h'.at_ e';subst ev;obtain⟨a,ea⟩:=h.ref e;subst ea;exact(j0b e').elim
  |none =>
   cases d with
   |tup ds =>
    obtain⟨a,xs,ea,sq,l⟩:=h;cases d' with
    |tup ds' =>obtain⟨a',ys,eb,sq',l'⟩:=h';rw[ea]at eb;cases eb;rw[I.tuple_inj sq' sq]at l';exact .inr ⟨ds,ds',xs,.inl ⟨rfl,rfl⟩,l,l'⟩
    |lst ds'=>obtain⟨a',ys,eb,sq',l'⟩:=h';rw[ea]at eb;cases eb;exact(Ik I sq sq').elim
    |dct _ _=>simp[D.dep]at hd'
    |sct _=>simp[D.dep]at hd'
    |fn _ _=>simp[D.dep]at hd'
    |_=>cases e'
   |lst ds =>
    obtain⟨a,xs,ea,sq,l⟩:=h;cases d' with
    |lst ds' =>obtain⟨a',ys,eb,sq',l'⟩:=h';rw[ea]at eb;cases eb;rw[I.list_inj sq' sq]at l';exact .inr ⟨ds,ds',xs,.inr ⟨rfl,rfl⟩,l,l'⟩
    |tup ds'=>obtain⟨a',ys,eb,sq',l'⟩:=h';rw[ea]at eb;cases eb;exact(Ik I sq' sq).elim
    |dct _ _=>simp[D.dep]at hd'
    |sct _=>simp[D.dep]at hd'
    |fn _ _=>simp[D.dep]at hd'
    |_=>cases e'
   |dct _ _=>simp[D.dep]at hd
   |sct _=>simp[D.dep]at hd
   |fn _ _=>simp[D.dep]at hd
   |_=>cases e
theorem j87{n:Nat}(ih:∀{d d':D}{v:V},d.dep<=n->d.dep<10000->d'.dep<10000->Enc X.K H d v->Enc X.K H d' v->d=d'):∀{ds ds':List D}{xs:List V},D.depL ds<=n->D.depL ds<10000->D.depL ds'<10000->j5 X.K H ds xs->j5 X.K H ds' xs->ds=ds'
 |[],[],_,_,_,_,_,_=>rfl
 |[],_::_,_,_,_,_,h,⟨x,r,e,_⟩=>by cases h;cases e
 |_::_,[],_,_,_,_,⟨x,r,e,_⟩,h=>by cases h;cases e
 |d::ds,d'::ds',_,m,n1,n2,⟨x,r,e,h,l⟩,⟨x',r',e',h',l'⟩=>by subst e;cases e';rw[D.depL]at m n1 n2;rw[ih nofun nofun nofun h h',j87 ih nofun nofun nofun l l']
theorem j86(I:Inv X pins σ H s):∀(n:Nat){d d':D}{v:V},d.dep<=n->d.dep<10000->d'.dep<10000->Enc X.K H d v->Enc X.K H d' v->d=d'
 |0,d,d',v,hn,hd,hd',h,h'=>by
  rcases jg9 I hd hd' h h' with e|⟨ds,ds',xs,⟨e,_⟩|⟨e,_⟩,_⟩
  .exact e
  .subst e;simp[D.dep]at hn
  .subst e;simp[D.dep]at hn
 |n+1,d,d',v,hn,hd,hd',h,h'=>by
  rcases jg9 I hd hd' h h' with e|⟨ds,ds',xs,⟨e,e'⟩|⟨e,e'⟩,l,l'⟩
  .exact e
  .subst e e';simp only[D.dep]at hn hd hd';rw[j87 (λa b c=>j86 I n a b c) nofun nofun nofun l l']
  .subst e e';simp only[D.dep]at hn hd hd';rw[j87 (λa b c=>j86 I n a b c) nofun nofun nofun l l']
theorem Enc.inj(I:Inv X pins σ H s){d d':D}{v:V}(hd:d.dep<10000)(hd':d'.dep<10000)(h:Enc X.K H d v)(h':Enc X.K H d' v):d=d':=j86 I d.dep (X7 _) hd hd' h h'
end
section
variable{X:Cx}{pins:k7z}{σ:St}{H:Hp}{s:ah}
theorem D.depL_le:∀{ds:List D}{j:Nat}{d:D},ds[j]?=a4 d->d.dep<=D.depL ds
 |[],_,_,h=>by simp at h
 |x::xs,0,d,h=>by simp at h;subst h;simp[D.depL];omega
 |x::xs,j+1,d,h=>by have:=D.depL_le (ds:=xs) (j:=j) (d:=d) (by simpa using h);simp[D.depL];omega
theorem Vg(I:Inv X pins σ H s):∀(n:Nat)(A:aD){d d':D}{v v':V}{u u':aa},d.dep<=n->A.units+n<aU->d'.dep<10000->Enc X.K H d v->RelV v u->Enc X.K H d' v'->RelV v' u' ->
  fE A s u u' (deq d d')/\cN A s u u' (deq d d')
 |0,A,d,d',v,v',u,u',hn,hu,nd,en,r,en',r'=>by
  have hu0:A.units<aU:=by omega
  cases d with
  |tup l=>simp[D.dep]at hn
  |lst l=>simp[D.dep]at hn
  |dct ks l=>simp[D.dep]at hn
  |sct k=>simp[D.dep]at hn
  |fn x l=>simp[D.dep]at hn
  |non =>
   cases(show v=.non from en);cases(show u=aV from r);cases d' with
   |dct ks' l'=>simp[D.dep]at nd
   |sct k'=>simp[D.dep]at nd
   |fn x' l'=>simp[D.dep]at nd
   |non=>cases(show v'=.non from en');cases(show u'=aV from r');exact⟨.none_none,.same _⟩
   |bl k=>cases(show v'=.bl k from en');cases(show u'=bI k from r');exact⟨.none_bool _,.none_bool _⟩
   |int k=>cases(show v'=.int k from en');obtain⟨t,q⟩:=(show ∃t,u'=bx k t from r');subst q;exact⟨.none_int _ _,.none_int _ _⟩
   |str k=>cases(show v'=.str k from en');obtain⟨t,q⟩:=(show ∃t,u'=bg k t from r');subst q;exact⟨.none_str _ _,.none_str _ _⟩
   |tup l=>obtain⟨a,xs,e,sq,_⟩:=en';subst e;cases(show u'=aF a from r');obtain⟨_,_,q,_⟩:=I.tuple sq;exact⟨.none_tuple q hu0,.none_tuple q hu0⟩
   |lst l=>obtain⟨a,xs,e,sq,_⟩:=en';subst e;cases(show u'=aF a from r');obtain⟨_,_,q,_⟩:=I.list sq;exact⟨.none_list q.isList hu0,.none_list q.isList hu0⟩
  |bl b =>
   cases(show v=.bl b from en);cases(show u=bI b from r);cases d' with
   |dct ks' l'=>simp[D.dep]at nd
   |sct k'=>simp[D.dep]at nd
   |fn x' l'=>simp[D.dep]at nd
   |non=>cases(show v'=.non from en');cases(show u'=aV from r');exact⟨.bool_none _,.bool_none _⟩
   |bl k=>cases(show v'=.bl k from en');cases(show u'=bI k from r');exact⟨.bool_bool _ _,.bool_bool _ _⟩
   |int k=>cases(show v'=.int k from en');obtain⟨t,q⟩:=(show ∃t,u'=bx k t from r');subst q;exact⟨.bool_int _ _ _,.bool_int _ _ _⟩
   |str k=>cases(show v'=.str k from en');obtain⟨t,q⟩:=(show ∃t,u'=bg k t from r');subst q;exact⟨.bool_str _ _ _,.bool_str _ _ _⟩
   |tup l=>obtain⟨a,xs,e,sq,_⟩:=en';subst e;cases(show u'=aF a from r');obtain⟨_,_,q,_⟩:=I.tuple sq;exact⟨.bool_tuple _ q hu0,.bool_tuple _ q hu0⟩
   |lst l=>obtain⟨a,xs,e,sq,_⟩:=en';subst e;cases(show u'=aF a from r');obtain⟨_,_,q,_⟩:=I.list sq;exact⟨.bool_list _ q.isList hu0,.bool_list _ q.isList hu0⟩
  |int b =>
   cases(show v=.int b from en);obtain⟨tk,q0⟩:=(show ∃t,u=bx b t from r);subst q0;cases d' with
   |dct ks' l'=>simp[D.dep]at nd
   |sct k'=>simp[D.dep]at nd
   |fn x' l'=>simp[D.dep]at nd
   |non=>cases(show v'=.non from en');cases(show u'=aV from r');exact⟨.int_none _ _,.int_none _ _⟩
   |bl k=>cases(show v'=.bl k from en');cases(show u'=bI k from r');exact⟨.int_bool _ _ _,.int_bool _ _ _⟩
   |int k=>cases(show v'=.int k from en');obtain⟨t,q⟩:=(show ∃t,u'=bx k t from r');subst q;exact⟨.int_int _ _ _ _,.int_int _ _ _ _⟩
   |str k=>cases(show v'=.str k from en');obtain⟨t,q⟩:=(show ∃t,u'=bg k t from r');subst q;exact⟨.int_str _ _ _ _,.int_str _ _ _ _⟩
   |tup l=>obtain⟨a,xs,e,sq,_⟩:=en';subst e;cases(show u'=aF a from r');obtain⟨_,_,q,_⟩:=I.tuple sq;exact⟨.int_tuple _ _ q hu0,.int_tuple _ _ q hu0⟩
   |lst l=>obtain⟨a,xs,e,sq,_⟩:=en';subst e;cases(show u'=aF a from r');obtain⟨_,_,q,_⟩:=I.list sq;exact⟨.int_list _ _ q.isList hu0,.int_list _ _ q.isList hu0⟩
  |str b =>
   cases(show v=.str b from en);obtain⟨tk,q0⟩:=(show ∃t,u=bg b t from r);subst q0;cases d' with
   |dct ks' l'=>simp[D.dep]at nd
   |sct k'=>simp[D.dep]at nd
   |fn x' l'=>simp[D.dep]at nd
   |non=>cases(show v'=.non from en');cases(show u'=aV from r');exact⟨.str_none _ _,.str_none _ _⟩
   |bl k=>cases(show v'=.bl k from en');cases(show u'=bI k from r');exact⟨.str_bool _ _ _,.str_bool _ _ _⟩
   |int k=>cases(show v'=.int k from en');obtain⟨t,q⟩:=(show ∃t,u'=bx k t from r');subst q;exact⟨.str_int _ _ _ _,.str_int _ _ _ _⟩
   |str k=>cases(show v'=.str k from en');obtain⟨t,q⟩:=(show ∃t,u'=bg k t from r');subst q;exact⟨.str_str _ _ _ _,.str_str _ _ _ _⟩
   |tup l=>obtain⟨a,xs,e,sq,_⟩:=en';subst e;cases(show u'=aF a from r');obtain⟨_,_,q,_⟩:=I.tuple sq;exact⟨.str_tuple _ _ q hu0,.str_tuple _ _ q hu0⟩
   |lst l=>obtain⟨a,xs,e,sq,_⟩:=en';subst e;cases(show u'=aF a from r');obtain⟨_,_,q,_⟩:=I.list sq;exact⟨.str_list _ _ q.isList hu0,.str_list _ _ q.isList hu0⟩
 |n+1,A,d,d',v,v',u,u',hn,hu,nd,en,r,en',r'=>by
  have hu0:A.units<aU:=by omega
  have hu1:A.in1.units+n<aU:=by show A.units+1+n<aU;omega
  have low:d.dep<=n->fE A s u u' (deq d d')/\cN A s u u' (deq d d'):=λh=>Vg I n A h nofun nd en r en' r';cases d with
  |non=>exact low (by simp[D.dep])
  |bl b=>exact low (by simp[D.dep])
  |int b=>exact low (by simp[D.dep])
  |str b=>exact low (by simp[D.dep])
  |dct ks l=>exfalso;have:(9900:Nat)=aU:=rfl;simp only[D.dep]at hn;omega
  |sct k=>exfalso;have:(9900:Nat)=aU:=rfl;simp only[D.dep]at hn;omega
  |fn x l=>exfalso;have:(9900:Nat)=aU:=rfl;simp only[D.dep]at hn;omega
  |tup ds =>
   have hd:D.depL ds<=n:=by simp[D.dep]at hn;omega
   obtain⟨a,xs,e,sq,l⟩:=id en;subst e;cases(show u=aF a from r);obtain⟨us,rv,q,_⟩:=I.tuple sq;cases d' with
   |dct ks' l'=>simp[D.dep]at nd
   |sct k'=>simp[D.dep]at nd
   |fn x' l'=>simp[D.dep]at nd
   |non=>cases(show v'=.non from en');cases(show u'=aV from r');exact⟨.tuple_none q hu0,.tuple_none q hu0⟩
   |bl k=>cases(show v'=.bl k from en');cases(show u'=bI k from r');exact⟨.tuple_bool _ q hu0,.tuple_bool _ q hu0⟩
   |int k=>cases(show v'=.int k from en');obtain⟨t,q'⟩:=(show ∃t,u'=bx k t from r');subst q';exact⟨.tuple_int _ _ q hu0,.tuple_int _ _ q hu0⟩
   |str k=>cases(show v'=.str k from en');obtain⟨t,q'⟩:=(show ∃t,u'=bg k t from r');subst q';exact⟨.tuple_str _ _ q hu0,.tuple_str _ _ q hu0⟩
   |lst ds'=>obtain⟨a',ys,e,sq',_⟩:=en';subst e;cases(show u'=aF a' from r');obtain⟨_,_,q',_⟩:=I.list sq';exact⟨.tuple_list q q'.isList hu0,.tuple_list q q'.isList hu0⟩
   |tup ds' =>
    obtain⟨a',ys,e,sq',l'⟩:=id en';subst e;cases(show u'=aF a' from r');obtain⟨us',rv',q',_⟩:=I.tuple sq';have e1:us.length=ds.length:=by rw[<-rv.length,l.length]
    have e2:us'.length=ds'.length:=by rw[<-rv'.length,l'.length]
    have main:fE A s (.ref a) (.ref a') (deq (.tup ds) (.tup ds')):=by
     have item:∀(j:Nat)(h1:j<us.toArray.size)(h2:j<us'.toArray.size),cN A.in1 s us.toArray[j] us'.toArray[j] (deq (ds.getD j .non) (ds'.getD j .non)):=λj h1 h2=>by
      have k1:j<ds.length:=by rw[<-e1];simpa using h1
      have k2:j<ds'.length:=by rw[<-e2];simpa using h2
      obtain⟨x,hx,ex⟩:=l.get (kh k1);obtain⟨y,hy,ey⟩:=l'.get (kh k2);obtain⟨w1,hw1,rw1⟩:=rv.get hx;obtain⟨w2,hw2,rw2⟩:=rv'.get hy;have g1:us.toArray[j]=w1:=by simp at h1 ⊢;rw[kh (by simpa using h1)]at hw1;exact aw hw1
      have g2:us'.toArray[j]=w2:=by simp at h2 ⊢;rw[kh (by simpa using h2)]at hw2;exact aw hw2
      rw[g1,g2,xf,xf,kh k1,kh k2];exact(Vg I n A.in1 (Xf (D.depL_le (kh k1)) hd) hu1 (d4 (D.depL_le (kh k2)) (by simp only[D.dep]at nd;omega)) ex rw1 ey rw2).2
     have z:=SeqAt.RcAt.tuples (A:=A) (s:=s) q q' hu0 (e:=λj=>deq (ds.getD j .non) (ds'.getD j .non)) item;have ev:((au (min us.toArray.size us'.toArray.size)).all (λj=>deq (ds.getD j .non) (ds'.getD j .non))&&us.toArray.size==us'.toArray.size)=deq (.tup ds) (.tup ds'):=by
      simp only[Bp,xu,e1,e2];by_cases hl:ds.length=ds'.length
      .rw[hl,kE,beq_self_eq_true,jR,<-hl];exact Z0 hl λj x y hx hy=>by rw[xf,xf,hx,hy];rfl
      .rw[Vx hl,beq_false_of_ne hl,fU]
     rw[ev]at z;exact z
    refine⟨main,?_⟩;by_cases ea:a=a'
    .subst ea;have e9:(9900:Nat)=aU:=rfl;rw[Enc.inj I nofun nd en en',Mx _ nd];exact .same _
    .exact .of_refs ea main
  |lst ds =>
   have hd:D.depL ds<=n:=by simp[D.dep]at hn;omega
   obtain⟨a,xs,e,sq,l⟩:=id en;subst e;cases(show u=aF a from r);obtain⟨us,rv,q0,_⟩:=I.list sq;have q:=q0.isList;cases d' with
   |dct ks' l'=>simp[D.dep]at nd
   |sct k'=>simp[D.dep]at nd
   |fn x' l'=>simp[D.dep]at nd
   |non=>cases(show v'=.non from en');cases(show u'=aV from r');exact⟨.list_none q hu0,.list_none q hu0⟩
   |bl k=>cases(show v'=.bl k from en');cases(show u'=bI k from r');exact⟨.list_bool _ q hu0,.list_bool _ q hu0⟩
   |int k=>cases(show v'=.int k from en');obtain⟨t,q'⟩:=(show ∃t,u'=bx k t from r');subst q';exact⟨.list_int _ _ q hu0,.list_int _ _ q hu0⟩
   |str k=>cases(show v'=.str k from en');obtain⟨t,q'⟩:=(show ∃t,u'=bg k t from r');subst q';exact⟨.list_str _ _ q hu0,.list_str _ _ q hu0⟩
   |tup ds'=>obtain⟨a',ys,e,sq',_⟩:=en';subst e;cases(show u'=aF a' from r');obtain⟨_,_,q',_⟩:=I.tuple sq';exact⟨.list_tuple q q' hu0,.list_tuple q q' hu0⟩
   |lst ds' =>
    obtain⟨a',ys,e,sq',l'⟩:=id en';subst e;cases(show u'=aF a' from r');obtain⟨us',rv',q0',_⟩:=I.list sq';have q':=q0'.isList;have e1:us.length=ds.length:=by rw[<-rv.length,l.length]
    have e2:us'.length=ds'.length:=by rw[<-rv'.length,l'.length]
    have main:fE A s (.ref a) (.ref a') (deq (.lst ds) (.lst ds')):=by
     have item:∀(j:Nat)(h1:j<us.toArray.size)(h2:j<us'.toArray.size),cN A.in1 s us.toArray[j] us'.toArray[j] (deq (ds.getD j .non) (ds'.getD j .non)):=λj h1 h2=>by
      have k1:j<ds.length:=by rw[<-e1];simpa using h1
      have k2:j<ds'.length:=by rw[<-e2];simpa using h2
      obtain⟨x,hx,ex⟩:=l.get (kh k1);obtain⟨y,hy,ey⟩:=l'.get (kh k2);obtain⟨w1,hw1,rw1⟩:=rv.get hx;obtain⟨w2,hw2,rw2⟩:=rv'.get hy;have g1:us.toArray[j]=w1:=by simp at h1 ⊢;rw[kh (by simpa using h1)]at hw1;exact aw hw1
      have g2:us'.toArray[j]=w2:=by simp at h2 ⊢;rw[kh (by simpa using h2)]at hw2;exact aw hw2
      rw[g1,g2,xf,xf,kh k1,kh k2];exact(Vg I n A.in1 (Xf (D.depL_le (kh k1)) hd) hu1 (d4 (D.depL_le (kh k2)) (by simp only[D.dep]at nd;omega)) ex rw1 ey rw2).2
     simp only[Bq];by_cases hl:ds.length=ds'.length
     .have z:=SeqAt.RcAt.lists (A:=A) (s:=s) q q' (by simp[e1,e2,hl]) hu0 (e:=λj=>deq (ds.getD j .non) (ds'.getD j .non)) item;have ev:(au us.toArray.size).all (λj=>deq (ds.getD j .non) (ds'.getD j .non))=qx ds ds':=by rw[xu,e1];exact Z0 hl λj x y hx hy=>by rw[xf,xf,hx,hy];rfl
      rw[ev]at z;exact z
     .rw[Vx hl];exact .lists_lengths q q' (by simp[e1,e2,hl]) hu0
    refine⟨main,?_⟩;by_cases ea:a=a'
    .subst ea;have e9:(9900:Nat)=aU:=rfl;rw[Enc.inj I nofun nd en en',Mx _ nd];exact .same _
    .exact .of_refs ea main
end
section
variable{X:Cx}{pins:k7z}{σ:St}{H:Hp}{s:ah}{A:aD}
theorem j7u(I:Inv X pins σ H s){n:Nat}{ds ds':List D}{xs ys:List V}{us us':List aa}(l:j5 X.K H ds xs)(rv:Vals xs us)(l':j5 X.K H ds' ys)(rv':Vals ys us')(hd:D.depL ds<=n)(hu:A.units+1+n<aU)(nd:D.depL ds'<10000) :
  ∀(j:Nat)(h1:j<us.toArray.size)(h2:j<us'.toArray.size),cN A.in1 s us.toArray[j] us'.toArray[j] (deq (ds.getD j .non) (ds'.getD j .non)):=λj h1 h2=>by
 have k1:j<ds.length:=by rw[<-l.length,rv.length];simpa using h1
 have k2:j<ds'.length:=by rw[<-l'.length,rv'.length];simpa using h2
 obtain⟨x,hx,ex⟩:=l.get (kh k1);obtain⟨y,hy,ey⟩:=l'.get (kh k2);obtain⟨w1,hw1,rw1⟩:=rv.get hx;obtain⟨w2,hw2,rw2⟩:=rv'.get hy;have g1:us.toArray[j]=w1:=by simp at h1 ⊢;rw[kh (by simpa using h1)]at hw1;exact aw hw1
 have g2:us'.toArray[j]=w2:=by simp at h2 ⊢;rw[kh (by simpa using h2)]at hw2;exact aw hw2
 rw[g1,g2,xf,xf,kh k1,kh k2];exact(Vg I n A.in1 (Xf (D.depL_le (kh k1)) hd) hu (d4 (D.depL_le (kh k2)) nd) ex rw1 ey rw2).2
theorem j4o(hu:X.A.units+100<aU):OpR X (aX .Eq) (λx y H Q=>∃d d',Enc X.K H d x/\Enc X.K H d' y/\d.dep<=100/\d'.dep<10000/\Q (.bl (deq d d')) H):=by rintro pins s σ H x y v u Q I rx ry ⟨d,d',en,en',hd,nd,q⟩;exact(Vg I 100 X.A hd hu nd en rx en' ry).1 X.prog X.w X.xe _ ⟨.bl (deq d d'),H,I,rfl,q⟩
theorem j4m(hu:X.A.units+100<aU):OpR X (aX .NotEq) (λx y H Q=>∃ds ds' k,Enc X.K H (D.seq k ds) x/\Enc X.K H (D.seq k ds') y/\D.depL ds<=98/\D.depL ds'<10000/\Q (.bl (!qx ds ds')) H):=by
 rintro pins s σ H x y v u Q I rx ry ⟨ds,ds',k,en,en',hd,nd,q⟩;have h0:X.A.units<aU:=by omega
 obtain⟨t,xs,e,sq,l⟩:=Zi en;obtain⟨t',ys,e',sq',l'⟩:=Zi en';subst e e';cases rx;cases ry;obtain⟨us,rv,qs,_⟩:=I.side sq;obtain⟨us',rv',qs',_⟩:=I.side sq';have e1:us.length=ds.length:=by rw[<-rv.length,l.length]
 have e2:us'.length=ds'.length:=by rw[<-rv'.length,l'.length]
 have item:=j7u (A:=X.A) I l rv l' rv' hd nofun nd;unfold qj at qs qs';cases k with
 |true =>
  rw[if_pos rfl]at qs qs';by_cases hl:ds.length=ds'.length
  .have z:=SeqAt.RcNeAt.lists (A:=X.A) (s:=s) qs qs' (by simp[e1,e2,hl]) h0 (e:=λj=>deq (ds.getD j .non) (ds'.getD j .non)) item;have ev:(au us.toArray.size).all (λj=>deq (ds.getD j .non) (ds'.getD j .non))=qx ds ds':=by rw[xu,e1];exact Z0 hl λj x y hx hy=>by rw[xf,xf,hx,hy];rfl
   rw[ev]at z;exact z X.prog X.w X.xe _ ⟨.bl (!qx ds ds'),H,I,rfl,q⟩
  .have z:=SeqAt.RcNeAt.lists_lengths (A:=X.A) (s:=s) qs qs' (by simp[e1,e2,hl]) h0;rw[Vx hl]at q;exact z X.prog X.w X.xe _ ⟨.bl a6,H,I,rfl,q⟩
 |false =>
  rw[if_neg xm]at qs qs';have z:=SeqAt.RcNeAt.tuples (A:=X.A) (s:=s) qs qs' h0 (e:=λj=>deq (ds.getD j .non) (ds'.getD j .non)) item;have ev:((au (min us.toArray.size us'.toArray.size)).all (λj=>deq (ds.getD j .non) (ds'.getD j .non))&&us.toArray.size==us'.toArray.size)=qx ds ds':=by
   simp only[xu,e1,e2];by_cases hl:ds.length=ds'.length
   .rw[hl,kE,beq_self_eq_true,jR,<-hl];exact Z0 hl λj x y hx hy=>by rw[xf,xf,hx,hy];rfl
   .rw[Vx hl,beq_false_of_ne hl,fU]
  rw[ev]at z;exact z X.prog X.w X.xe _ ⟨.bl (!qx ds ds'),H,I,rfl,q⟩
noncomputable def eqW(X:Cx)(H:Hp)(d:D)(y:aa):Bool:=@decide (∃e v,e.dep<10000/\Enc X.K H e v/\RelV v y/\deq e d=a6) (d5 _)
theorem Bm(I:Inv X pins σ H s){d e:D}{v:V}{y:aa}(he:e.dep<10000)(en:Enc X.K H e v)(r:RelV v y):eqW X H d y=deq e d:=by
 unfold eqW;cases h:deq e d with
 |true=>exact @decide_eq_true _ (d5 _) ⟨e,v,he,en,r,h⟩
 |false =>refine @decide_eq_false _ (d5 _) λ⟨e',v',he',en',r',h'⟩=>?_;rw[r'.inj r]at en';rw[Enc.inj I he' he en' en,h]at h';cases h'
theorem Fx(I:Inv X pins σ H s){d:D}:∀{ds:List D}{xs:List V}{us:List aa},D.depL ds<10000->j5 X.K H ds xs->Vals xs us->us.any (eqW X H d)=ds.any λe=>deq e d
 |[],_,_,_,h,r=>by cases h;cases r;rfl
 |e::ds,_,_,hd,⟨x,r,eq,h,l⟩,rv=>by
  subst eq;rw[D.depL]at hd;cases rv with
  |cons a b=>rw[T5,T5,Fx I nofun l b,Bm I nofun h a]
theorem Yx(I:Inv X pins σ H s){d:D}{v:V}{u:aa}(en:Enc X.K H d v)(r:RelV v u)(nd:d.dep<10000){n:Nat}(hu:A.units+n<aU):∀{ds:List D}{xs:List V}{us:List aa},D.depL ds<=n->j5 X.K H ds xs->Vals xs us->∀y∈us,cN A s y u (eqW X H d y)
 |[],_,_,_,h,rv,y,hy=>by cases h;cases rv;cases hy
 |e::ds,_,_,hd,⟨x,r',eq,h,l⟩,rv,y,hy=>by
  subst eq;have hd':e.dep<=n/\D.depL ds<=n:=by simp[D.depL]at hd;omega
  cases rv with
  |cons a b =>
   rcases xn.mp hy with rfl|hy
   .have e9:(9900:Nat)=aU:=rfl;rw[Bm I nofun h a];exact(Vg I n A hd'.1 hu nd h a en r).2
   .exact Yx I en r nd hu hd'.2 l b y hy
theorem j4n(hu:X.A.units+100<aU):OpR X (aX .In) (λx y H Q=>∃d ds k,Enc X.K H d x/\Enc X.K H (D.seq k ds) y/\D.depL ds<=98/\d.dep<10000/\Q (.bl (ds.any λe=>deq e d)) H):=by
 rintro pins s σ H x y v u Q I rx ry ⟨d,ds,k,en,en',hd,nd,q⟩;obtain⟨t,xs,e,sq,l⟩:=Zi en';subst e;cases ry;obtain⟨us,rv,qs,_⟩:=I.side sq;have me:=λy (hy:y∈us.toArray)=>Yx (A:=X.A.in1) I en rx nd (n:=98) (by show X.A.units+1+98<aU;omega) hd l rv y (by simpa using hy);have ev:us.toArray.any (eqW X H d)=ds.any λe=>deq e d:=by rw[iQ];exact Fx I nofun l rv
 unfold qj at qs;cases k with
 |true=>rw[if_pos rfl]at qs;exact SeqAt.in_listAt (eqW X H d) qs me (by rw[ev];exact⟨.bl _,H,I,rfl,q⟩)
 |false=>rw[if_neg xm]at qs;exact SeqAt.in_tupleAt (eqW X H d) qs me (by rw[ev];exact⟨.bl _,H,I,rfl,q⟩)
theorem Dg(hu:X.A.units+100<aU):OpR X (aX .NotIn) (λx y H Q=>∃d ds k,Enc X.K H d x/\Enc X.K H (D.seq k ds) y/\D.depL ds<=98/\d.dep<10000/\Q (.bl (!ds.any λe=>deq e d)) H):=by
 rintro pins s σ H x y v u Q I rx ry ⟨d,ds,k,en,en',hd,nd,q⟩;obtain⟨t,xs,e,sq,l⟩:=Zi en';subst e;cases ry;obtain⟨us,rv,qs,_⟩:=I.side sq;have me:=λy (hy:y∈us.toArray)=>Yx (A:=X.A.in1) I en rx nd (n:=98) (by show X.A.units+1+98<aU;omega) hd l rv y (by simpa using hy);have ev:us.toArray.any (eqW X H d)=ds.any λe=>deq e d:=by rw[iQ];exact Fx I nofun l rv
 unfold qj at qs;cases k with
 |true=>rw[if_pos rfl]at qs;exact SeqAt.notIn_listAt (eqW X H d) qs me (by rw[ev];exact⟨.bl _,H,I,rfl,q⟩)
 |false=>rw[if_neg xm]at qs;exact SeqAt.notIn_tupleAt (eqW X H d) qs me (by rw[ev];exact⟨.bl _,H,I,rfl,q⟩)
theorem j7e:OpR X (b7 .Add) (λx y H Q=>∃a b xs ys,x=.ref a/\y=.ref b/\SqT X.K H a xs/\SqT X.K H b ys/\xs.length+ys.length<=ak /\
  (xs=[]->Q (.ref b) H)/\(xs≠[]->ys=[]->Q (.ref a) H)/\(xs≠[]->ys≠[]->∀p,H p=a7->Q (.ref p) (upd H p (.tup (xs++ys))))):=by
 rintro pins s σ H x y v u Q I rx ry ⟨a,b,xs,ys,e,e',sa,sb,hz,q1,q2,q3⟩;by_cases hx:xs=[]
 .subst e e' hx;cases rx;cases ry;obtain⟨us,ru,⟨⟨c1,d1,f1,g1⟩,h1,k1,n1,m1⟩,_⟩:=I.tuple sa;obtain⟨vs,rv,⟨⟨c2,d2,f2,g2⟩,h2,k2,n2,m2⟩,_⟩:=I.tuple sb;cases ru;have k1:c1=.type "tuple":=k1;have m1:f1=.seq ([]:List aa).toArray n1:=m1;have k2:c2=.type "tuple":=k2;have m2:f2=.seq vs.toArray n2:=m2;subst k1 m1 k2 m2;exact fN ⟨_,h1,rfl⟩ ⟨_,h2,rfl⟩ fW i5 dj d8 (cX _ _)
   (tuple_addW0 a b ([]:List aa).toArray vs.toArray n1 n2 d1 d2 g1 g2 (by simp)) ⟨h1,h2,⟨.ref b,H,I,rfl,q1 rfl⟩⟩
 .exact jbv pins s σ H x y v u Q I rx ry ⟨a,b,xs,ys,e,e',sa,sb,hx,hz,q2 hx,q3 hx⟩
theorem all_range:∀bs:List Bool,(au bs.length).all (λi=>(bs[i]?).getD a6)=bs.all id
 |[]=>rfl
 |b::bs=>by rw[X4,dy,g9,k6,g9,<-all_range bs];rfl
theorem j0s (hc:X.calm=a6):vm X (.builtin "all") (λxs H Q=>∃(l:ae)(bs:List Bool),xs=[.ref l]/\SqL X.K H l (bs.map V.bl)/\Q (.bl (bs.all id)) H):=by
 rintro pins s σ H xs us Q I r ⟨l,bs,e,sq,q⟩;subst e;obtain⟨u,eu,ru⟩:=vals1 r;subst eu;cases ru;obtain⟨its,rv,pl,_⟩:=I.list sq;have hlt:l<s.heap.objs.size:=by obtain⟨_,_,e,_⟩:=pl;exact xr e
 have hl:its.length=bs.length:=by rw[<-rv.length,xj]
 refine call_all_walk (cB pl.isList ⟨s.heap.objs.size,[s.heap.objs.size,l],[s.heap.objs.size],its.toArray.size,_,_,λi=>(bs[i]?).getD a6,rfl,Walks.list (A:=X.A.in1) (I.ok.hd hc) _ _ (Xj hlt) its.toArray,⟨⟨_,Xi _ rfl,rfl,rfl⟩,pl.isList.push _⟩,?_,λh' tk kp=>?_⟩)
 .intro i v s' Q' E' hv hq;have hi:i<its.length:=by have:=Array.getElem?_eq_some_iff.mp hv;obtain⟨h,_⟩:=this;simpa using h
  have hb:i<bs.length:=by omega
  obtain⟨w1,hw,rw1⟩:=rv.get (x:=.bl bs[i]) (i:=i) (by rw[xx,kh hb];rfl);have:its.toArray[i]?=a4 w1:=by simpa using hw
  rw[this]at hv;cases hv;cases rw1;simp only[kh hb,df]at hq;exact bf hq
 .have ev:(au its.toArray.size).all (λi=>(bs[i]?).getD a6)=bs.all id:=by rw[xu,hl];exact all_range bs
  rw[ev];refine⟨.bl _,H,I.kept (t':=tk) λb o e=>kp b o ?_ (X8 _ e),rfl,q⟩;intro z;rw[X6.mp z]at e;exact Pj _ (xr e)
end
section
variable{X:Cx}{ρ:Rho}{a b e:ai}{d d':D}{ds ds':List D}{i j:Int}{pos p p1 p2:aK}{k:Nat}{x:af}{P:Po}
theorem DE.eqD(hu:X.A.units+100<aU)(ha:DT X ρ a d)(hb:DT X ρ b d')(hd:d.dep<=100)(nd:d'.dep<10000):DE X ρ (.Compare a [.Eq] [b] pos) (.bl (deq d d')):=λσ H Q R q =>(Jr (j4o hu) peS peS (zg _)).to (ha σ H _ R λv H1 g1 e1=>hb σ H1 _ (R.grow g1) λu H2 g2 e2=>⟨d,d',e1.mono g2,e2,hd,nd,q _ H2 (g1.trans g2) rfl⟩)
theorem DB.eqD(hu:X.A.units+100<aU)(ha:DT X ρ a d)(hb:DT X ρ b d')(hd:d.dep<=100)(nd:d'.dep<10000):DB X ρ (.Compare a [.Eq] [b] pos) (deq d d'):=λσ H Q R q =>(Jq (j4o hu) peS peS (zg _)).to (ha σ H _ R λv H1 g1 e1=>hb σ H1 _ (R.grow g1) λu H2 g2 e2=>⟨d,d',e1.mono g2,e2,hd,nd,_,rfl,q H2 (g1.trans g2)⟩)
theorem DB.neD(s:Bool)(hu:X.A.units+100<aU)(ha:DT X ρ a (D.seq s ds))(hb:DT X ρ b (D.seq s ds'))(hd:D.depL ds<=98)(nd:D.depL ds'<10000):DB X ρ (.Compare a [.NotEq] [b] pos) (!qx ds ds'):=λσ H Q R q =>(Jq (j4m hu) peS peS (zg _)).to (ha σ H _ R λv H1 g1 e1=>hb σ H1 _ (R.grow g1) λu H2 g2 e2=>⟨ds,ds',s,e1.mono g2,e2,hd,nd,_,rfl,q H2 (g1.trans g2)⟩)
theorem DB.notIn(s:Bool)(hu:X.A.units+100<aU)(ha:DT X ρ a d)(hb:DT X ρ b (D.seq s ds))(hd:D.depL ds<=98)(nd:d.dep<10000)(hm:aL .NotIn b=a5:=by with_unfolding_all rfl):DB X ρ (.Compare a [.NotIn] [b] pos) (!ds.any λe=>deq e d):=λσ H Q R q =>(Jq (Dg hu) peS peS hm).to (ha σ H _ R λv H1 g1 e1=>hb σ H1 _ (R.grow g1) λu H2 g2 e2=>⟨d,ds,s,e1.mono g2,e2,hd,nd,_,rfl,q H2 (g1.trans g2)⟩)
theorem DB.in(s:Bool)(hu:X.A.units+100<aU)(ha:DT X ρ a d)(hb:DT X ρ b (D.seq s ds))(hd:D.depL ds<=98)(nd:d.dep<10000)(hm:aL .In b=a5:=by with_unfolding_all rfl):DB X ρ (.Compare a [.In] [b] pos) (ds.any λe=>deq e d):=λσ H Q R q =>(Jq (j4n hu) peS peS hm).to (ha σ H _ R λv H1 g1 e1=>hb σ H1 _ (R.grow g1) λu H2 g2 e2=>⟨d,ds,s,e1.mono g2,e2,hd,nd,_,rfl,q H2 (g1.trans g2)⟩)
theorem DE.min (ha:DT X ρ a (.int i)) (hb:DT X ρ b (.int j)) (hm:X.mg "min" = a7) (hc:X.calm=a6:=by rfl) (hg:Gl X "min":=by rfl) (hs:a8 [a,b] X.env=(a5,az a X.env)::a8 [b] X.env:=by rfl) (hs2:a8 [b] X.env=(a5,az b X.env)::a8 [] X.env:=by rfl)
  (hpl:(aO pos (a8 [b] X.env)).any (·.1)=a5:=by rfl):DE X ρ (.Call (.Name "min" p) [a,b] [] pos) (.int (if j<i then j else i)):=λσ H Q R q =>
 (zb (j5y hc) hg hm boot_min (j9 peS (j9 peS jl hs2) hs) (by decide) (by decide) hs hpl).to (ha σ H _ R λv H1 g1 e1=>hb σ H1 _ (R.grow g1) λu H2 g2 e2=>⟨i,j,by rw[show v=.int i from e1,show u=.int j from e2],q _ H2 (g1.trans g2) rfl⟩)
theorem Mw{K:k7x}{H:Hp}:∀{bs:List Bool}{xs:List V},j5 K H (bs.map D.bl) xs->xs=bs.map V.bl
 |[],_,h=>h
 |b::bs,_,⟨x,r,e,h,l⟩=>by subst e;cases(show x=.bl b from h);rw[Mw l];rfl
theorem DE.all {bs:List Bool} (ha:DT X ρ a (.lst (bs.map D.bl))) (hm:X.mg "all" = a7) (hc:X.calm=a6:=by rfl) (hg:Gl X "all":=by rfl) (hs:a8 [a] X.env=[(a5,az a X.env)]:=by rfl):DE X ρ (.Call (.Name "all" p) [a] [] pos) (.bl (bs.all id)):=λσ H Q R q =>(zb (j0s hc) hg hm boot_all (j9 peS jl hs) (by decide) (by decide) hs).to (ha σ H _ R λv H1 g1 ⟨l,xs,e,sq,en⟩=>⟨l,bs,by rw[e],by rw[Mw en]at sq;exact sq,q _ H1 g1 rfl⟩)
def je6(X:Cx)(e:Option ai):TO:=λσ H Q=>∀pins s,Inv X pins σ H s->ax (ay X.prog X.w) X.A (evalPart e X.env) (λu s'=>∃o H',Inv X pins σ H' s'/\eR u o/\Q o H') X.xe s
theorem poS{e:Option ai}:PO X e (je6 X e):=λpins s σ H Q I h=>h pins s I
def DP(X:Cx)(ρ:Rho)(e:Option ai)(o:Option Int):Prop:=∀σ H Q,Rep X.K ρ σ H->(∀H',j4 H H'->Q o H')->je6 X e σ H Q
theorem DP.none:DP X ρ a7 a7:=λσ H Q R q pins s I=>jbp pins s σ H Q I (q H (j4.refl H))
theorem DP.some(h:DT X ρ e (.int i)):DP X ρ (a4 e) (a4 i):=λσ H Q R q pins s I=>jbo peS pins s σ H Q I (h σ H _ R λv H1 g1 e1=>⟨i,e1,q H1 g1⟩)
variable{lo hi:Option ai}{l u:Option Int}
theorem DS.setItem(m:Nat){t:ae}{n:Nat}(hk:ρ[m]?=a4 (.own t ds))(he:DE X ρ e d)(hi:DT X ρ a (.int i))(hx:ixN ds.length i=a4 n)(h:P.nx (ρ.set m (.own t (ds.set n d))))
  (hN:X.N[m]?=a4 x:=by rfl) (hv:Vis X.env.scope x:=by first|exact aN rfl|exact bu (aN rfl)|exact bu (bu rfl)) (hd:(x==k81)=a5:=by decide) (hcd:(x==k82)=a5:=by decide)
  (ha:∀v,cI (.Subscript (.Name x p) a p1) X.env v=(do
   let ov <-c8 [v] (az (.Name x p) X.env)
   let iv <-c8 [v,ov] (az a X.env)
   fK p1
   c8 [v,ov,iv] (setItem ov iv v)
   release [v,ov,iv] []):=by intro _;rfl)
  (hs:dC [.Subscript (.Name x p) a p1] e pos.line X.env=pure a5:=by rfl) (hw:dD [.Subscript (.Name x p) a p1] e X.env=pure a7:=by rfl)
  (h1:(bp [.Subscript (.Name x p) a p1] X.env).map (·.2)=[cI (.Subscript (.Name x p) a p1) X.env]:=by rfl):DS X ρ (.Assign [.Subscript (.Name x p) a p1] e pos) P:=λσ H E R q=>by
 refine(j4c peS (jev (v7 hN hv hd hcd) peS set_list ha) hs hw h1).to (he σ H _ R λv H1 g1 e1=>?_);obtain⟨hσ,xs,mm,en⟩:=(R.grow g1).own m t ds hk;refine⟨_,hσ,hi σ H1 _ (R.grow g1) λu H2 g2 e2=>⟨t,xs,i,n,rfl,e2,g2 _ _ mm,by rw[en.length];exact hx,?_⟩⟩;exact q.nx _ σ _ h ((R.grow (g1.trans g2)).upd_own hk ((en.mono (jf g2)).set (e1.mono (jf g2)))) (Yz (σ:=σ) hk (g1.trans g2))
end
def jdw(K:k7x)(S:List D->List D->D->List D->Prop):Sp:=λvs H Q _=>∃(a:ae)(ds l:List D)(d:D)(l':List D)(ws xs:List V),vs=ws++[.ref a]/\TabOk K H/\H a=a4 (.lst xs)/\j5 K (del H [a]) l xs/\j5 K (del H [a]) ds ws/\S ds l d l' /\
 ∀v H' ys,j4 (del H [a]) (del H' [a])->H' a=a4 (.lst ys)->j5 K (del H' [a]) l' ys->Enc K (del H' [a]) d v->Q v H'
noncomputable def j4e(eE n:Int):Int:=if 0<n then n%60 else(eE*48271+11)%2147483647/16
noncomputable def Mi(eE n:Int):Int:=if 0<n then n%60/6%2 else(eE*48271+11)%2147483647/128%2
noncomputable def Rb(n:Int):Int:=if 0<n then n/60 else n
noncomputable def Ud:Nat->List af->Int->Int->D×Int
 |0,_,eE,n=>(.tup [.str "tell",.int (Mi eE n)],Rb n)
 |k+1,ws,eE,n=>match ws[(j4e eE n%ws.length).toNat]? with
  |none=>(.tup [.str "tell",.int (Mi eE n)],Rb n)
  |some y=>if j4e eE n%6=0 then(.tup [.str "tell",.int (Mi eE n)],Rb n)
   else(.tup [.str "ask",.str y,(Ud k (ws.filter λz=>!(z==y)) ((eE*48271+11)%2147483647*3+1) (Rb n)).1,
     (Ud k (ws.filter λz=>!(z==y)) ((eE*48271+11)%2147483647*5+2) (Ud k (ws.filter λz=>!(z==y)) ((eE*48271+11)%2147483647*3+1) (Rb n)).2).1],
    (Ud k (ws.filter λz=>!(z==y)) ((eE*48271+11)%2147483647*5+2) (Ud k (ws.filter λz=>!(z==y)) ((eE*48271+11)%2147483647*3+1) (Rb n)).2).2)
def j9s(ds l:List D)(d:D)(l':List D):Prop:=∃(ws:List af)(eE n:Int)(k:Nat),ds=[.lst (ws.map D.str),.int eE,.int k]/\l=[.int n]/\k<=5/\ws.length<=60/\d=(Ud k ws eE n).1/\l'=[.int (Ud k ws eE n).2]
def Fz(o:Option HO):Prop:=(∃xs,o=a4 (.lst xs))\/∃oc v,o=a4 (.frz oc (.own 0))/\oc.data=.cell v
theorem j5e{P:ar}{w:aA}{K:k7x}{mg:k80}{base:aE}{A0:aD}{outer:List cu}{s:ah}{H:Hp}{A:List ae}(e0:Env0 P w K mg base A0 outer s H)(hA:∀a∈A,Fz (H a)) :
  Env0 P w K mg base A0 outer s (del H A)/\∀(Q:VK)(E E':XK)(r:eO)(s':ah),CR CX0 outer P w (del H A) s (λv F=>(∀a∈A,F a=a7)->Q v (mrg A H F)) E r s'->CR CX0 outer P w H s Q E' r s':=by
 have nd:∀{b:ae},H b=a7->del H A b=a7:=λ{b} q=>by
  by_cases z:b∈A
  .exact z9 z
  .rw[j7 z];exact q
 have out:∀{b:ae}{o:HO},H b=a4 o->(∀ys,o≠.lst ys)->(∀oc v,o=.frz oc (.own 0)->oc.data≠.cell v)->b∉A:=λ{b o} q z z2 y=>by
  rcases hA b y with ⟨ys,e'⟩|⟨oc,v,e',d⟩
  .rw[q]at e';cases e';exact z ys rfl
  .rw[q]at e';cases e';exact z2 _ _ rfl d
 have e1:Env0 P w K mg base A0 outer s (del H A):=⟨e0.frames,e0.mod,λb o q=>⟨(e0.bs b o q).1,nd (e0.bs b o q).2⟩,e0.bsz,e0.funs,λb hb=>nd (e0.frf b hb),
  λa o q=>by
   obtain⟨_,q⟩:=of_del q
   exact jk.stay (e0.hok a o q) (λb u _ z=>z) (λb z=>by rw[j7 (out z (λ_ y=>by cases y) λ_ _ y=>by cases y)];exact z) (λb xs z=>by rw[j7 (out z (λ_ y=>by cases y) λ_ _ y=>by cases y)];exact z)
    (λb o ⟨vs,d⟩ z=>by rw[j7 (out z (λ_ y=>by cases y) λ_ _ y d'=>by cases y;rw[d]at d';cases d')];exact z),e0.bare⟩
 refine⟨e1,λQ E E' r s' hq=>?_⟩;cases r with
 |error e=>exact(show False from hq).elim
 |ok fl =>
  cases fl with
  |next=>exact(show False from hq).elim
  |brk=>exact(show False from hq).elim
  |cont=>exact(show False from hq).elim
  |ret u =>
   obtain⟨v,H',os,bare,un,hok',rel,q⟩:=(show CE outer P w (del H A) s _ u s' from hq)
   have kept:∀a∈A,∃o,s.heap.get? a=a4 o/\s'.heap.get? a=a4 o/\H' a=a7:=λa ha=>by
    have nf:a∉frs outer:=λy=>by have z:=e0.frf a y;rcases hA a ha with ⟨xs,e⟩|⟨oc,v,e,_⟩<;>(rw[z]at e;cases e)
    have ob:∃o,s.heap.get? a=a4 o:=by
     rcases hA a ha with ⟨xs,e⟩|⟨oc,v,e,_⟩
     .obtain⟨_,its,n,_,z⟩:=(show jk P w H s.heap a (.lst xs)from e0.hok _ _ e);exact⟨_,z⟩
     .exact⟨_,(show jk P w H s.heap a (.frz oc (.own 0))from e0.hok _ _ e).1⟩
    obtain⟨o,z⟩:=ob;exact⟨_,z,un.keep a _ z (z9 ha) nf (by simp),un.free a _ z (z9 ha) (by simp)⟩
   have hF:∀a∈A,H' a=a7:=λa ha=>let ⟨_,_,_,z⟩:=kept a ha;z;have outF:∀{b:ae}{o:HO},H' b=a4 o->b∉A:=λ{b o} e z=>by rw[hF b z]at e;cases e
   refine⟨v,mrg A H H',os,bare,?_,λa o e=>?_,rel,q hF⟩
   .exact{
     keep:=λb o e n=>un.keep b o e (nd n)
     slot:=λb o e n=>un.slot b o e (nd n)
     free:=λb o e n hx=>by
      by_cases z:b∈A
      .rw[J3 z];exact n
      .rw[jg z];exact un.free b o e (nd n) hx
     there:=un.there
     tups:=λb xs e=>by
      have z:=un.tups b xs (by rw[j7 (out e (λ_ y=>by cases y) λ_ _ y=>by cases y)];exact e)
      rw[jg (outF z)];exact z
     frzs:=λb o u e=>by
      by_cases y:b∈A
      .rw[J3 y];exact e
      .have z:=un.frzs b o u (by rw[j7 y];exact e)
       rw[jg y];exact z
     tbls:=λb ps e=>by
      obtain⟨more,z⟩:=un.tbls b ps (by rw[j7 (out e (λ_ y=>by cases y) λ_ _ y=>by cases y)];exact e)
      exact⟨more,by rw[jg (outF z)];exact z⟩ }
   .by_cases z:a∈A
    .rw[J3 z]at e;obtain⟨o',q1,q2,_⟩:=kept a z;rcases hA a z with ⟨xs,e'⟩|⟨oc,v,e',_⟩
     .rw[e']at e;cases e;obtain⟨hl,its,n,r,y⟩:=(show jk P w H s.heap a (.lst xs)from e0.hok _ _ e')
      rw[y]at q1;cases q1;exact⟨hl,its,n,r,q2⟩
     .rw[e']at e;cases e;have y:=(show jk P w H s.heap a (.frz oc (.own 0))from e0.hok _ _ e').1;rw[y]at q1;cases q1;exact⟨q2,_,q2⟩
    .rw[jg z]at e;refine jk.stay (hok' a o e) (λb u _ q=>q) (λb q=>?_) (λb xs q=>?_) (λb _ _ q=>?_)
     .rw[jg (outF q)];exact q
     .rw[jg (outF q)];exact q
     .rw[jg (outF q)];exact q
structure LamScope(N ps:List af)(sc:b8):Prop where
 kind:sc.kind=.function
 co:sc.isCoroutine=a5
 gen:sc.isGenerator=a5
 nd:N.Nodup
 nm:N=Zx sc++ps
 lfr:∀x∈Zx sc,sc.names.lookup x=a4 .free
 lps:∀x∈ps,sc.names.lookup x=a4 .local
 nocell:∀y∈sc.names,y.2≠.cell
 cov:∀x,sc.names.lookup x=a4 .free->x∈Zx sc
noncomputable def Yj(P:ar)(w:aA)(K:k7x)(mg:k80)(base:aE)(N:List af)(qual:af)(scope:b8)(a:ae)(cd:aa)(cl:List (af×ae))(A:aD)(outer:List cu)(s:ah)(H:Hp):Cx where
 prog:=P
 w:=w
 K:=K
 mg:=mg
 base:=base
 A:=A.deeper (W.envX qual scope s.heap.objs.size a cd cl)
 N:=N
 s₀:=s
 H₀:=H
 env:=W.envX qual scope s.heap.objs.size a cd cl
 outer:=outer
 stack:=W.envX qual scope s.heap.objs.size a cd cl::outer
 ex:=[]
 calm:=a6
 fn:=λ_=>a5
 pn:=[]
 xe:=λ_ _=>False
def Jl(h:aE):List ae->List V->Prop
 |[],vs=>vs=[]
 |c::cs,vs=>∃v r u,vs=v::r/\h.IsCell c (a4 u)/\RelV v u/\Jl h cs r
theorem Jl.get{h:aE}:∀{cs:List ae}{vs:List V}{i:Nat}{v:V},Jl h cs vs->vs[i]?=a4 v->∃c u,cs[i]?=a4 c/\h.IsCell c (a4 u)/\RelV v u
 |[],_,i,v,e,q=>by cases e;simp at q
 |c::cs,_,0,v,⟨x,r,u,e,h1,h2,_⟩,q=>by subst e;simp at q;subst q;exact⟨c,u,rfl,h1,h2⟩
 |c::cs,_,i+1,v,⟨x,r,u,e,_,_,l⟩,q=>by subst e;obtain⟨c',u',z1,z2⟩:=Jl.get l (i:=i) (by simpa using q);exact⟨c',u',by simpa using z1,z2⟩
theorem Jl.length{h:aE}:∀{cs:List ae}{vs:List V},Jl h cs vs->vs.length=cs.length
 |[],_,e=>by cases e;rfl
 |c::cs,_,⟨x,r,u,e,_,_,l⟩=>by subst e;simp[l.length]
theorem Jl.all{h:aE}:∀{cs:List ae}{vs:List V},Jl h cs vs->∀c∈cs,∃v,h.IsCell c v
 |c::cs,_,⟨x,r,u,e,h1,_,l⟩,b,hb=>(xn.mp hb).elim (λz=>z▸⟨_,h1⟩) (l.all b)
theorem lookup_at{α:Type}:∀{l:List (af×α)} {i:Nat} {p:af×α},(l.map (·.1)).Nodup->l[i]?=a4 p->l.lookup p.1=a4 p.2
 |[],i,p,_,h=>by simp at h
 |q::l,0,p,_,h=>by simp at h;subst h;rw[Xn,beq_self_eq_true]
 |q::l,i+1,p,nd,h=>by rw[X3]at nd;rw[tu]at h;have ne:(p.1==q.1)=a5:=beq_eq_false_iff_ne.mpr λz=>(Xq.mp nd).1 (z▸i8 (Xl h));rw[Xn,ne];exact lookup_at (Xq.mp nd).2 h
theorem j2v{ps:List af}{us:List aa}{i:Nat}{p:af}{u:aa}(nd:ps.Nodup)(hl:us.length=ps.length)(h1:ps[i]?=a4 p)(h2:us[i]?=a4 u):(ps.zip us).reverse.lookup p=a4 u:=by
 have hm:(p,u)∈(ps.zip us).reverse:=List.mem_reverse.mpr (Xl (i:=i) (by rw[List.getElem?_zip_eq_some];exact⟨h1,h2⟩));have e:((ps.zip us).reverse.map (·.1))=ps.reverse:=by rw[List.map_reverse,List.map_fst_zip nofun]
 obtain⟨j,hj⟩:=List.mem_iff_getElem?.mp hm;exact lookup_at (by rw[e];exact(List.reverse_perm ps).nodup_iff.mpr nd) hj
section
variable{P:ar}{w:aA}{K:k7x}{mg:k80}{base:aE}{A:aD}{outer:List cu}{s:ah}{H:Hp}{x:af}{a c:ae}{tx:Tx}{cl:List (af×ae)}{pm ctv:aa}{cvs vs:List V}{us:List aa}{N ps:List af}{k:Nat}{Q:VK}{E:XK}
theorem jcj{h1:aE}{tk:Nat}(hh:A.handled=a7)(e0:Env0 P w K mg base A outer s H)(S:LamScope N ps tx.2.2)(hn:cl.map (·.1)=Zx tx.2.2)(nd:(cl.map (·.2)).Nodup)(hc:Jl s.heap (cl.map (·.2)) cvs)(hf:∀q∈cl.map (·.2),H q=a7)(rv:Vals vs us)(hl:vs.length=ps.length)
  (ns:h1.Ns s.heap.objs.size λy=>(ps.zip us).reverse.lookup y) (kp:∀b o,s.heap.get? b=a4 o->h1.get? b=a4 o) :
  Inv (Yj P w K mg base N (zc x) tx.2.2 a (.ref c) cl A outer s H) [] (start N (cvs++vs)) H { s with heap:=h1,toks:=tk }:=by
 have ndN:(Zx tx.2.2).Nodup:=by have:=S.nd;rw[S.nm]at this;exact(List.nodup_append.mp this).1
 have ndP:ps.Nodup:=by have:=S.nd;rw[S.nm]at this;exact(List.nodup_append.mp this).2.1
 have ndC:(cl.map (·.1)).Nodup:=by rw[hn];exact ndN
 have lenC:cvs.length=(Zx tx.2.2).length:=by rw[hc.length,<-hn,xj,xj]
 have lenN:N.length=(cvs++vs).length:=by rw[S.nm,Xe,Xe,lenC,hl]
 have noA:∀b:ae,b∉(Yj P w K mg base N (zc x) tx.2.2 a (.ref c) cl A outer s H).ex:=λb z=>absurd (show b∈([]:List ae)from z) (by simp);have mem2:∀{y:af}{q:ae},cl.lookup y=a4 q->q∈cl.map (·.2):=λ{y q} h=>Xh.mpr ⟨(y,q),Pg h,rfl⟩;have inj:∀(l:List (af×ae)),(l.map (·.2)).Nodup->∀y z q,(y,q)∈l->(z,q)∈l->y=z:=λl=>by
  induction l with
  |nil=>intro _ y z q h;cases h
  |cons p r ih =>
   intro nd y z q h1 h2;rw[X3]at nd;obtain⟨n1,n2⟩:=Xq.mp nd;rcases xn.mp h1 with e1|h1<;>rcases xn.mp h2 with e2|h2
   .rw[<-e1]at e2;cases e2;rfl
   .exact absurd (Xh.mpr ⟨(z,q),h2,by rw[<-e1]⟩) n1
   .exact absurd (Xh.mpr ⟨(y,q),h1,by rw[<-e2]⟩) n1
   .exact ih n2 y z q h1 h2
 refine⟨⟨e0.mod,S.kind,rfl,rfl,X7 _,λy z q h1 h2=>inj cl nd y z q (Pg h1) (Pg h2),λy hy=>?_,λy q h=>(by cases h),λ_=>hh,Around.frames_deeper e0.frames,.inr ⟨rfl,rfl⟩,λb z=>absurd z (noA b),e0.bs,e0.bsz,λb _ _=>noA b,λb z=>absurd z (noA b),e0.funs,e0.frf⟩,
  rfl,e0.bare,Un.kept kp,⟨_,ns,λi y v h1 h2 h3=>?_⟩,λy q h=>?_,e0.hok.fresh (X7 _),λy q h=>hf q (mem2 h),λp hp=>absurd (show p∈([]:k7z)from hp) (by simp),e0.hok.kept kp,?_⟩
 .have hy:tx.2.2.names.lookup y=a4 .cell\/tx.2.2.names.lookup y=a4 .free:=hy;rcases hy with hy|hy
  .exact absurd rfl (S.nocell _ (Pg hy))
  .have m:=S.cov y hy;rw[<-hn]at m;obtain⟨p,hp,e⟩:=Xh.mp m;obtain⟨i,hi⟩:=List.mem_iff_getElem?.mp hp;exact⟨p.2,by have:=lookup_at ndC hi;rw[e]at this;exact this⟩
 .have h1:N[i]?=a4 y:=h1;have hi:i<(cvs++vs).length:=by rw[<-lenN];exact(Xb.mp h1).1
  have ha:(cvs++vs)[i]?=a4 v:=by
   unfold start at h2;rw[Pz (by simpa using hi),xx]at h2;cases e:(cvs++vs)[i]? with
   |none=>rw[e]at h2;cases h2
   |some a=>rw[e]at h2;cases h2;rfl
  rw[S.nm]at h1;by_cases z:i<cvs.length
  .rw[Pz z]at ha;rw[Pz nofun]at h1;obtain⟨q,u,e1,e2,r⟩:=hc.get ha;refine⟨u,r,.inr ⟨.inr (S.lfr y (Xl h1)),q,?_,e2.keeps kp⟩⟩;rw[<-hn,xx]at h1;rw[xx]at e1;obtain⟨p,hp,ep⟩:=T4.mp h1;rw[hp]at e1;have:=lookup_at ndC hp;rw[ep]at this;show cl.lookup y=a4 q;rw[this];exact e1
  .rw[cS nofun]at ha h1;rw[<-lenC]at h1;obtain⟨u,hu,r⟩:=rv.get ha;exact⟨u,r,.inl ⟨S.lps y (Xl h1),j2v ndP (by rw[<-rv.length,hl]) h1 hu⟩⟩
 .obtain⟨v,z⟩:=hc.all q (mem2 h);exact⟨v,z.keeps kp⟩
 .unfold start;show _=N.length;rw[Xe,xj,dM];omega
theorem j7p (hr:Room (k+1) A) (e0:Env0 P w K mg base A outer s H) (ho:s.heap.get? a=a4 (W.kla_obj "<lambda>" (zc x) tx.1 tx.2.1 tx.2.2 cl pm c ctv)) (hcd:s.heap.CodeRec (.ref c) (zc x))
  (S:LamScope N ps tx.2.2) (hn:cl.map (·.1)=Zx tx.2.2) (nd:(cl.map (·.2)).Nodup) (hc:Jl s.heap (cl.map (·.2)) cvs) (hf:∀q∈cl.map (·.2),H q=a7)
  (hb:bZ (W.kla_fn "<lambda>" (zc x) tx.1 tx.2.1 tx.2.2 cl pm (.ref c) ctv) ⟨us,[]⟩=pure (ps.zip us)) (rv:Vals vs us) (hl:vs.length=ps.length)
  (body:Room k (Yj P w K mg base N (zc x) tx.2.2 a (.ref c) cl A outer s H).A->Q0 (Yj P w K mg base N (zc x) tx.2.2 a (.ref c) cl A outer s H) tx.2.1 (start N (cvs++vs)) H Q) :
  c9 (ay P w) A (.call (.ref a) ⟨us,[]⟩) (CR CX0 outer P w H s Q E) s:=by
 have lim:s.heap.NoLimit:=e0.mod.nolimit.keeps λb o e=>(e0.bs b o e).1;refine W.kla_callFunE (by have:=hr.dp;omega) ho rfl S.co S.gen rfl hcd ?_;rw[hb];refine aC (wpAny_newFunctionEnv S.nocell (λy hy=>S.lps y.1 (cC (a:=y.1) (b:=y.2) hy).1) (λh1 ns sb=>⟨lim.fresh _ sb,?_⟩) S.kind);show c9 _ _ (.expr tx.2.1 (W.envX (zc x) tx.2.2 s.heap.objs.size a (.ref c) cl)) _ _;have kp:∀b o,s.heap.get? b=a4 o->h1.get? b=a4 o:=λb o e=>sb.extBut b o (Xj (xr e)) (X8 _ e);have I:=jcj (x:=x) (a:=a) (c:=c) (tk:=s.toks+(ps.zip us).length) hr.hd e0 S hn nd hc hf rv hl ns kp;refine W.kla_codeExpr (aZ (body (hr.deeper _) [] _ I) (λu s' ⟨v,H',J,r,q⟩=>?_) λ_ _ z=>z.elim);exact⟨v,H',J.os,J.bare,J.base,J.hok,r,q⟩
end
mutual
noncomputable def noFn:D->Bool
 |.fn _ _=>a5
 |.tup ds=>Yd ds
 |.lst ds=>Yd ds
 |.dct _ ds=>Yd ds
 |_=>a6
noncomputable def Yd:List D->Bool
 |[]=>a6
 |d::ds=>noFn d&&Yd ds
end
section
variable{K:k7x}{H:Hp}{A:List ae}
def Cel(H:Hp)(A:List ae):Prop:=∀a∈A,∃oc v,H a=a4 (.frz oc (.own 0))/\oc.data=.cell v
theorem Cel.out(hA:Cel H A){b:ae}{o:HO}(q:H b=a4 o)(h:∀oc,o≠.frz oc (.own 0)):del H A b=a4 o:=by rw[j7];exact q;intro y;obtain⟨oc,v,e,_⟩:=hA b y;rw[q]at e;exact h oc (aw e)
theorem Cel.seqT(hA:Cel H A){a:ae}{xs:List V}(h:SqT K H a xs):SqT K (del H A) a xs:=by
 rcases h with (h|⟨o,h⟩)|h
 .exact .inl (.inl (hA.out h λ_ z=>by cases z))
 .exact .inl (.inr ⟨o,hA.out h λ_ z=>by cases z⟩)
 .exact .inr h
theorem Cel.seq(hA:Cel H A){a:ae}{xs:List V}(h:SqL K H a xs):SqL K (del H A) a xs:=by
 rcases h with (h|⟨o,h⟩)|h
 .exact .inl (.inl (hA.out h λ_ z=>by cases z))
 .exact .inl (.inr ⟨o,hA.out h λ_ z=>by cases z⟩)
 .exact .inr h
mutual
theorem Enc.noc(hA:Cel H A):∀{d:D}{v:V},noFn d=a6->Enc K H d v->Enc K (del H A) d v
 |.non,_,_,h=>h
 |.bl _,_,_,h=>h
 |.int _,_,_,h=>h
 |.str _,_,_,h=>h
 |.tup _,_,n,⟨a,xs,e,q,l⟩=>⟨a,xs,e,hA.seqT q,j5.noc hA (by simpa [noFn]using n) l⟩
 |.lst _,_,n,⟨a,xs,e,q,l⟩=>⟨a,xs,e,hA.seq q,j5.noc hA (by simpa [noFn]using n) l⟩
 |.dct _ _,_,n,⟨a,xs,ep,vs,e,q,ek,kt,rv,l⟩=>⟨a,xs,ep,vs,e,hA.out q (λ_ z=>by cases z),ek,λx hx=>hA.seqT (kt x hx),rv,j5.noc hA (by simpa [noFn]using n) l⟩
 |.sct _,_,_,⟨a,e,q⟩=>⟨a,e,hA.out q λ_ z=>by cases z⟩
 |.fn _ _,_,n,_=>by cases n
theorem j5.noc(hA:Cel H A):∀{ds:List D}{xs:List V},Yd ds=a6->j5 K H ds xs->j5 K (del H A) ds xs
 |[],_,_,h=>h
 |d::ds,_,n,⟨x,r,e,h,l⟩=>by rw[Yd,Xd]at n;exact⟨x,r,e,Enc.noc hA n.1 h,j5.noc hA n.2 l⟩
end
theorem J0.cel:∀{cs:List ae}{vs:List V},J0 H cs vs->Cel H cs
 |[],_,_=>λ_ h=>nomatch h
 |c::cs,_,⟨v,r,o,u,e,h,d,rv,l⟩=>λa ha=>(xn.mp ha).elim (λz=>⟨o,_,z▸h,d⟩) (l.cel a)
theorem J0.inn{P:ar}{w:aA}{h:aE}(ok:HOk P w H h):∀{cs:List ae}{vs:List V},J0 H cs vs->Jl h cs vs
 |[],_,e=>e
 |c::cs,_,⟨v,r,o,u,e,q,d,rv,l⟩=>⟨v,r,u,e,⟨o,(show jk P w H h c (.frz o (.own 0))from ok _ _ q).1,d⟩,rv,l.inn ok⟩
theorem J0.of_del{B:List ae}:∀{cs:List ae}{vs:List V},J0 (del H B) cs vs->J0 H cs vs:=λh=>h.mono q8
theorem TabOk.fz(h:TabOk K H)(hA:∀a∈A,Fz (H a)):TabOk K (L2.del H A):=λx hx c P z=>by have q:=h x hx c P z;rw[j7];exact q;intro y;rcases hA _ y with ⟨xs,e⟩|⟨oc,v,e,_⟩<;>(rw[q]at e;cases e)
end
def j3j(P:ar)(w:aA)(K:k7x)(mg:k80)(base:aE)(k:Nat)(x:af)(S:List D->D->Prop):Prop :=
 ∀(A:aD)(outer:List cu)(s:ah)(H:Hp)(a:ae)(B:List ae)(cs ds:List D) (d:D) (vs:List V) (us:List aa) (Q:VK) (E:XK),Room k A->Env0 P w K mg base A outer s H->TabOk K H->(∀b∈B,∃xs,H b=a4 (.lst xs)) ->
  Enc K (del H B) (.fn x cs) (.ref a)->j5 K (del H B) ds vs->Yd ds=a6->S (cs++ds) d->Vals vs us->(∀v H',j4 H H'->Enc K (del H' B) d v->Q v H')->c9 (ay P w) A (.call (.ref a) ⟨us,[]⟩) (CR CX0 outer P w H s Q E) s
section
variable{P:ar}{w:aA}{K:k7x}{mg:k80}{base:aE}{k:Nat}{x:af}{S:List D->D->Prop}{tx:Tx}{N ps:List af}
theorem jft(ht:j2y K x=a4 tx)(Sc:LamScope N ps tx.2.2)(hl:∀ds d,S ds d->ds.length=N.length)
  (hb:∀(cl:List (af×ae)) (pm:aa) (c:ae) (ctv:aa) (us:List aa),us.length=ps.length->bZ (W.kla_fn "<lambda>" (zc x) tx.1 tx.2.1 tx.2.2 cl pm (.ref c) ctv) ⟨us,[]⟩=pure (ps.zip us))
  (hbody:∀(a c:ae)(cl:List (af×ae)) (A:aD) (outer:List cu) (s:ah) (H:Hp),cl.map (·.1)=Zx tx.2.2->Room k (Yj P w K mg base N (zc x) tx.2.2 a (.ref c) cl A outer s H).A->∀ds d,S ds d->DT (Yj P w K mg base N (zc x) tx.2.2 a (.ref c) cl A outer s H) (jm N ds) tx.2.1 d):j3j P w K mg base (k+1) x S:=by
 intro A outer s H a B cs ds d vs us Q E hr e0 tb hB en ea nf hS rv q;obtain⟨a',c,tx',cl,cvs,e,L,l⟩:=en;cases e;have et:tx'=tx:=aw (L.tx.symm.trans ht);subst et;have cs_at:J0 H (cl.map (·.2)) cvs:=L.cs.of_del;have hA:∀b∈B++cl.map (·.2),Fz (H b):=λb hb=>(ph.mp hb).elim (λz=>.inl (hB b z)) λz=>.inr (cs_at.cel b z);obtain⟨e1,back⟩:=j5e e0 hA;obtain⟨pm,ctv,hfo⟩:=L.fo;obtain⟨oc,hco,vs0,t0,hd0,hv0⟩:=L.co;have ho:=(show jk P w H s.heap a (.frz _ (.own 0))from e0.hok _ _ (of_del hfo).2).1;have hcd:s.heap.CodeRec (.ref c) (zc x):=⟨c,oc,vs0,t0,rfl,(show jk P w H s.heap c (.frz oc (.own 0))from e0.hok _ _ (of_del hco).2).1,hd0,hv0⟩
 have ll:=l.length;have la:=ea.length;have hlen:=hl _ _ hS;have lenC:(cl.map (·.2)).length=(Zx tx'.2.2).length:=by rw[<-L.nm,xj,xj]
 have lcv:=(cs_at.inn e0.hok).length;have hlv:vs.length=ps.length:=by rw[Sc.nm,Xe,Xe]at hlen;omega
 have celB:Cel (del H B) (cl.map (·.2)):=L.cs.cel;have ea1:j5 K (del H (B++cl.map (·.2))) ds vs:=by rw[<-Zm];exact ea.noc celB nf
 have l1:j5 K (del H (B++cl.map (·.2))) cs cvs:=by rw[<-Zm];exact l
 refine bU (j7p (E:=E) (Q:=λv F=>(∀a∈B++cl.map (·.2),F a=a7)->Q v (mrg (B++cl.map (·.2)) H F)) hr e1 ho hcd Sc L.nm L.nd (cs_at.inn e0.hok) (λb hb=>z9 (Xo _ hb)) (hb cl pm c ctv us (by rw[<-rv.length];exact hlv)) rv hlv λhrm=>?_) λr s' h=>back Q E E r s' h;refine hbody a c cl A outer s _ L.nm hrm (cs++ds) d hS _ _ _ (Ql (tb.fz hA) (l1.append ea1)) λv F g en' hF=>q v _ (Mg g) (en'.mono λb o z=>?_);have nb:b∉B++cl.map (·.2):=λy=>by rw[hF b y]at z;cases z
 rw[j7 (λy=>nb (Tc _ y)),jg nb];exact z
end
section
variable{X:Cx}{ρ:Rho}{e a b c:ai}{es:List ai}{st:aJ}{rest sa sb body:List aJ}{P:Po}{d:D}{ds ds':List D}{pos p p1 p2 p3:aK}{x:af}{i:Nat}
theorem DSs.last(h:DS X ρ st P):DSs X ρ [st] P:=.cons h λρ' n=>DSs.nil n
theorem Cal.comp{sp:Sp}{scope:b8}{C:ae}{s:ah}{H:Hp}{fp:List ae}{pn:k7z}(h:Cal X x sp):Cal (cCx X scope C s H fp pn) x sp:=⟨h.ex⟩
end
theorem jn(lo:Int)(n:Nat):(upto lo n).length=n:=by unfold upto;rw[xj,Xw]
theorem Iu{lo:Int}{n:Nat}{d:D}(h:d∈upto lo n):∃j:Nat,j<n/\d=.int (lo+j):=by unfold upto at h;obtain⟨j,hj,e⟩:=Xh.mp h;exact⟨j,Xa.mp hj,e.symm⟩
theorem Z8{lo:Int}{n j:Nat}{d:D}(h:(upto lo n)[j]?=a4 d):j<n/\d=.int (lo+j):=by
 unfold upto at h;rw[xx]at h;cases z:(au n)[j]? with
 |none=>rw[z]at h;cases h
 |some k =>rw[z]at h;have hl:=(Xb.mp z).1;rw[Xw]at hl;have:=Xu (n:=n) (i:=j) hl;rw[this]at z;cases z;cases h;exact⟨hl,rfl⟩
mutual
def J7:D->Prop
 |.tup l=>l.length<=1000/\Qa l
 |.lst l=>l.length<=1000/\Qa l
 |.dct _ _=>False
 |.sct _=>False
 |.fn _ _=>False
 |_=>True
def Qa:List D->Prop
 |[]=>True
 |d::ds=>J7 d/\Qa ds
end
theorem Ug:∀{ds:List D}{d:D},Qa ds->d∈ds->J7 d
 |x::xs,d,h,m=>by
  simp only[Qa]at h;rcases xn.mp m with e|m
  .subst e;exact h.1
  .exact Ug h.2 m
theorem Yg:∀{ds:List D},(∀d∈ds,J7 d)->Qa ds
 |[],_=>by simp only[Qa]
 |x::xs,h=>by simp only[Qa];exact⟨h x (xq ..),Yg λd m=>h d (xg _ m)⟩
theorem D.depL_mem:∀{ds:List D}{d:D},d∈ds->d.dep<=D.depL ds
 |x::xs,d,m=>by
  simp only[D.depL];rcases xn.mp m with e|m
  .subst e;omega
  .have:=D.depL_mem m;omega
theorem D.depL_of{n:Nat}:∀{ds:List D},(∀d∈ds,d.dep<=n)->D.depL ds<=n
 |[],_=>by simp only[D.depL];omega
 |x::xs,h=>by simp only[D.depL];have h1:=h x (xq ..);have h2:=D.depL_of (ds:=xs) λd m=>h d (xg _ m);omega
end L2
namespace L2
noncomputable def jz(b:Int):Nat->Int->List Int
 |0,_=>[]
 |i+1,n=>(n/b^i%b)::jz b i n
theorem vp(b:Int):∀(m:Nat)(n:Int),(jz b m n).length=m
 |0,_=>rfl
 |m+1,n=>by rw[jz,X4,vp b m n]
theorem Qh(b:Int):∀{m k:Nat}{n:Int},k<m->(jz b m n)[k]?=a4 (n/b^(m-k-1)%b)
 |m+1,0,n,_=>by rw[jz];rfl
 |m+1,k+1,n,h=>by
  rw[jz,tu,Qh b nofun];have:m-k-1=m+1-(k+1)-1:=by omega
  rw[this]
theorem j8p(n b:Int)(hb:0<b)(i:Nat):n/b^i/b=n/b^(i+1):=by rw[Int.ediv_ediv_of_nonneg (Int.le_of_lt (di hb)),dH]
end L2
end
section
namespace L2
open PySem PySem.Spec PyProof.Rows
def CX1(P:ar)(w:aA):CXT:=λouter H s E ev s'=>∃(e:ae)(C:aa)(H':Hp),ev=.ref e/\s'.os=s.os/\dw s'.gens/\Un (frs outer) [] H H' s.heap s'.heap/\HOk P w H' s'.heap /\
 Fl (λb=>∃o,s.heap.get? b=a4 o) H' s'.heap e C/\E C a7 H'
theorem jk.get{P:ar}{w:aA}{H:Hp}{h:aE}{a:ae}{o:HO}(x:jk P w H h a o):∃u,h.get? a=a4 u:=by
 cases o with
 |lst xs=>obtain⟨_,_,_,_,e⟩:=x;exact⟨_,e⟩
 |tup xs=>obtain⟨_,_,_,⟨_,e,_⟩,_⟩:=x;exact⟨_,e⟩
 |dK kvs=>obtain⟨_,_,_,_,o,_,_,e,_⟩:=x;exact⟨_,e⟩
 |dT kvs=>obtain⟨_,_,_,_,o,_,_,e,_⟩:=x;exact⟨_,e⟩
 |dI xs ep=>obtain⟨_,_,_,o,_,e,_⟩:=x;exact⟨_,e⟩
 |set S n=>obtain⟨o,_,_,_,e,_⟩:=x;exact⟨_,e⟩
 |ins C dx fs=>obtain⟨_,_,_,e,_⟩:=x;exact⟨_,e⟩
 |own y=>obtain⟨_,e⟩:=x;exact⟨_,e⟩
 |xd fs=>obtain⟨_,⟨_,_,_,e,_⟩,_⟩:=x;exact⟨_,e⟩
 |rng lo hi=>obtain⟨_,_,_,e⟩:=x;exact⟨_,e⟩
 |frz ob u=>obtain⟨e,_⟩:=x;exact⟨_,e⟩
 |tbl ps=>exact⟨_,(show h.get? a=a4 _ from x)⟩
 |cod q=>obtain⟨_,e,_⟩:=x;exact⟨_,e⟩
 |met f y=>exact⟨_,(show h.get? a=a4 _ from x)⟩
 |ext φ=>obtain⟨_,⟨_,e⟩,_⟩:=x;exact⟨_,e⟩
section
variable{X:Cx}{pins:k7z}{σ:St}{H:Hp}{s:ah}
theorem Inv.old(I:Inv X pins σ H s){b:ae}(h:Old X pins b):∃o,s.heap.get? b=a4 o:=by
 rcases h with ⟨o,q,n⟩|⟨p,hp,rfl⟩|rfl|⟨x,e⟩
 .exact I.base.there b o q n
 .exact⟨_,(I.pin p hp).1⟩
 .obtain⟨m,⟨o,_,_,e,_⟩,_⟩:=I.loc;exact⟨o,e⟩
 .obtain⟨v,o,e,_⟩:=I.cell x b e;exact⟨o,e⟩
end
section
variable{P:ar}{w:aA}{K:k7x}{mg:k80}{base:aE}{N ps:List af}{qual:af}{scope:b8}{f:ae}{cd:aa}{A:aD}{outer:List cu}{s s':ah}{H H':Hp}{E:XK}{σ:St}{pins:k7z}{e:ae}{C:aa}
theorem Nr{as:List ae}{h':aE}{a0:aa}(I:Inv (jx (CX1 P w) P w K mg base N qual scope f cd A outer s H E) pins σ H' s')(F:FlQ (flF (jx (CX1 P w) P w K mg base N qual scope f cd A outer s H E).env) (Old (jx (CX1 P w) P w K mg base N qual scope f cd A outer s H E) pins) H' s'.heap e C)
  (hE:E C a7 H') (ha:∀b,b∈as↔b∈frs (ba qual scope s.heap.objs.size f cd::outer)\/(¬(∃o,s.heap.get? b=a4 o)/\H' b=a7/\b∈as)) (hfa:∀b∈frs (ba qual scope s.heap.objs.size f cd::outer),b∈as)
  (hL:Heap.LeftW (W.hideAll s'.heap as) (ba qual scope s.heap.objs.size f cd::outer) e C a0 s'.heap h'):CX1 P w outer H s E (.ref e) { s' with heap:=h' }:=by
 obtain⟨k1,k2,k3,k4⟩:=hL;have fr:∀b∈frs outer,∃o,s'.heap.get? b=a4 o/\∀vs,o.data≠.fields vs:=λb hb=>by obtain⟨o,ho,hd⟩:=(I.stack.mem (show b∈frs (ba qual scope s.heap.objs.size f cd::outer)from xg _ hb)).2;exact⟨o,ho,hd⟩
 have sfree:∀b∈frs (ba qual scope s.heap.objs.size f cd::outer),H' b=a7:=I.stkFree;have keep:∀b o,s'.heap.get? b=a4 o->b∉as->h'.get? b=a4 o:=λb o q n=>k1 b o (W.hideAll_get _ q n);have nold:∀b o,s.heap.get? b=a4 o->b∉frs outer->b∉as:=λb o q n z=>by
  rcases(ha b).mp z with z|⟨z,_⟩
  .rcases xn.mp z with z|z
   .have:=xr q;rw[show b=s.heap.objs.size from z]at this;exact absurd this (Pj _)
   .exact n z
  .exact z ⟨o,q⟩
 have ntrk:∀b u,H' b=a4 u->b∉as:=λb u q z=>by
  rcases(ha b).mp z with z|⟨_,z,_⟩
  .rw[sfree b z]at q;cases q
  .rw[z]at q;cases q
 have slot:∀b∈frs outer,∀o,s'.heap.get? b=a4 o->∃sl,h'.get? b=a4 { o with slots:=sl }:=λb hb o q=>by obtain⟨o',ho,hd⟩:=fr b hb;rw[q]at ho;cases ho;exact k4 b o q hd
 have un:=I.base;refine⟨e,C,H',rfl,I.os,I.bare,⟨λb o q n hb _=>keep b o (un.keep b o q n hb (λz=>nomatch z)) (nold b o q hb),λb o q n hb _=>?_,λb o q n _=>un.free b o q n (λz=>nomatch z),λb o q _=>?_,un.tups,un.frzs,un.tbls⟩,
  λa o q=>(I.hok a o q).stay (λb u hb r=>keep b u r ?_) (λ_ z=>z) (λ_ _ z=>z) λ_ _ _ z=>z,?_,hE⟩
 .obtain⟨sl,q'⟩:=un.slot b o q n hb (λz=>nomatch z);obtain⟨sl',q2⟩:=slot b hb _ q';exact⟨sl',q2⟩
 .obtain⟨o',q'⟩:=un.there b o q (λz=>nomatch z);by_cases hb:b∈frs outer
  .obtain⟨sl,q2⟩:=slot b hb _ q';exact⟨_,q2⟩
  .exact⟨_,keep b o' q' (nold b o q hb)⟩
 .rcases hb with rfl|hb
  .exact ntrk _ _ q
  .exact ntrk _ _ hb
 .obtain⟨oe,vs,T,oT,ts,he,⟨hc,h0⟩,hd,h1,hnT,hTe,hT,hdT,h3⟩:=k3;refine⟨λb ⟨o,q⟩=>F.new b (.inl ⟨o,q,λz=>nomatch z⟩),F.free,oe,vs,a0,he,hc,hd,h0,.inr ⟨T,oT,ts,.none,h1,hTe,hT,hdT,⟨h3,rfl⟩,?_,λb ⟨o,q⟩ z=>?_⟩⟩
  .cases r:H' T with
   |none=>rfl
   |some u =>obtain⟨ob,q⟩:=(I.hok T u r).get;rw[W.hideAll_get _ q (ntrk T u r)]at hnT;cases hnT
  .subst z;obtain⟨o',q'⟩:=un.there b o q (λz=>nomatch z);by_cases hb:b∈frs outer
   .obtain⟨o2,q2,nf⟩:=fr b hb;obtain⟨sl,q3⟩:=slot b hb o2 q2;rw[q3]at hT;cases hT;exact nf ts hdT
   .rw[W.hideAll_get _ q' (nold b o q hb)]at hnT;cases hnT
theorem Dn(I:Inv (jx (CX1 P w) P w K mg base N qual scope f cd A outer s H E) pins σ H' s')(F:FlQ (flF (jx (CX1 P w) P w K mg base N qual scope f cd A outer s H E).env) (Old (jx (CX1 P w) P w K mg base N qual scope f cd A outer s H E) pins) H' s'.heap e C)(hE:E C a7 H') :
  (jx (CX1 P w) P w K mg base N qual scope f cd A outer s H E).xe (.ref e) s':=by
 obtain⟨oe,vs,a0,he,hc,hd,h0,hT⟩:=F.obj;have hsN:∀b,(∃o,s.heap.get? b=a4 o)->Old (jx (CX1 P w) P w K mg base N qual scope f cd A outer s H E) pins b:=λb ⟨o,q⟩=>.inl ⟨o,q,λz=>nomatch z⟩;have hin:∀(as:List ae),(∀b∈frs (ba qual scope s.heap.objs.size f cd::outer),b∈as)->∀env∈ba qual scope s.heap.objs.size f cd::outer,∀a,env.frame=a4 a->a∈as:=λas h env he a ha=>h a (t7.mpr ⟨env,he,ha⟩);subst hc;rcases hT with h1|⟨T,oT,ts,fl,h1,hTe,hT,hdT,⟨h3,hfl⟩,hTf,hTn⟩
 .let as:=e::frs (ba qual scope s.heap.objs.size f cd::outer)
  have hfa:∀b∈frs (ba qual scope s.heap.objs.size f cd::outer),b∈as:=λb hb=>xg _ hb;refine wpAny_leaving_firstW (base:=W.hideAll s'.heap as) I.ok.frames (W.funFrames_hide I.stack (hin as hfa)) rfl he (λb o q=>W.of_hideAll _ q) (T6 _ (xq ..)) hd h1 h0 λh' hL =>Nr I F hE (λb=>⟨λz=>?_,λz=>z.elim (hfa b) λz=>z.2.2⟩) hfa hL
  rcases xn.mp z with e1|z'
  .subst e1;exact .inr ⟨λq=>F.new _ (hsN _ q) rfl,F.free,z⟩
  .exact .inl z'
 .let as:=e::T::frs (ba qual scope s.heap.objs.size f cd::outer)
  have hfa:∀b∈frs (ba qual scope s.heap.objs.size f cd::outer),b∈as:=λb hb=>xg _ (xg _ hb);have mem:∀b∈as,b∈frs (ba qual scope s.heap.objs.size f cd::outer)\/(¬(∃o,s.heap.get? b=a4 o)/\H' b=a7/\b∈as):=λb z=>by
   rcases xn.mp z with e1|z'
   .subst e1;exact .inr ⟨λq=>F.new _ (hsN _ q) rfl,F.free,z⟩
   .rcases xn.mp z' with e1|z2
    .subst e1;exact .inr ⟨λq=>hTn _ (hsN _ q) rfl,hTf,z⟩
    .exact .inl z2
  have tr:s'.heap.TracedAtW (W.hideAll s'.heap as) e oe.cls a0 fl:=⟨oe,vs,T,oT,ts,he,⟨rfl,h0⟩,hd,h1,T6 _ (xg _ (xq ..)),hTe,hT,hdT,h3⟩
  rcases hfl with hfl|⟨L,hfL,hfl⟩
  .subst hfl;exact wpAny_leaving_nextW (base:=W.hideAll s'.heap as) (a0:=a0) I.ok.frames (W.funFrames_hide I.stack (hin as hfa)) rfl tr
    (λb o q=>W.of_hideAll _ q) (T6 _ (xq ..)) λh' hL =>
    Nr I F hE (λb=>⟨mem b,λz=>z.elim (hfa b) λz=>z.2.2⟩) hfa hL
  .subst hfl;show ax _ _ (leaving _ (.ref e)) _ _ s';unfold leaving;refine aj (iB (base:=W.hideAll s'.heap as) (a0:=a0) hfL tr ?_);exact iL (base:=W.hideAll s'.heap as) (a0:=a0) (λb o q=>W.of_hideAll _ q) (W.funFrames_hide I.stack (hin as hfa)) tr λh' k1 k2 k3 k4 =>Nr I F hE (λb=>⟨mem b,λz=>z.elim (hfa b) λz=>z.2.2⟩) hfa ⟨k1,k2,k3,λb o hb hn=>⟨o.slots,k4 b o hb hn⟩⟩
end
def spX(K:k7x)(mg:k80)(S:List D->af->Prop):Sp:=λvs H _ E=>∃ds x C,TabOk K H/\j5 K H ds vs/\S ds x/\mg x=a4 C/\∀H',j4 H H'->E C a7 H'
section
variable{P:ar}{w:aA}{K:k7x}{mg:k80}{base:aE}{x qual:af}{st:aJ}{f:ae}{fd:aG}{N ps:List af}{k:Nat}
theorem j5f{S:List D->af->Prop}(F:Fun K x qual st f fd)(Sc:FnScope N ps (j0 st))(hl:∀ds y,S ds y->ds.length=ps.length)
  (hbody:∀(cdv:aa)(A:aD)(outer:List cu)(s:ah)(H:Hp)(E:XK),V5 K f cdv->Room k (A.deeper (ba qual (j0 st) s.heap.objs.size f cdv))->∀ds y,S ds y ->
   DSs (jx (CX1 P w) P w K mg base N qual (j0 st) f cdv A outer s H E) (jm N ds) (jb st) { nx:=λ_=>False,rt:=λ_=>False,ex:=λz _=>z=y }):FnOk P w K mg base (CX1 P w) (k+1) f fd ps (spX K mg S):=by
 obtain⟨oc,od,dV,kV,doc,pm,an,cdv,ct,osl,rfl,lk,hcd⟩:=F.ex;refine j31 lk hcd Sc (λvs H Q E ⟨ds,y,C,tb,en,hS,_⟩=>by rw[en.length];exact hl ds y hS) λA outer s H vs Q E hr ⟨ds,y,C,tb,en,hS,hC,hE⟩=>⟨_,Zc,?_⟩
 have ho:=Js N ds;refine hbody cdv A outer s H E ⟨oc,od,_,osl,lk,rfl⟩ hr ds y hS (start N vs) H _ (Ql tb en) ⟨λρ' σ' H' n R f=>n.elim,λ_ _ _ z=>z.elim,λ_ _ _ z=>z.elim,λr v H' n z=>n.elim,λz ρ' σ' H' n R g=>?_⟩;cases(show z=y from n);intro pins H2 s' e C' I g2 hC' Fe;cases hC.symm.trans hC';unfold Fr0 at g;rw[ho,v8]at g;exact Dn I Fe (hE H2 ((g.trans q8).trans g2))
end
def DX(X:Cx)(ρ:Rho)(e:ai)(x:af):Prop:=∀σ H Q,Rep X.K ρ σ H->O3 X σ H x->Q0 X e σ H Q
def DXA(X:Cx)(ρ:Rho)(es:List ai)(x:af):Prop:=∀σ H Q,Rep X.K ρ σ H->O3 X σ H x->W6 X es σ H Q
structure CalX(X:Cx)(x:af)(sp:Sp):Prop where
 ex:∃(k:Nat)(f:ae)(fd:aG)(ps:List af),FnOk X.prog X.w X.K X.mg X.base (CX1 X.prog X.w) k f fd ps sp/\Room k X.A/\X.mg x=a4 (.ref f)/\W.keepIn X.K (.ref f)=a6/\Binds X.K fd ps []
section
variable{X:Cx}{ρ:Rho}{e:ai}{es:List ai}{f x:af}{ds:List D}{p pos:aK}{C:aa}
theorem DX.call {S:List D->af->Prop} (c:CalX X f (spX X.K X.mg S)) (ha:DTA X ρ (e::es) ds) (hS:S ds x) (hC:X.mg x=a4 C) (hg:Gl X f) (hdb:(f==k81)=a5)
  (he:a8 (e::es) X.env=(a5,az e X.env)::a8 es X.env) (hpl:(aO pos (a8 es X.env)).any (·.1)=a5):DX X ρ (.Call (.Name f p) (e::es) [] pos) x:=λσ H Q R k pins s I=>by
 obtain⟨n,fa,fd,ps,F,hr,hm,hk,hb⟩:=c.ex;refine bh (Zf I hg hm ?_ hdb);refine W.callWith_K (h₀:=X.base) I.ok.mod.kin hk (thn (ha σ H (λvs H1=>j4 H H1/\j5 X.K H1 ds vs) R (λvs H1 g e=>⟨g,e⟩) pos pins s I) λus s1 ⟨vs,H1,I1,r,g,en⟩=>⟨I1.kIn,?_⟩) he hpl;have sp:spX X.K X.mg S vs H1 (λ_ _=>False) (λC' _ H'=>C'=C/\j4 H1 H'):=⟨ds,x,C,R.tb.mono g,en,hS,hC,λH' g=>⟨rfl,g⟩⟩
 have hl:us.length=ps.length:=by rw[<-r.length];exact F.len _ _ _ _ sp
 have hb':=hb s1 us I1.kIn (by rw[Xx];exact hl);rw[Xx]at hb';refine jG (bU (F.run X.A X.stack s1 H1 ⟨us,[]⟩ us vs _ _ hr I1.env0 hb' r sp) λr s' hq=>?_);cases r with
 |error ev =>obtain⟨e,C',H',rfl,os,bare,un,hok,fl,rfl,g'⟩:=hq;have I':Inv X pins σ H' s':=I1.call' os un hok bare (λb z=>nomatch z);refine k pins H' s' e C' I' (g.trans g') hC (FlQ.up fl (λ_ z=>.inl z) λb hb=>I1.old hb)
 |ok fl =>
  cases fl with
  |ret u=>obtain⟨_,_,_,_,_,_,_,z⟩:=hq;exact z.elim
  |next=>exact aS hq
  |brk=>exact aS hq
  |cont=>exact aS hq
end
section
variable{X:Cx}{ρ:Rho}{e:ai}{es:List ai}{x:af}{d:D}{p pos np cpos:aK}{P:Po}{i:Int}{y:af}{ys:List af}
theorem DE.fmtI(ha:DT X ρ e (.int i))(hi:i.natAbs.log2<1920):DE X ρ (.FormattedValue e (-1) a7 pos) (.str (toString i)):=λσ H Q R q pins s I=>by
 refine eS (thn (ha σ H (λv H1=>v=.int i/\j4 H H1) R (λv H1 g e=>⟨e,g⟩) pins s I) λu s1 ⟨v,H1,I1,r,ev,g⟩=>?_);subst ev;obtain⟨t,rfl⟩:=(show ∃t,u=bx i t from r)
 exact formatField_int_small hi ⟨.str (toString i),H1,I1.un (t':=s1.toks+1+1) Un.refl I1.hok,⟨_,rfl⟩,q _ H1 g rfl⟩
theorem DE.fmtS(ha:DT X ρ e (.str y))(hy:y.length<=ak):DE X ρ (.FormattedValue e (-1) a7 pos) (.str y):=λσ H Q R q pins s I=>by
 refine eS (thn (ha σ H (λv H1=>v=.str y/\j4 H H1) R (λv H1 g e=>⟨e,g⟩) pins s I) λu s1 ⟨v,H1,I1,r,ev,g⟩=>?_);subst ev;obtain⟨t,rfl⟩:=(show ∃t,u=bg y t from r)
 exact l5 (λt' tk=>⟨.str y,H1,I1.un (t':=tk) Un.refl I1.hok,⟨_,rfl⟩,q _ H1 g rfl⟩) hy
noncomputable def Ov(out:af):List af->af
 |[]=>out
 |y::ys=>Ov (out++y) ys
def DPs(X:Cx)(ρ:Rho):List ai->List af->Prop
 |[],[]=>True
 |e::es,y::ys=>DE X ρ e (.str y)/\DPs X ρ es ys
 |_,_=>False
theorem Ef:∀{es:List ai}{ys:List af}{out:af}{n:Nat}{pins:k7z} {σ:St} {H0 H:Hp} {s:ah} {Q:VK},DPs X ρ es ys->(∀y∈ys,y.length<=10000)->out.length+10000*ys.length<=ak->Inv X pins σ H s->Rep X.K ρ σ H->j4 H0 H ->
  (∀H',j4 H0 H'->Q (.str (Ov out ys)) H')->ax (ay X.prog X.w) X.A (joinParts out (evalEach es X.env)) (EP X pins σ Q) X.xe s
 |[],[],out,n,pins,σ,H0,H,s,Q,_,_,hl,I,R,g,q=>joinParts_nil ⟨.str out,H,I.un (t':=s.toks+1) Un.refl I.hok,⟨_,rfl⟩,q H g⟩ (by have:=hl;omega)
 |e::es,y::ys,out,n,pins,σ,H0,H,s,Q,hp,hy,hl,I,R,g,q=>by
  have hy0:=hy y (xq ..);rw[X4]at hl;refine joinParts_cons (thn (hp.1 σ H (λv H1=>v=.str y/\j4 H H1) R (λv H1 g e=>⟨e,g⟩) pins s I) λu s1 ⟨v,H1,I1,r,ev,g1⟩=>?_);subst ev;obtain⟨t,rfl⟩:=(show ∃t,u=bg y t from r)
  have hz:(out++y).length<=out.length+10000:=by rw[strLen_append];omega
  exact⟨by omega,Ef (n:=n) hp.2 (λz hz=>hy z (xg _ hz)) nofun I1 (R.grow g1) (g.trans g1) q⟩
 |[],_::_,_,_,_,_,_,_,_,_,h,_,_,_,_,_,_=>h.elim
 |_::_,[],_,_,_,_,_,_,_,_,h,_,_,_,_,_,_=>h.elim
theorem DE.joined{a b:ai}(h:DPs X ρ (a::b::es) ys)(hy:∀y∈ys,y.length<=10000)(hl:ys.length<=1000):DE X ρ (.JoinedStr (a::b::es) pos) (.str (Ov cP ys)):=λσ H Q R q pins s I =>
 JoinedStr_many (Ef (n:=0) (out:=cP) h hy (by
  have e:Str.empty.length=0:=rfl
  rw[e,br];omega) I R (j4.refl H) λH' g=>q _ H' g rfl)
theorem jcq{Q:VK}{σ:St}{H:Hp}(he:Q0 X e σ H Q)(hs:a8 [e] X.env=[(a5,az e X.env)]):W6 X [e] σ H (λvs H'=>∃v,vs=[v]/\Q v H') :=
 (j9 (es:=[]) peS jl hs).to λpins s I=>thn (he pins s I) λu s' ⟨v,H',I',r,q⟩=>⟨v,H',I',r,⟨v,rfl,q⟩⟩
theorem DS.raise{C:ae}{bm bmN:List aa}{newId B Bn nid initId inN:String}(O:OwnCls x C bm newId X.mg X.base)(Fn:ExcBaseFacts Bn newId inN bmN)(hBn:bm.contains (.type Bn)=a6)(FB:ExcBaseFacts B nid initId bm)(hc:X.calm=a6)
  (ha:∀σ H,Rep X.K ρ σ H->Q0 X e σ H λ_ H'=>j4 H H') (hP:P.ex x ρ) (hg:Gl X x) (hdb:(x==k81)=a5) (he:a8 [e] X.env=[(a5,az e X.env)])
  : DS X ρ (.Raise (a4 (.Call (.Name x np) [e] [] cpos)) a7 pos) P:=λσ H E R q pins s I=>by
 obtain⟨tl,N,nm,qn,bs,hdct,sn,sub,ab,col,dd,k0,k1,k2,k3,k5,mN,hC,hN,hni,T⟩:=O.obj;refine wpAny_Raise_call_subU (C:=C) (nm:=nm) (q:=qn) (N:=N) (bs:=bs) (bm:=tl) (hdct:=hdct) (sn:=sn) (sub:=sub) (ab:=ab) (col:=col) (dd:=dd) (k0:=k0) (k1:=k1) (k2:=k2) (k3:=k3) (k5:=k5)
  Fn hBn FB (mN:=mN) (T.hasType FB.hasBase) (I.ok.hd hc) (by rw[he];rfl) hni (Zf I hg O.bound ⟨rfl,?_⟩ hdb)
 have hsp:=jcq (ha σ H R) he cpos pins s I;rw[he]at hsp ⊢;refine gN (thn hsp λus s2 ⟨vs,H1,I1,r,v,ev,g⟩=>⟨rfl,?_,I1.bk _ _ hC,hN.keeps I1.bk,T.keeps I1.bk,λh' e' hm=>?_⟩)
 .show us.length<=ak;rw[<-r.length,ev];show 1<=ak;rw[br];omega
 .have nold:∀b,(∃o,s2.heap.get? b=a4 o)->b≠e':=λb ⟨o,q⟩ z=>by rw[z,hm.new]at q;cases q
  obtain⟨t,ht,_,_⟩:=hm.there;refine q.ex x ρ σ H hP R (Fr0.refl _ _) pins H1 { s2 with heap:=h' } e' (.ref C) (I1.un (t':=s2.toks) (Un.kept hm.keeps) (I1.hok.kept hm.keeps)) g O.bound ⟨λb hb=>nold b (I1.old hb),?_,_,_,_,ht,rfl,rfl,rfl,.inl rfl⟩;cases z:H1 e' with
  |none=>rfl
  |some u=>exact absurd rfl (nold e' (I1.hok e' u z).get)
end
structure FlT(N:ae->Prop)(H:Hp)(h:aE)(e:ae)(C fl:aa):Prop where
 new:∀b,N b->b≠e
 free:H e=a7
 obj:∃(oe:cb)(vs:Array aa)(a0:aa)(T:ae)(oT:cb)(ts:Array aa),h.get? e=a4 oe/\oe.cls=C/\oe.data=.fields vs/\vs[0]?=a4 a0/\vs[1]?=a4 (.ref T)/\T≠e/\h.get? T=a4 oT/\oT.data=.fields ts/\ts[3]?=a4 fl /\
  H T=a7/\∀b,N b->b≠T
section
variable{X:Cx}{pins:k7z}{σ:St}{H:Hp}{s:ah}{e:ae}{C fl:aa}{M:g6}{A:aD}{E:k7y}
theorem Inv.noted{as:List ae}{h':aE}(I:Inv X pins σ H s)(ha:∀b∈as,b∈frs X.stack\/(H b=a7/\∀c,Old X pins c->c≠b))
  (keep:∀b o,s.heap.get? b=a4 o->b∉as->h'.get? b=a4 o) (slot:∀b o,s.heap.get? b=a4 o->(∀vs,o.data≠.fields vs)->∃sl,h'.get? b=a4 { o with slots:=sl }):Inv X pins σ H { s with heap:=h' }:=by
 have sf:=I.stkFree;have ntrk:∀b u,H b=a4 u->b∉as:=λb u q z=>by
  rcases ha b z with z|⟨z,_⟩
  .rw[sf b z]at q;cases q
  .rw[z]at q;cases q
 have nold:∀b,Old X pins b->b∉frs X.stack->b∉as:=λb ho nf z=>(ha b z).elim nf λq=>q.2 b ho rfl;have nst:∀b o,X.s₀.heap.get? b=a4 o->b∉X.fs->b∉frs X.stack:=λb o q n z=>by
  rcases xn.mp (I.stkSub b z)with z|z
  .have:=xr q;rw[z]at this;exact absurd (Xk this I.ok.above) (Pj _)
  .exact n z
 have nf:∀b∈frs X.stack,∀o,s.heap.get? b=a4 o->∀vs,o.data≠.fields vs:=λb hb o q=>by obtain⟨o',ho,hd⟩:=(I.stack.mem hb).2;rw[q]at ho;cases ho;exact hd
 have nff:∀b∈X.fs,∀o,s.heap.get? b=a4 o->∀vs,o.data≠.fields vs:=λb hb o q=>by obtain⟨o',ho,hd⟩:=(I.funs.mem hb).2;rw[q]at ho;cases ho;exact hd
 have cel:∀{c:ae}{v:Option aa},s.heap.IsCell c v->h'.IsCell c v:=λ{c v} ⟨o,q,hd⟩=>by
  obtain⟨sl,q'⟩:=slot c o q λvs z=>by rw[hd]at z;cases z
  exact⟨_,q',hd⟩
 obtain⟨m,hn,hl⟩:=id I.loc;have up:s.heap.UpToSlots h':=slot;refine⟨I.ok,I.os,I.bare,⟨λb o e n hb hx=>keep b o (I.base.keep b o e n hb hx) (nold b (.inl ⟨o,e,hx⟩) (nst b o e hb)),λb o e n hb hx=>?_,I.base.free,λb o e hx=>?_,I.base.tups,I.base.frzs,I.base.tbls⟩,
  ⟨m,up.ns hn,λi x v h1 h2 h3=>?_⟩,λx c e=>?_,I.free,I.freeC,λp hp=>?_,λa o q=>(I.hok a o q).stay (λb u hb r=>keep b u r ?_) (λ_ z=>z) (λ_ _ z=>z) λ_ _ _ z=>z,I.len⟩
 .obtain⟨sl,e1⟩:=I.base.slot b o e n hb hx;obtain⟨sl',e2⟩:=slot b _ e1 (nff b hb _ e1);exact⟨sl',e2⟩
 .obtain⟨o',e1⟩:=I.base.there b o e hx;by_cases hb:b∈frs X.stack
  .obtain⟨sl,e2⟩:=slot b o' e1 (nf b hb o' e1);exact⟨_,e2⟩
  .exact⟨o',keep b o' e1 (nold b (.inl ⟨o,e,hx⟩) hb)⟩
 .obtain⟨u,r,q⟩:=hl i x v h1 h2 h3;exact⟨u,r,q.imp id λ⟨k,c,e,z⟩=>⟨k,c,e,cel z⟩⟩
 .obtain⟨v,z⟩:=I.cell x c e;exact⟨v,cel z⟩
 .obtain⟨q,n,nl,nfs,d⟩:=I.pin p hp;refine⟨keep p.1 p.2 q (nold p.1 (.inr (.inl ⟨p,hp,rfl⟩)) λz=>?_),n,nl,nfs,d⟩;rcases xn.mp (I.stkSub p.1 z)with z|z
  .exact nl z
  .exact nfs z
 .rcases hb with rfl|hb
  .exact ntrk _ _ q
  .exact ntrk _ _ hb
theorem Ml{as:List ae}{h':aE}{a0:aa}(I:Inv X pins σ H s)(hn:∀b,Old X pins b->b≠e)(hf:H e=a7)(ha:∀b∈as,b∈frs X.stack\/(H b=a7/\∀c,Old X pins c->c≠b))(hfa:∀b∈frs X.stack,b∈as)
  (k1:(W.hideAll s.heap as).StaysIn h') (k3:h'.TracedAtW (W.hideAll s.heap as) e C a0 fl) (k4:∀b o,s.heap.get? b=a4 o->(∀vs,o.data≠.fields vs)->∃sl,h'.get? b=a4 { o with slots:=sl }) :
  Inv X pins σ H { s with heap:=h' }/\FlT (Old X pins) H h' e C fl:=by
 have keep:∀b o,s.heap.get? b=a4 o->b∉as->h'.get? b=a4 o:=λb o q n=>k1 b o (W.hideAll_get _ q n);refine⟨I.noted ha keep k4,hn,hf,?_⟩;obtain⟨oe,vs,T,oT,ts,he,⟨hc,h0⟩,hd,h1,hnT,hTe,hT,hdT,h3⟩:=k3;refine⟨oe,vs,a0,T,oT,ts,he,hc,hd,h0,h1,hTe,hT,hdT,h3,?_,λb hb z=>?_⟩
 .cases r:H T with
  |none=>rfl
  |some u =>
   obtain⟨ob,q⟩:=(I.hok T u r).get;have:T∉as:=λz=>by
    rcases ha T z with z|⟨z,_⟩
    .rw[I.stkFree T z]at r;cases r
    .rw[z]at r;cases r
   rw[W.hideAll_get _ q this]at hnT;cases hnT
 .subst z;obtain⟨o,q⟩:=I.old hb;by_cases hs:b∈as
  .rcases ha b hs with hs|⟨_,z⟩
   .obtain⟨o',ho,nf⟩:=(I.stack.mem hs).2;obtain⟨sl,q3⟩:=k4 b o' ho nf;rw[q3]at hT;cases hT;exact nf ts hdT
   .exact z b hb rfl
  .rw[W.hideAll_get _ q hs]at hnT;cases hnT
theorem Fb(I:Inv X pins σ H s){as:List ae}(hfa:∀b∈frs X.stack,b∈as):s.heap.FunFrames (W.hideAll s.heap as) X.stack :=
 W.funFrames_hide I.stack λenv he a ha=>hfa a (t7.mpr ⟨env,he,ha⟩)
theorem Ol{e:aa}{env env':cu}(h:env.frame=env'.frame):de e env=de e env':=by unfold de PySem.frameOf;rw[h]
theorem jby{Q:Unit->ah->Prop}{env0:cu}{out0:List cu}{L:ae}(I:Inv X pins σ H s)(hst:X.stack=env0::out0)(hfm:env0.frame=a4 L)(hfx:X.env.frame=a4 L)(F:FlQ (flF X.env) (Old X pins) H s.heap e C)
  (h:∀h',Inv X pins σ H { s with heap:=h' }->FlT (Old X pins) H h' e C (jJ L)->Q () { s with heap:=h' }):ax (ay X.prog X.w) X.A (de (.ref e) X.env) Q E s:=by
 rw[Ol (hfx.trans hfm.symm)];obtain⟨oe,vs,a0,he,hc,hd,h0,hT⟩:=F.obj;subst hc;have hfr:X.A.frames=a4 (env0::out0):=by rw[<-hst];exact I.ok.frames
 rcases hT with h1|⟨T,oT,ts,fl,h1,hTe,hT,hdT,⟨h3,hfl⟩,hTf,hTn⟩
 .have hfa:∀b∈frs X.stack,b∈e::frs X.stack:=λb hb=>xg _ hb;have hl:=Fb I hfa;rw[hst]at hl;unfold de;simp only[hfm];refine aj (cq he hd h1 ?_);rw[if_neg (by decide)];refine wpAny_entryW (base:=W.hideAll s.heap (e::frs X.stack)) hfr (by rw[<-hst]at hl ⊢;exact hl) hfm he (λb o q=>W.of_hideAll _ q) (T6 _ (xq ..)) hd (Array.getElem?_eq_some_iff.mp h1).1 h0 λh' ⟨k1,_,k3,k4⟩=>?_;obtain⟨I',F'⟩:=Ml (as:=e::frs X.stack) I F.new F.free (λb hb=>(xn.mp hb).elim (λz=>.inr ⟨z▸F.free,λc hc=>z▸F.new c hc⟩) .inl) hfa k1 k3 k4;exact h h' I' F'
 .rcases hfl with hfl|⟨L',hL',hfl⟩
  rotate_left
  .subst hfl;cases hfx.symm.trans hL';refine iB (base:=W.hideAll s.heap [T]) (a0:=a0) (cls:=oe.cls) hfm ⟨oe,vs,T,oT,ts,he,⟨rfl,h0⟩,hd,h1,T6 _ (xq ..),hTe,hT,hdT,h3⟩ ?_;exact h s.heap I ⟨F.new,F.free,oe,vs,a0,T,oT,ts,he,rfl,hd,h0,h1,hTe,hT,hdT,h3,hTf,hTn⟩
  subst hfl;have hfa:∀b∈frs X.stack,b∈e::T::frs X.stack:=λb hb=>xg _ (xg _ hb);have hl:=Fb I hfa;refine wpAny_noteFrame_onW (base:=W.hideAll s.heap (e::T::frs X.stack)) (a0:=a0) hfr (by rw[<-hst];exact hl) hfm ⟨oe,vs,T,oT,ts,he,⟨rfl,h0⟩,hd,h1,T6 _ (xg _ (xq ..)),hTe,hT,hdT,h3⟩
   (λb o q=>W.of_hideAll _ q) (T6 _ (xq ..)) λh' ⟨k1,_,k3,k4⟩=>?_
  obtain⟨I',F'⟩:=Ml (as:=e::T::frs X.stack) I F.new F.free (λb hb=>(xn.mp hb).elim (λz=>.inr ⟨z▸F.free,λc hc=>z▸F.new c hc⟩) λhb=>(xn.mp hb).elim (λz=>.inr ⟨z▸hTf,λc hc=>z▸hTn c hc⟩) .inl) hfa k1 k3 k4;exact h h' I' F'
theorem j1l{Q:Unit->ah->Prop}(I:Inv X pins σ H s)(F:FlT (Old X pins) H s.heap e C fl)
  (h:∀h',Inv X pins σ H { s with heap:=h' }->FlT (Old X pins) H h' e C .none->Q () { s with heap:=h' }):ax M A (kv (.ref e) a7) Q E s:=by
 obtain⟨oe,vs,a0,T,oT,ts,he,hc,hd,h0,h1,hTe,hT,hdT,h3,hTf,hTn⟩:=F.obj;subst hc;have hfa:∀b∈frs X.stack,b∈e::T::frs X.stack:=λb hb=>xg _ (xg _ hb);refine iL (base:=W.hideAll s.heap (e::T::frs X.stack)) (a0:=a0) (fl:=fl) (l:=X.stack) (λb o q=>W.of_hideAll _ q) (Fb I hfa)
  ⟨oe,vs,T,oT,ts,he,⟨rfl,h0⟩,hd,h1,T6 _ (xg _ (xq ..)),hTe,hT,hdT,h3⟩ λh' k1 _ k3 k4=>?_
 obtain⟨I',F'⟩:=Ml (as:=e::T::frs X.stack) I F.new F.free (λb hb=>(xn.mp hb).elim (λz=>.inr ⟨z▸F.free,λc hc=>z▸F.new c hc⟩) λhb=>(xn.mp hb).elim (λz=>.inr ⟨z▸hTf,λc hc=>z▸hTn c hc⟩) .inl) hfa k1 k3
  (λb o q nf=>⟨o.slots,k4 b o q nf⟩)
 exact h h' I' F'
theorem Inv.track{oe:cb}(I:Inv X pins σ H s)(he:s.heap.get? e=a4 oe)(hn:∀b,Old X pins b->b≠e)(hf:H e=a7):Inv X pins σ (upd H e (.frz oe (.own e))) s:=by
 have ne:∀{b:ae}{u:HO},H b=a4 u->b≠e:=λ{b u} q z=>by rw[z,hf]at q;cases q
 refine⟨I.ok,I.os,I.bare,⟨I.base.keep,I.base.slot,λb o q n hx=>?_,I.base.there,λb xs q=>?_,λb o u q=>?_,λb ps q=>?_⟩,I.loc,I.cell,?_,λx c q=>?_,λp hp=>?_,λa o q=>?_,I.len⟩
 .rw[je (hn b (.inl ⟨o,q,hx⟩))];exact I.base.free b o q n hx
 .have z:=I.base.tups b xs q;rw[je (ne z)];exact z
 .have z:=I.base.frzs b o u q;rw[je (ne z)];exact z
 .obtain⟨m,z⟩:=I.base.tbls b ps q;exact⟨m,by rw[je (ne z)];exact z⟩
 .rw[je (hn _ (.inr (.inr (.inl rfl))))];exact I.free
 .rw[je (hn _ (.inr (.inr (.inr ⟨x,q⟩))))];exact I.freeC x c q
 .obtain⟨q,n,r⟩:=I.pin p hp;exact⟨q,by rw[je (hn _ (.inr (.inl ⟨p,hp,rfl⟩)))];exact n,r⟩
 .by_cases z:a=e
  .subst z;rw[jq]at q;cases q;exact⟨he,oe,he⟩
  .rw[je z]at q;exact(I.hok a o q).stay (λ_ _ _ r=>r) (λb r=>by rw[je (ne r)];exact r) (λb xs r=>by rw[je (ne r)];exact r) λb _ _ r=>by rw[je (ne r)];exact r
theorem jcn{j:Nat}{n:af}{pos:aK}{Q:Unit->ah->Prop}(I:Inv X pins σ H s)(hN:X.N.Nodup)(hj:X.N[j]?=a4 n)(hk:X.env.kindOf n=a4 .local)
  (h:∀s',Inv X pins (σ.set j a7) H s'->Q () s'):ax M A (do bindName X.env n .none;unbindBehindTheSuite X.env n pos) Q E s:=by
 obtain⟨m,hn,hl⟩:=id I.loc;have hcls:(X.env.scope.kind==.class || (X.env.scope.kind==.module&&X.env.locals != X.env.globals))=a5:=by rw[I.ok.kind];rfl
 refine wpAny_nameGoes_keeps hk hn hcls λh' v hn' hs=>h _ ?_;have cne:=I.cne;refine⟨I.ok,I.os,I.bare,⟨λb o e n hb hx=>?_,λb o e n hb hx=>?_,I.base.free,λb o e hx=>?_,I.base.tups,I.base.frzs,I.base.tbls⟩,⟨_,hn',λi y v' e1 e2 e3=>?_⟩,λy c e=>?_,I.free,I.freeC,λp hp=>?_,λb ob e=>?_,by simpa using I.len⟩
 .exact(hs.2 b (Xj (Xk (xr e) I.ok.above))).trans (I.base.keep b o e n hb hx)
 .obtain⟨sl,e1⟩:=I.base.slot b o e n hb hx;exact⟨sl,(hs.2 b (Xj (Xk (xr e) I.ok.above))).trans e1⟩
 .obtain⟨o',e1⟩:=I.base.there b o e hx;exact⟨o',(hs.2 b (Xj (Xk (xr e) I.ok.above))).trans e1⟩
 .by_cases hij:i=j
  .subst hij;rcases getElem?_set_of e2 with ⟨_,z,_⟩|⟨z,_⟩
   .cases z
   .exact absurd rfl z
  .rw[t8 (bF hij)]at e2;obtain⟨u',r',q⟩:=hl i y v' e1 e2 e3;refine⟨u',r',?_⟩;rcases q with ⟨k,e⟩|⟨k,c,e,z⟩
   .refine .inl ⟨k,?_⟩;have:y≠n:=λe=>hij (Mm hN e1 (e▸hj));simp[this,e]
   .exact .inr ⟨k,c,e,z.sameBut hs (cne y c e)⟩
 .obtain⟨w',z⟩:=I.cell y c e;exact⟨w',z.sameBut hs (cne y c e)⟩
 .obtain⟨e,n,ne,nf,d⟩:=I.pin p hp;exact⟨(hs.2 p.1 ne).trans e,n,ne,nf,d⟩
 .refine(I.hok b ob e).stay (λc w' hc q=>(hs.2 c ?_).trans q) (λ_ q=>q) (λ_ _ q=>q) λ_ _ _ q=>q;rintro rfl;rcases hc with rfl|hc
  .rw[I.free]at e;cases e
  .rw[I.free]at hc;cases hc
end
end L2
end
section
namespace PySem.W
open PySem PySem.Spec PySem.Calls PyProof.Rows Builtin Builtin.ObjectAttr Builtin.Getset_descriptor
section
variable{prog:ar}{w:aA}{A:aD}{E:k7y}{h:aE}{g:Array gP}{d:Drawn}{t:Nat}{os:OsState}{K:lb}{e C:ae}
theorem j5g {R:eO->ah->Prop} {tp:aa} (X:K.In h) (LT:Looks (ay prog w) h (ly (.ref e)) (.ref C)) (hm:mroIn K C (.type "object")=a4 a6)
  (hq:R (.ok (.ret (.ref C))) ⟨h,g,d,t,os⟩):c9 (ay prog w) A (.call (.builtin "getset_descriptor.__get__") ⟨[.builtin "object.__class__",.ref e,tp],[]⟩) R ⟨h,g,d,t,os⟩:=by
 have L1:=looks_mroIn (M:=ay prog w) X hm;refine iW KF.slot_gs.plain KF.entry_gs (KF.slot_gs.check _ _ _ _ _ _ _ _ KF.type_class (KF.args_gs _ _ _) ?_);unfold dX.«getset_descriptor.__get__» descrGet;rw[dga_obj];refine aj (aC ?_);unfold descrGetter descrCheckInstance descrNameAndClass isInstance;simp only[KF.owner_class]
 repeat lk
 refine⟨Code.quiet_builtin _ (by decide +kernel),gm KF.entry_class ?_⟩;unfold dX.«object.__class__» shownTypeOf
 repeat lk
 exact hq
theorem j0n {tk:jL} {o:cb} {Q:Fin->ah->Prop} (X:K.In h) (hx:h.get? e=a4 o) (hc:o.cls=.ref C) (ha:gI K (.ref C) "__class__" = a4 (a4 (.builtin "object.__class__"))) (hm:mroIn K C (.type "object")=a4 a6)
  (hq:Q (.done (.ret (.ref C))) ⟨h,g,d,t,os⟩):ax (ay prog w) A (dX.«object.__getattribute__» ⟨[.ref e,.str "__class__" tk],[]⟩) Q E ⟨h,g,d,t,os⟩:=by
 have hT5:(⟨h,g,d,t,os⟩:ah).TypeIs (.builtin "object.__class__") "getset_descriptor":=i9;have f5:=i9;have f6:=F.slot_gs_get.lookup;have f7:=F.slot_gs_set.lookup;have L1:=iu (M:=ay prog w) X ha;have LT:Looks (ay prog w) h (ly (.ref e)) (.ref C):=hc▸(Looks.ld hx).andThen .now
 repeat (any_goals (first|assumption|(with_reducible refine fJ hx ?_;rw[hc])|with_reducible refine L1.at ?_|wp_step))
 refine j5g X LT hm ?_
 repeat (any_goals (first|assumption|wp_step))
theorem j8x {M:g6} {nameV:aa} {o:cb} {Q:Unit->ah->Prop} (X:K.In h) (hx:h.get? e=a4 o) (hc:o.cls=.ref C) (hs:subIn K (.ref C) (.type "BaseException")=a4 a6) (hq:Q () ⟨h,g,d,t,os⟩) :
  ax M A (kA "BaseException.__getattribute__" ⟨[.ref e,nameV],[]⟩) Q E ⟨h,g,d,t,os⟩:=by
 have hk:builtinKind "BaseException.__getattribute__" = a4 .slot:=by decide +kernel
 have hsplit:splitId "BaseException.__getattribute__" = a4 ("BaseException","__getattribute__"):=by decide +kernel
 have L2:=looks_subIn (M:=M) X hs;have ha:=F.args_bexc_ga (.ref e) nameV;simp only[kA,hk,hsplit];refine aj ?_
 .unfold isInstance
  repeat (first|(with_reducible refine fJ hx ?_;rw[hc])|with_reducible refine L2.at ?_|wp_step)
  exact hq
theorem j8j {tk:jL} {o:cb} {fill expr:Bool} {Q:k7y} (X:K.In h) (hx:h.get? e=a4 o) (hc:o.cls=.ref C) (hga:gI K (.ref C) "__getattribute__" = a4 (a4 (.builtin "BaseException.__getattribute__")))
  (hgt:gI K (.ref C) "__getattr__" = a4 a7) (hs:subIn K (.ref C) (.type "BaseException")=a4 a6) (ha:gI K (.ref C) "__class__" = a4 (a4 (.builtin "object.__class__"))) (hm:mroIn K C (.type "object")=a4 a6) (hpl:Slot "ValueError" "__getattribute__" "BaseException.__getattribute__")
  (hq:Q (.ref C) ⟨h,g,d,t,os⟩):ax (ay prog w) A (getAttrBy (.ref e) (.str "__class__" tk) fill expr) Q E ⟨h,g,d,t,os⟩:=by
 have f3:=hpl.bind (.ref e);have hx0:(expr&&onTheHeap (d7 "BaseException.__getattribute__"))=a5:=by cases expr<;>rfl
 have hx2:(d7 "BaseException.__getattribute__" == d7 "object.__getattribute__")=a5:=by decide +kernel
 have hx1:(onTheHeap (aF C)&&d7 "BaseException.__getattribute__" == d7 "object.__getattribute__")=a5:=by rw[hx2];rfl
 have L1:=iu (M:=ay prog w) X hga;have L2:=iu (M:=ay prog w) X hgt
 repeat (any_goals (first|assumption|(with_reducible refine fJ hx ?_;rw[hc])|with_reducible refine L1.at ?_|with_reducible refine L2.at ?_|wp_step))
 refine iW hpl.plain F.entry_bexc_ga (j8x X hx hc hs (j0n X hx hc ha hm ?_))
 repeat (any_goals (first|assumption|wp_step))
theorem excls_attr {o:cb} {Q:Option aa->ah->Prop} (X:K.In h) (hx:h.get? e=a4 o) (hc:o.cls=.ref C) (hga:gI K (.ref C) "__getattribute__" = a4 (a4 (.builtin "BaseException.__getattribute__")))
  (hgt:gI K (.ref C) "__getattr__" = a4 a7) (hs:subIn K (.ref C) (.type "BaseException")=a4 a6) (ha:gI K (.ref C) "__class__" = a4 (a4 (.builtin "object.__class__"))) (hm:mroIn K C (.type "object")=a4 a6) (hpl:Slot "ValueError" "__getattribute__" "BaseException.__getattribute__")
  (hq:Q (a4 (.ref C)) ⟨h,g,d,t+1,os⟩):ax (ay prog w) A (getAttr? (.ref e) "__class__") Q E ⟨h,g,d,t,os⟩:=by
 unfold getAttr? getAttrBy?;refine aj (wpAny_mkText (aj (wpAny_attempt (j8j X hx hc hga hgt hs ha hm hpl (aC hq)))))
end
end PySem.W
end
section
namespace L2
open PySem PySem.Spec PyProof.Rows
noncomputable def jt:List af:=["WrongSize","NoAsk","NoWord","Twice","WrongAnswers","Unlike","NoPlace","NoText","WrongPrices","WrongWeights","NoPlan"]
noncomputable def bmV:List aa:=[.type "ValueError",.type "Exception",.type "BaseException",.type "object"]
noncomputable def j6d(K:k7x)(C:ae):Bool:=W.findIn K (.ref C) "__getattribute__" == a4 (a4 (.builtin "BaseException.__getattribute__"))&&(W.findIn K (.ref C) "__getattr__" == a4 a7&&(W.subIn K (.ref C) (.type "BaseException")==a4 a6 &&
 (W.findIn K (.ref C) "__class__" == a4 (a4 (.builtin "object.__class__"))&&(W.mroIn K C (.type "object")==a4 a6&&((W.clsIn K C).isSome&&W.excIn K C bmV "ValueError.__new__")))))
noncomputable def Jv(K:k7x):Bool:=jt.all λx=>match W.nsIn K aq x with
 |some (a4 (.ref C))=>j6d K C&&(W.kitOne K (.ref C) (.type "ValueError")==a4 a6&&((match W.nsIn K aq "AskError" with
   |some (a4 a)=>W.exmOne K (.ref C) a==a4 a6
   |_=>a5)&&jt.all λc=>match W.nsIn K aq c with
   |some (a4 v)=>W.kitOne K (.ref C) v==a4 (x==c)
   |_=>a6))
 |some (a4 _)=>a5
 |_=>a6
structure XcOk(K:k7x)(C:ae):Prop where
 ga:W.findIn K (.ref C) "__getattribute__" = a4 (a4 (.builtin "BaseException.__getattribute__"))
 gt:W.findIn K (.ref C) "__getattr__" = a4 a7
 sub:W.subIn K (.ref C) (.type "BaseException")=a4 a6
 cls:W.findIn K (.ref C) "__class__" = a4 (a4 (.builtin "object.__class__"))
 mro:W.mroIn K C (.type "object")=a4 a6
 is:(W.clsIn K C).isSome=a6
 exc:W.excIn K C bmV "ValueError.__new__" = a6
theorem jal{K:k7x}{C:ae}(h:j6d K C=a6):XcOk K C:=by unfold j6d at h;simp only[Xd,beq_iff_eq]at h;exact⟨h.1,h.2.1,h.2.2.1,h.2.2.2.1,h.2.2.2.2.1,h.2.2.2.2.2.1,h.2.2.2.2.2.2⟩
structure ExOne(K:k7x)(x:af)(C:ae):Prop where
 ok:XcOk K C
 val:W.kitOne K (.ref C) (.type "ValueError")=a4 a6
 ask:∃a,W.nsIn K aq "AskError" = a4 (a4 a)/\W.exmOne K (.ref C) a=a4 a6
 one:∀c∈jt,∀v,W.nsIn K aq c=a4 (a4 v)->W.kitOne K (.ref C) v=a4 (x==c)
theorem Vw{K:k7x}(h:Jv K=a6){x:af}{o:aa}(hx:x∈jt)(e:W.nsIn K aq x=a4 (a4 o)):∃C,o=.ref C/\ExOne K x C:=by
 have q:=Xy.mp h x hx;rw[e]at q;cases o with
 |ref C =>
  refine⟨C,rfl,?_⟩;dsimp only at q;simp only[Xd,beq_iff_eq]at q;obtain⟨q1,q2,q3,q4⟩:=q;refine⟨jal q1,q2,?_,λc hc v ev=>?_⟩
  .split at q3
   .rename_i a ea;exact⟨a,ea,beq_iff_eq.mp q3⟩
   .cases q3
  .have z:=Xy.mp q4 c hc;rw[ev]at z;exact beq_iff_eq.mp z
 |_=>cases q
theorem jbs{K:k7x}{h₀:aE}{C:ae}{bmB:List aa}{newId:String}{x:af}{mg:k80}(X:K.In h₀)(hb:mg x=a4 (.ref C))(q:W.excIn K C bmB newId=a6):OwnCls x C bmB newId mg h₀:=by
 refine⟨hb,?_⟩;unfold W.excIn at q;split at q
 .rename_i dd cd sl ho;split at q
  .rename_i C' bm k0 k1 k2 k3 n k5 hm hs;simp only[Xd,beq_iff_eq,eU]at q;obtain⟨⟨⟨⟨⟨rfl,rfl⟩,hdel⟩,ht⟩,hok⟩,hni⟩:=q;obtain⟨nm,bs,mro,ns,qn,hd,sn,sub,ab,col,del⟩:=cd;dsimp only at hm hdel hok hni;subst hm hdel;have hsl:sl = #[k0,k1,k2,k3,a4 (.builtin n),k5]:=by obtain⟨l⟩:=sl;simp only at hs;rw[hs]
   subst hsl;exact⟨bm,ns,nm,qn,bs,hd,sn,sub,ab,col,dd,k0,k1,k2,k3,k5,_,X _ _ ho,.of_isNs (W.isNs_of_in X hok),W.nsMap_none_of_in X hok hni,W.tail_of_in X ht⟩
  .cases q
 .cases q
theorem DS.raiseE{X:Cx}{ρ:Rho}{e:ai}{x:af}{o:aa}{np cpos pos:aK}{P:Po}(ha:Jv X.K=a6)(hx:x∈jt)(hn:W.nsIn X.K aq x=a4 (a4 o))(hb:X.mg x=a4 o)(hK:X.K.In X.base)(hc:X.calm=a6)
  (he:∀σ H,Rep X.K ρ σ H->Q0 X e σ H λ_ H'=>j4 H H') (hP:P.ex x ρ) (hg:Gl X x) (hdb:(x==k81)=a5) (hs:a8 [e] X.env=[(a5,az e X.env)]):DS X ρ (.Raise (a4 (.Call (.Name x np) [e] [] cpos)) a7 pos) P:=by
 obtain⟨C,rfl,F⟩:=Vw ha hx hn;exact DS.raise (jbs hK hb F.ok.exc) fi (by decide +kernel) fi hc he hP hg hdb hs
theorem Ec{K:k7x}{e C:ae}{o:cb}(k:XcOk K C):iR K (.ref e) (.ref C) (λh=>h.get? e=a4 o/\o.cls=.ref C) where
 ty:=λ_ _ _ p=>p.2▸(PySem.W.Looks.ld p.1).andThen .now
 it:=λ_ _ X _=>by
  obtain⟨cdD,hcD⟩:=Xr.mp k.is;unfold W.clsIn at hcD;split at hcD
  .rename_i c' d' cd' sl' ho;intro A' Q' E' s' k q;unfold isType loadHead;exact aj (wpAny_loadPart (k _ _ (X _ _ ho)) (aC q))
  .cases hcD
 ne:=λh tp dd its n sl X htp=>by
  obtain⟨cdD,hcD⟩:=Xr.mp k.is;refine Bool.eq_false_iff.mpr λq=>?_;have e:C=tp:=Value.ref.inj (beq_iff_eq.mp q);subst e;unfold W.clsIn at hcD;split at hcD
  .rename_i c' d' cd' sl' ho;have z:=(X _ _ ho).symm.trans htp;cases z
  .cases hcD
 ca:=λ{prog w A E Q s} X p hq=>by obtain⟨h,g,d,t,os⟩:=s;exact W.excls_attr X p.1 p.2 k.ga k.gt k.sub k.cls k.mro PySem.F.attr_ValueError.ga hq
section
variable{X:Cx}{pins pins':k7z}{σ:St}{H:Hp}{s:ah}{xe:k7y}{e:ae}
theorem Inv.toPn(I:Inv X pins σ H s):Inv { X with pn:=X.pn++pins,xe:=xe } [] σ H s :=
 ⟨⟨I.ok.mod,I.ok.kind,I.ok.glob,I.ok.blt,I.ok.above,I.ok.inj,I.ok.has,I.ok.cab,I.ok.hd,I.ok.frames,I.ok.stk,I.ok.exf,I.ok.bs,I.ok.bsz,I.ok.noex,I.ok.exfs,I.ok.funs,I.ok.frf⟩,
  I.os,I.bare,I.base,I.loc,I.cell,I.free,I.freeC,λp hp=>I.pin p (by rw[Xx]at hp;exact hp),I.hok,I.len⟩
theorem Inv.ofPn(I:Inv { X with pn:=X.pn++pins,xe:=xe } pins' σ H s):Inv X pins σ H s :=
 ⟨⟨I.ok.mod,I.ok.kind,I.ok.glob,I.ok.blt,I.ok.above,I.ok.inj,I.ok.has,I.ok.cab,I.ok.hd,I.ok.frames,I.ok.stk,I.ok.exf,I.ok.bs,I.ok.bsz,I.ok.noex,I.ok.exfs,I.ok.funs,I.ok.frf⟩,
  I.os,I.bare,I.base,I.loc,I.cell,I.free,I.freeC,λp hp=>I.pin p (Tc _ hp),I.hok,I.len⟩
theorem Old.toPn{b:ae}(h:Old X pins b):Old { X with pn:=X.pn++pins,xe:=xe } pins' b:=by
 rcases h with h|⟨p,hp,e⟩|h|h
 .exact .inl h
 .exact .inr (.inl ⟨p,Tc _ hp,e⟩)
 .exact .inr (.inr (.inl h))
 .exact .inr (.inr (.inr h))
noncomputable abbrev Cx.hnd(X:Cx)(e:ae):Cx:={ X with A:=X.A.mark (a4 (.ref e)),calm:=a5,xe:=λ_ _=>False }
theorem Inv.toH(I:Inv X pins σ H s):Inv (X.hnd e) pins σ H s :=
 ⟨⟨I.ok.mod,I.ok.kind,I.ok.glob,I.ok.blt,I.ok.above,I.ok.inj,I.ok.has,I.ok.cab,(λz=>by cases z),I.ok.frames,I.ok.stk,I.ok.exf,I.ok.bs,I.ok.bsz,I.ok.noex,I.ok.exfs,I.ok.funs,I.ok.frf⟩,
  I.os,I.bare,I.base,I.loc,I.cell,I.free,I.freeC,I.pin,I.hok,I.len⟩
theorem Inv.ofH(ok:X.Ok)(I:Inv (X.hnd e) pins σ H s):Inv X pins σ H s:=⟨ok,I.os,I.bare,I.base,I.loc,I.cell,I.free,I.freeC,I.pin,I.hok,I.len⟩
end
theorem Rep.set_raw{K:k7x}{ρ:Rho}{σ:St}{H:Hp}{i:Nat}{a:ae}{o:cb}{x:af}(R:Rep K ρ σ H)(e:del H (owns ρ) a=a4 (.frz o (.own a)))(hx:W.nsIn K aq x=a4 (a4 o.cls)):Rep K (ρ.set i (.raw a o x)) (σ.set i (a4 (.ref a))) H:=by
 have sub:(owns (ρ.set i (.raw a o x))).Sublist (owns ρ):=jc rfl;have g:j4 (del H (owns ρ)) (del H (owns (ρ.set i (.raw a o x)))):=zy λb hb=>sub.subset hb;refine⟨by simp[R.len],λj d' h=>?_,λj a ds h=>?_,sub.nodup R.nd,λj a' o' x' h=>?_,R.tb⟩
 .rcases getElem?_set_of h with ⟨rfl,z,hl⟩|⟨n,h⟩
  .cases z
  .obtain⟨u,q,h⟩:=R.val j d' h;exact⟨u,by rw[qi n];exact q,h.mono g⟩
 .rcases getElem?_set_of h with ⟨rfl,z,_⟩|⟨n,h⟩
  .cases z
  .obtain⟨q,xs,h,l⟩:=R.own j a ds h;exact⟨by rw[qi n];exact q,xs,h,l.mono g⟩
 .rcases getElem?_set_of h with ⟨rfl,z,hl⟩|⟨n,h⟩
  .cases z;exact⟨J1 (by rw[R.len];exact hl),.inr ⟨g _ _ e,hx⟩⟩
  .obtain⟨q,h⟩:=R.raw j a' o' x' h;exact⟨by rw[qi n];exact q,h.mono g⟩
section
variable{X:Cx}{ρ:Rho}{i:Nat}{a:ae}{o:cb}{x y c c1 c2:af}{p p1 p2 p3 p4 p5 pos:aK}{k:Bool}
theorem Cm:vm X (.builtin "isinstance") (λxs H Q=>∃(a:ae)(o:cb)(C:ae)(v:V)(u:aa)(b:Bool),xs=[.ref a,v]/\H a=a4 (.frz o (.own a))/\o.cls=.ref C/\XcOk X.K C/\(∀u',RelV v u'->u'=u)/\W.kitOne X.K (.ref C) u=a4 b/\Q (.bl b) H):=by rintro pins s σ H xs us Q I r ⟨a,o,C,v,u,b,e,ha,hc,hk,hv,kk,q⟩;subst e;obtain⟨u1,u2,eu,r1,r2⟩:=vals2 r;subst eu;cases(show u1=aF a from r1);cases hv u2 r2;exact W.kia_one (Ec hk) I.kIn ⟨(I.hok a _ ha).1,hc⟩ kk (λz=>nomatch z) λtk=>⟨.bl b,H,I.tok tk,rfl,q⟩
theorem Ia{σ:St}{H:Hp}(ha:Jv X.K=a6)(hx:x∈jt)(R:Rep X.K ρ σ H)(h:ρ[i]?=a4 (.raw a o x)):σ[i]?=a4 (a4 (.ref a))/\H a=a4 (.frz o (.own a))/\∃C,o.cls=.ref C/\ExOne X.K x C:=by obtain⟨q,z⟩:=R.raw i a o x h;obtain⟨z,n⟩:=z.resolve_left λe=>absurd (e▸hx) (by decide);obtain⟨C,e,F⟩:=Vw ha hx n;exact⟨q,(of_del z).2,C,e,F⟩
theorem DE.isxV (ha:Jv X.K=a6) (hx:x∈jt) (h:ρ[i]?=a4 (.raw a o x)) (hm:X.mg "isinstance" = a7) (hT:X.mg "ValueError" = a7) (hN:X.N[i]?=a4 y) (hv:Vis X.env.scope y) (hd:(y==k81)=a5) (hcd:(y==k82)=a5)
  (hg:Gl X "isinstance") (hg2:Gl X "ValueError") (hs:a8 [.Name y p1,.Name "ValueError" p2] X.env=(a5,az (.Name y p1) X.env)::a8 [.Name "ValueError" p2] X.env) (hs2:a8 [.Name "ValueError" p2] X.env=(a5,az (.Name "ValueError" p2) X.env)::a8 [] X.env)
  (hpl:(aO pos (a8 [.Name "ValueError" p2] X.env)).any (·.1)=a5):DE X ρ (.Call (.Name "isinstance" p) [.Name y p1,.Name "ValueError" p2] [] pos) (.bl a6):=λσ H Q R q=>by
 obtain⟨q1,q2,C,e,F⟩:=Ia ha hx R h;exact(zb Cm hg hm cZ (j9 (v7 hN hv hd hcd) (j9 (Lw hg2 hT (by decide +kernel)) jl hs2) hs) (by decide) (by decide) hs hpl).to ⟨.ref a,q1,a,o,C,.ty "ValueError",.type "ValueError",a6,rfl,q2,e,F.ok,λu' r=>r,F.val,q _ H (j4.refl H) rfl⟩
theorem DE.isx1 {v:aa} (ha:Jv X.K=a6) (hx:x∈jt) (h:ρ[i]?=a4 (.raw a o x)) (hm:X.mg "isinstance" = a7) (hc:c∈jt) (hn:W.nsIn X.K aq c=a4 (a4 v)) (hT:X.mg c=a4 v) (hN:X.N[i]?=a4 y) (hv:Vis X.env.scope y) (hd:(y==k81)=a5) (hcd:(y==k82)=a5)
  (hg:Gl X "isinstance") (hg2:Gl X c) (hdb:(c==k81)=a5) (hs:a8 [.Name y p1,.Name c p2] X.env=(a5,az (.Name y p1) X.env)::a8 [.Name c p2] X.env) (hs2:a8 [.Name c p2] X.env=(a5,az (.Name c p2) X.env)::a8 [] X.env)
  (hpl:(aO pos (a8 [.Name c p2] X.env)).any (·.1)=a5):DE X ρ (.Call (.Name "isinstance" p) [.Name y p1,.Name c p2] [] pos) (.bl (x==c)):=λσ H Q R q=>by
 obtain⟨q1,q2,C,e,F⟩:=Ia ha hx R h;obtain⟨C',rfl,_⟩:=Vw ha hc hn;exact(zb Cm hg hm cZ (j9 (v7 hN hv hd hcd) (j9 (Nq (v:=.ref C') hg2 hT rfl hdb) jl hs2) hs) (by decide) (by decide) hs hpl).to ⟨.ref a,q1,a,o,C,.ref C',.ref C',x==c,rfl,q2,e,F.ok,λu' r=>r,F.one c hc _ hn,q _ H (j4.refl H) rfl⟩
end
structure KindsP(P:ar)(w:aA)(K:k7x)(mg:k80)(base:aE)(f x:af)(l:List D):Prop where
 ex:∃fa:ae,mg f=a4 (.ref fa)/\W.keepIn K (.ref fa)=a6/\∀(A:aD)(outer:List cu)(s:ah)(H:Hp)(e:ae)(o:cb),A.depth+4<bD->A.units+150<aU->Env0 P w K mg base A outer s H->TabOk K H ->
  H e=a4 (.frz o (.own e))->W.nsIn K aq x=a4 (a4 o.cls) ->
  c9 (ay P w) A (.call (.ref fa) ⟨[.ref e],[]⟩) (CR CX0 outer P w H s (λv H'=>∃a xs,v=.ref a/\j4 H H'/\H a=a7/\H' a=a4 (.lst xs)/\j5 K (del H' [a]) l xs) E0) s
 nl:qb l=a6
abbrev Kinds(X:Cx)(f x:af)(l:List D):Prop:=KindsP X.prog X.w X.K X.mg X.base f x l
section
variable{X:Cx}{ρ:Rho}{i j:Nat}{e:ae}{o:cb}{f x n k A:af}{l:List D}{P:Po}{body:List aJ}{p p1 p2 p3 p4 p5 pos hpos:aK}
theorem DO.kinds (c:Kinds X f x l) (hx:x∈jt) (h:ρ[j]?=a4 (.raw e o x)) (hdp:X.A.depth+4<bD) (hun:X.A.units+150<aU) (hg:Gl X f) (hdb:(f==k81)=a5) (hN:X.N[j]?=a4 n) (hv:Vis X.env.scope n) (hd:(n==k81)=a5) (hcd:(n==k82)=a5)
  (he:a8 [.Name n p1] X.env=(a5,az (.Name n p1) X.env)::a8 [] X.env) (hpl:(aO p2 (a8 [] X.env)).any (·.1)=a5):DO X ρ (.Call (.Name f p) [.Name n p1] [] p2) l:=λσ H Q R q pins s I=>by
 obtain⟨fa,hm,hk,run⟩:=c.ex;obtain⟨q1,q2⟩:=R.raw j e o x h;obtain⟨q2,q3⟩:=q2.resolve_left λe=>absurd (e▸hx) (by decide);refine bh (Zf I hg hm ?_ hdb);refine W.callWith_K (h₀:=X.base) I.ok.mod.kin hk (thn ((j9 (v7 hN hv hd hcd) jl he).to (σ:=σ) (H:=H) (Q:=λvs H1=>vs=[.ref e]/\H1=H) ⟨.ref e,q1,rfl,rfl⟩ p2 pins s I) λus s1 ⟨vs,H1,I1,r,e1,e2⟩=>⟨I1.kIn,?_⟩) he hpl;subst e1 e2;obtain⟨u,eu,r1⟩:=vals1 r;subst eu;cases(show u=aF e from r1);refine jG (bU (run X.A X.stack s1 H1 e o hdp hun I1.env0 R.tb (of_del q2).2 q3) λr s' hq=>?_);cases r with
 |error e=>exact hq.elim
 |ok fl =>
  cases fl with
  |ret u =>
   obtain⟨v,H',I',rv,a,xs,ev,g,na,m,en⟩:=I1.after hq;refine⟨v,H',I',rv,?_⟩;subst ev;exact q a xs H' g na m ((en.mono q8).hide (λc hc=>by
    rcases xn.mp hc with z|z
    .rw[z];exact .inl ⟨xs,m⟩
    .exact .inl ((R.grow g).owned c z)) c.nl)
  |next=>exact aS hq
  |brk=>exact aS hq
  |cont=>exact aS hq
theorem caught{pins:k7z}{σ:St}{H H0:Hp}{s:ah}{C:aa}{E:Ends}{ρ0:Rho}(ha:Jv X.K=a6)(hx:x∈jt)(hns:W.nsIn X.K aq x=a4 (a4 C))(c:Kinds X f x l)(hst:X.stack=X.env::X.outer)(hfm:X.env.frame=a4 X.env.locals)
  (hdp:X.A.depth+4<bD) (hun:X.A.units+150<aU) (I:Inv X pins σ H s) (R:Rep X.K ρ σ H) (Fe:FlQ (flF X.env) (Old X pins) H s.heap e C) (q:EndsOk X ρ0 H0 P E) (f0:Fr0 ρ0 ρ H0 H)
  (hP:∀oe a,P.nx (((ρ.set j (.raw e oe x)).set i (.own a l)).set j .un)) (hND:X.N.Nodup) (hgA:Gl X "AskError")
  (hg:Gl X f) (hdb:(f==k81)=a5) (hN:X.N[j]?=a4 n) (hlo:X.env.scope.names.lookup n=a4 .local) (hd:(n==k81)=a5) (hcd:(n==k82)=a5)
  (hi:X.N[i]?=a4 k) (hxk:Loc X.env.scope k) (hfk:X.fn k=a6\/X.env.scope.names.lookup k=a4 .local) (hfn:X.fn n=a6\/X.env.scope.names.lookup n=a4 .local)
  (hs:aP (.Call (.Name f p) [.Name n p1] [] p2) (a4 (.Name k p3)) p4.line X.env=pure a5)
  (he:a8 [.Name n p1] X.env=(a5,az (.Name n p1) X.env)::a8 [] X.env) (hpl:(aO p2 (a8 [] X.env)).any (·.1)=a5) :
  ax (ay X.prog X.w) X.A (de (.ref e) X.env) (λ_ s₂=>ax (ay X.prog X.w) X.A (kv (.ref e) a7) (λ_ s₃ =>
   ax (ay X.prog X.w) X.A (handleBy (.ref e) X.env [.ExceptHandler (a4 (.Name "AskError" p5)) (a4 n) [.Assign [.Name k p3] (.Call (.Name f p) [.Name n p1] [] p2) p4] hpos]) (SP X pins E) X.xe s₃) X.xe s₂) X.xe s:=by
 obtain⟨Ca,rfl,F1⟩:=Vw ha hx hns;obtain⟨av,hav,hexm⟩:=F1.ask;have hma:X.mg "AskError" = a4 av:=W.mg_of I.mod.kin I.mod.glob hav;refine jby I hst hfm hfm Fe λh1 I1 F1'=>?_;refine j1l I1 F1' λh2 I2 F2=>?_;refine wpAny_handleBy_cons (codeAny_handlers_test (Zf (X:=X.hnd e) (Inv.toH I2) hgA hma ?_)) (by intro q;cases q);obtain⟨oe,vs,a0,T,oT,ts,hoe,hoc,_⟩:=F2.obj;refine(W.exm_one I2.kIn (hoc▸(PySem.W.Looks.ld hoe).andThen .now) hexm).here ?_;refine codeAny_handlers_suite_as (j1l (X:=X) I2 F2 λh3 I3 F3=>?_);obtain⟨oe,vs,a0,T,oT,ts,hoe,hoc,_⟩:=F3.obj;have I4:=I3.track hoe F3.new F3.free;have g4:j4 H (upd H e (.frz oe (.own e))):=j8 F3.free;have R4:=R.grow g4;have ho:del (upd H e (.frz oe (.own e))) (owns ρ) e=a4 (.frz oe (.own e)):=by rw[j7 (R.fresh F3.free)];exact jq
 have hcls:W.nsIn X.K aq x=a4 (a4 oe.cls):=by rw[hoc];exact hns
 refine W4 (v:=.ref e) I4 hND hN (.inl hlo) rfl (λs5 I5 _=>?_) hfn;have R5:Rep X.K (ρ.set j (.raw e oe x)) (σ.set j (a4 (.ref e))) (upd H e (.frz oe (.own e))):=R4.set_raw ho hcls;have hj:(ρ.set j (.raw e oe x))[j]?=a4 (.raw e oe x):=J1 (by
  have z:=(Xb.mp hN).1
  rw[<-R.len,I.len];exact z)
 have suite:DSs (X.hnd e) (ρ.set j (.raw e oe x)) [.Assign [.Name k p3] (.Call (.Name f p) [.Name n p1] [] p2) p4] { nx:=λρ3=>∃a,ρ3=(ρ.set j (.raw e oe x)).set i (.own a l),rt:=λ_=>False } :=
  DSs.last (DS.setO i (DO.kinds (X:=X.hnd e) ⟨c.ex,c.nl⟩ hx hj hdp hun hg hdb hN (.inl hlo) hd hcd he hpl) (λa=>⟨a,rfl⟩) hND hi hxk hs hfk)
 have run:=suite _ _ { nx:=λσ6 H6=>∃a,Rep X.K ((ρ.set j (.raw e oe x)).set i (.own a l)) σ6 H6/\Fr0 (ρ.set j (.raw e oe x)) ((ρ.set j (.raw e oe x)).set i (.own a l)) (upd H e (.frz oe (.own e))) H6,rt:=λ_ _=>False,bk:=λ_ _=>False,ct:=λ_ _=>False } R5
  ⟨λρ' σ' H' ⟨a,er⟩ R' f=>⟨a,er▸R',er▸f⟩,λ_ _ _ z=>z.elim,λ_ _ _ z=>z.elim,λ_ _ _ z=>z.elim,λ_ _ _ _ z=>z.elim⟩ pins s5 (Inv.toH I5)
 refine aZ run (λfl s6 h6=>?_) λ_ _ z=>z.elim;cases fl with
 |next =>obtain⟨σ6,H6,I6,a,R6,f6⟩:=h6;refine jcn (X:=X) (Inv.ofH I.ok I6) hND hN hlo λs7 I7=>?_;refine⟨_,H6,I7,q.nx _ _ H6 (hP oe a) R6.set_un ?_⟩;refine f0.trans (j4.trans (Fr0.grow g4) (j4.trans (Fr0.drop λb hb=>(jc rfl).subset hb) (j4.trans f6 (Fr0.drop λb hb=>(jc rfl).subset hb))))
 |ret u=>obtain⟨_,_,_,_,_,_,_,z⟩:=h6;exact z.elim
 |brk=>obtain⟨_,_,_,z⟩:=h6;exact z.elim
 |cont=>obtain⟨_,_,_,z⟩:=h6;exact z.elim
end
section
variable{X:Cx}{ρ:Rho}{i j:Nat}{f n k:af}{P:Po}{body:List aJ}{p p1 p2 p3 p4 p5 pos hpos:aK}
noncomputable def Po.caught(P:Po)(X:Cx)(f:af)(i j:Nat):Po:={ P with ex:=λx ρ'=>x∈jt/\(∃o,W.nsIn X.K aq x=a4 (a4 o))/\∃l,Kinds X f x l/\∀e oe a,P.nx (((ρ'.set j (.raw e oe x)).set i (.own a l)).set j .un) }
theorem DS.tryK(hb:∀pn xe,dP (ay X.prog X.w) X.A X.env xe->DSs { X with pn:=pn,xe:=xe } ρ body (P.caught X f i j))(ha:Jv X.K=a6)(hst:X.stack=X.env::X.outer)(hfm:X.env.frame=a4 X.env.locals)(hdp:X.A.depth+4<bD)(hun:X.A.units+150<aU)
  (hND:X.N.Nodup) (hgA:Gl X "AskError") (hg:Gl X f) (hdb:(f==k81)=a5) (hN:X.N[j]?=a4 n) (hlo:X.env.scope.names.lookup n=a4 .local) (hd:(n==k81)=a5) (hcd:(n==k82)=a5)
  (hi:X.N[i]?=a4 k) (hxk:Loc X.env.scope k) (hfk:X.fn k=a6\/X.env.scope.names.lookup k=a4 .local) (hfn:X.fn n=a6\/X.env.scope.names.lookup n=a4 .local)
  (hs:aP (.Call (.Name f p) [.Name n p1] [] p2) (a4 (.Name k p3)) p4.line X.env=pure a5)
  (he:a8 [.Name n p1] X.env=(a5,az (.Name n p1) X.env)::a8 [] X.env) (hpl:(aO p2 (a8 [] X.env)).any (·.1)=a5) :
  DS X ρ (.Try body [.ExceptHandler (a4 (.Name "AskError" p5)) (a4 n) [.Assign [.Name k p3] (.Call (.Name f p) [.Name n p1] [] p2) p4] hpos] [] [] pos) P:=λσ H E R q pins s I=>by
 refine wpAny_Try_except ?_;refine aZ (hb (X.pn++pins) (λe s₁=>ax (ay X.prog X.w) X.A (de e X.env) (λ_ s₂=>ax (ay X.prog X.w) X.A (kv e a7) (λ_ s₃ =>
   ax (ay X.prog X.w) X.A (handleBy e X.env [.ExceptHandler (a4 (.Name "AskError" p5)) (a4 n) [.Assign [.Name k p3] (.Call (.Name f p) [.Name n p1] [] p2) p4] hpos]) (SP X pins E) X.xe s₃) X.xe s₂) X.xe s₁) PassesOwn.looking
  σ H E R ⟨q.nx,q.bk,q.ct,q.rt,λx ρ' σ' H' hP R' f'=>?_⟩ [] s I.toPn) (λfl s1 h1=>?_) λ_ _ z=>z
 .obtain⟨hx,⟨o,ho⟩,l,kd,hnx⟩:=hP;intro pins' H2 s' e C I' g hm Fe;have I2:Inv X pins σ' H2 s':=Inv.ofPn I';have hm2:X.mg x=a4 o:=W.mg_of I2.mod.kin I2.mod.glob ho;cases(show a4 C=a4 o from(show X.mg x=a4 C from hm).symm.trans hm2);exact caught ha hx ho kd hst hfm hdp hun I2 (R'.grow g) (FlQ.up Fe (λ_ z=>z) λb hb=>hb.toPn) q (f'.trans (Fr0.grow g)) (λoe a=>hnx e oe a) hND hgA hg hdb hN hlo hd hcd hi hxk hfk hfn hs he hpl
 .cases fl with
  |next =>obtain⟨σ',H',I',z⟩:=h1;exact(Ra (X:=X)).to z pins s1 (Inv.ofPn I')
  |ret u =>obtain⟨v,σ',H',H2,I',r,x2,z⟩:=h1;exact⟨v,σ',H',H2,Inv.ofPn I',r,x2,z⟩
  |brk=>obtain⟨σ',H',I',z⟩:=h1;exact⟨σ',H',Inv.ofPn I',z⟩
  |cont=>obtain⟨σ',H',I',z⟩:=h1;exact⟨σ',H',Inv.ofPn I',z⟩
end
section
variable{P:ar}{w:aA}{K:k7x}{mg:k80}{base:aE}{f:ae}{g x pn:af}{st:aJ}{fd:aG}{N:List af}{l:List D}
theorem jbk{H:Hp}{e:ae}{o:cb}(tb:TabOk K H)(hN:1<=N.length)(h:H e=a4 (.frz o (.own e)))(hx:W.nsIn K aq x=a4 (a4 o.cls)):Rep K (.raw e o x::ao (N.length-1) .un) (start N [.ref e]) H:=by
 have ho:owns (.raw e o x::ao (N.length-1) .un)=[]:=by
  rw[jh];show owns _=[]
  exact List.filterMap_eq_nil_iff.mpr λs hs=>by rw[(T7.mp hs).2];rfl
 have un:∀(i:Nat)(s:Sl),(.raw e o x::ao (N.length-1) .un:Rho)[i]?=a4 s->(i=0/\s=.raw e o x)\/s=.un:=λi s q=>by
  cases i with
  |zero=>rw[dn]at q;cases q;exact .inl ⟨rfl,rfl⟩
  |succ i=>rw[tu]at q;exact .inr (T7.mp (Xl q)).2
 refine⟨by unfold start;simp,λi d q=>?_,λi a ds q=>?_,by rw[ho];exact jC,λi a o' x' q=>?_,tb⟩
 .rcases un i _ q with ⟨_,z⟩|z<;>cases z
 .rcases un i _ q with ⟨_,z⟩|z<;>cases z
 .rcases un i _ q with ⟨z,z2⟩|z
  .cases z2;subst z;exact⟨rfl,.inr ⟨by rw[ho,v8];exact h,hx⟩⟩
  .cases z
theorem kinds_of(F:Fun K g g st f fd)(Sc:FnScope N [pn] (j0 st))(hbd:Binds K fd [pn] [])(hm:mg g=a4 (.ref f))(hN:1<=N.length)(hnl:qb l=a6)
  (hbody:∀(cdv:aa)(A:aD)(outer:List cu)(s:ah)(H:Hp)(e:ae)(o:cb),A.depth+4<bD->A.units+150<aU ->
   DSs { (jx CX0 P w K mg base N g (j0 st) f cdv A outer s H E0).nox with calm:=a5 } (.raw e o x::ao (N.length-1) .un) (jb st) { nx:=λ_=>False,rt:=λr=>r=.fresh l }):KindsP P w K mg base g x l:=by
 refine⟨⟨f,hm,F.kp,λA outer s H e o hdp hun e0 tb he hx=>?_⟩,hnl⟩;obtain⟨oc,od,dV,kV,doc,pm,an,cdv,ct,osl,rfl,lk,hcd⟩:=F.ex;have KX:K.In s.heap:=e0.mod.kin.keeps λb o e=>(e0.bs b o e).1;have lim:s.heap.NoLimit:=e0.mod.nolimit.keeps λb o e=>(e0.bs b o e).1;have hb:=hbd s [.ref e] KX rfl;have hkind:∀y∈[pn].zip [aF e],(j0 st).names.lookup y.1=a4 .local\/((j0 st).names.lookup y.1=a4 .cell/\((aQ (s.heap.objs.size+1) (j0 st).names []).lookup y.1).isSome=a6):=λ⟨n,v⟩ hy=>by
  rcases Sc.par n (cC hy).1 with q|q
  .exact .inl q
  .exact .inr ⟨q,W.cellsFrom_some _ _ _ (.inl q)⟩
 refine iN nofun (KX _ _ lk) rfl Sc.co Sc.gen rfl (W.codeRec_of KX hcd) (hb _ _ _ _ ?_);refine gO Sc.kind hkind λenv henv s1 x1=>?_;subst henv;refine⟨lim.keeps x1.toInCall.keep,codeAny_func ?_⟩;have I:Inv { jx CX0 P w K mg base N g (j0 st) f cdv A outer s H E0 with calm:=a5 } [] (start N [.ref e]) H s1:=Dr Sc a5 (λz=>by cases z) e0 rfl (.cons rfl .nil) x1;have I':Inv { (jx CX0 P w K mg base N g (j0 st) f cdv A outer s H E0).nox with calm:=a5 } [] (start N [.ref e]) H s1 :=
  ⟨⟨I.ok.mod,I.ok.kind,I.ok.glob,I.ok.blt,I.ok.above,I.ok.inj,I.ok.has,I.ok.cab,I.ok.hd,I.ok.frames,I.ok.stk,I.ok.exf,I.ok.bs,I.ok.bsz,I.ok.noex,I.ok.exfs,I.ok.funs,I.ok.frf⟩,
   I.os,I.bare,I.base,I.loc,I.cell,I.free,I.freeC,I.pin,I.hok,I.len⟩
 have ho:owns (.raw e o x::ao (N.length-1) .un)=[]:=by
  rw[jh];show owns _=[]
  exact List.filterMap_eq_nil_iff.mpr λs hs=>by rw[(T7.mp hs).2];rfl
 have run:=hbody cdv A outer s H e o hdp hun (start N [.ref e]) H { nx:=λ_ _=>False,bk:=λ_ _=>False,ct:=λ_ _=>False,rt:=λv H'=>∃a xs,v=.ref a/\j4 H H'/\H a=a7/\H' a=a4 (.lst xs)/\j5 K (del H' [a]) l xs } (jbk tb hN he hx)
  ⟨λ_ _ _ z=>z.elim,λ_ _ _ z=>z.elim,λ_ _ _ z=>z.elim,(λr v H' n z=>by
   cases(show r=.fresh l from n)
   obtain⟨a,xs,e,g,m,en⟩:=z
   rw[ho,v8]at g
   refine⟨a,xs,e,g.trans q8,?_,m,en⟩
   cases y:H a with
   |none=>rfl
   |some o=>have:=g a o y;rw[z9 (X6.mpr rfl)]at this;cases this),λ_ _ _ _ z=>z.elim⟩ [] s1 I'
 refine aZ run (λfl s' hs=>?_) λ_ _ z=>z.elim;cases fl with
 |ret u =>obtain⟨v,σ',H',H2,J,rv,x,q⟩:=hs;exact⟨v,H2,J.os,J.bare,(J.extOut x).2 rfl,(J.extOut x).1,rv,q⟩
 |next=>obtain⟨_,_,_,q⟩:=hs;exact q.elim
 |brk=>obtain⟨_,_,_,q⟩:=hs;exact q.elim
 |cont=>obtain⟨_,_,_,q⟩:=hs;exact q.elim
end
section
variable{X:Cx}
def jkz:V->Option Int->Option Int->Hp->VK->Prop:=λx lo hi H Q=>∃z,x=.str z/\z.length<=ak/\Q (.str (bc z lo hi)) H
theorem part_of{v:aa}{o:Option Int}(h:eR v o):∃l:Option (Int×jL),v=partValue l/\l.map (·.1)=o:=by
 cases h with
 |none=>exact⟨a7,rfl,rfl⟩
 |int i t=>exact⟨a4 (i,t),rfl,rfl⟩
theorem jdz:SlR X jkz:=by intro pins s σ H x v vl vu lo hi sl Q I rx hs pl pu h;obtain⟨z,ex,hz,q⟩:=h;subst ex;obtain⟨t,ev⟩:=rx;subst ev;obtain⟨l,el,ml⟩:=part_of pl;obtain⟨u,eu,mu⟩:=part_of pu;subst el eu ml mu;obtain⟨o,h1,h2,h3⟩:=hs;refine⟨"str",_,PySem.F.slot_str_getitem.lookup,fm s z t,wpAny_getItem_str_slice (l:=l) (u:=u) (st:=a7) ⟨o,h1,h2,h3⟩ rfl ?_⟩;exact post_val_or_str ⟨Xf (Txt.slice_le z _ _) hz,λt' k=>⟨.str _,H,I.tok k,⟨_,rfl⟩,q⟩⟩
theorem j12:∀{ts:List af}{us:List aa},Vals (ts.map V.str) us->∃l:List (af×jL),us=strValues l/\l.map (·.1)=ts
 |[],_,r=>by cases r;exact⟨[],rfl,rfl⟩
 |t::ts,_,r=>by
  cases r with
  |cons a b =>obtain⟨k,e⟩:=a;obtain⟨l,e1,e2⟩:=j12 b;subst e e1 e2;exact⟨(t,k)::l,rfl,rfl⟩
theorem jbz:MtR X "str.join" (λx vs H Q=>∃(sep:af)(l:ae)(ts:List af),x=.str sep/\vs=[.ref l]/\SqL X.K H l (ts.map V.str)/\eQ sep ts=a6/\Q (.str (dU sep ts)) H):=by rintro pins s σ H x vs v us Q I rx rv ⟨sep,l,ts,e,e',sq,hok,q⟩;subst e e';obtain⟨t,ev⟩:=rx;subst ev;obtain⟨u,eu,ru⟩:=rv.one;subst eu;cases ru;obtain⟨its,ri,pl,_⟩:=I.list sq;obtain⟨ps,e1,e2⟩:=j12 ri;subst e1 e2;unfold eQ at hok;rw[eU]at hok;exact bB ia (fm _ _ _) F.entry_str_join (F.args_str_join_2 _ _) (meets_str_join_list sep t l ps hok) ⟨pl.isList,post_join ps ⟨joinFit_length hok,λt' k=>⟨.str _,H,I.tok k,⟨_,rfl⟩,q⟩⟩⟩
theorem j5w (hc:X.calm=a6):vm X (.builtin "sum") (λxs H Q=>∃(lst:Bool)(l:ae)(ns:List Int),xs=[.ref l]/\SqB X.K lst H l (ns.map V.int)/\Q (.int ns.sum) H):=by
 rintro pins s σ H xs us Q I r ⟨lst,l,ns,e,sq,q⟩;subst e;obtain⟨u,eu,ru⟩:=vals1 r;subst eu;cases ru;obtain⟨its,rv,pl,_⟩:=I.side sq;have hl:its.length=ns.length:=by rw[<-rv.length,xj]
 have val:∀i v,its.toArray[i]?=a4 v->∃t,v=bx (ns.getD i 0) t:=by
  intro i v hv;have hi:i<its.length:=by obtain⟨h,_⟩:=Array.getElem?_eq_some_iff.mp hv;simpa using h
  have hi':i<ns.length:=by omega
  obtain⟨w1,hw,rw1⟩:=rv.get (x:=.int (ns.getD i 0)) (i:=i) (by rw[xx,kh hi',xf,kh hi'];rfl);have:its.toArray[i]?=a4 w1:=by simpa using hw
  rw[this]at hv;cases hv;exact rw1
 have tot:preSum (λi=>ns.getD i 0) its.toArray.size=ns.sum:=by rw[preSum_getD,Tf (by rw[xu];omega)]
 have fin:∀(o:cb)(s':ah)(t':jL),Moved [s.heap.objs.size] (λa b=>b=a) { s with heap:=s.heap.push o } s'->EP X pins σ Q (.int (preSum (λi=>ns.getD i 0) its.toArray.size) t') s':=λo s' t' mv=>by obtain⟨hh,gg,dd,tt,oo⟩:=s';obtain⟨m1,m2,m3,m4,m5⟩:=mv;cases m2;cases m3;cases m4;rw[tot];refine⟨.int _,H,I.kept (t':=tt) λb o e=>m1 b o ?_ (X8 _ e),⟨_,rfl⟩,q⟩;intro z;rw[X6.mp z]at e;exact Pj _ (xr e)
 unfold qj at pl;cases lst with
 |true =>
  rw[if_pos rfl]at pl;have hlt:l<s.heap.objs.size:=by obtain⟨_,e,_⟩:=pl;exact xr e
  refine jX (cB pl ⟨s.heap.objs.size,[s.heap.objs.size,l],[s.heap.objs.size],_,its.toArray.size,_,_,λi=>ns.getD i 0,rfl,(Walks.list (A:=X.A.in1) (I.ok.hd hc) _ _ (Xj hlt) its.toArray).toS,⟨⟨_,Xi _ rfl,rfl,rfl⟩,pl.push _⟩,?_,val,λs' t' mv=>fin _ s' t' mv⟩);intro b hb;show b<(s.heap.push _).objs.size;rw[bJ];rcases xn.mp hb with z|z
  .rw[z];exact fv _
  .rw[X6.mp z];exact dh hlt
 |false =>
  rw[if_neg xm]at pl;have hlt:l<s.heap.objs.size:=by obtain⟨_,e,_⟩:=pl;exact xr e
  refine jX (fj pl ⟨s.heap.objs.size,[s.heap.objs.size,l],[s.heap.objs.size],_,its.toArray.size,_,_,λi=>ns.getD i 0,rfl,(Walks.tuple (A:=X.A.in1) (I.ok.hd hc) _ _ (Xj hlt) its.toArray).toS,⟨⟨_,Xi _ rfl,rfl,rfl⟩,pl.push _⟩,?_,val,λs' t' mv=>fin _ s' t' mv⟩);intro b hb;show b<(s.heap.push _).objs.size;rw[bJ];rcases xn.mp hb with z|z
  .rw[z];exact fv _
  .rw[X6.mp z];exact dh hlt
end
section
variable{X:Cx}{ρ:Rho}{a b e:ai}{ds:List D}{i j:Int}{pos p p1 p2:aK}{y z:af}{lo hi:Option ai}{l u:Option Int}
theorem Yi{K:k7x}{H:Hp}:∀{ts:List af}{xs:List V},j5 K H (ts.map D.str) xs->xs=ts.map V.str
 |[],_,h=>h
 |t::ts,_,⟨x,r,e,h,l⟩=>by subst e;cases(show x=.str t from h);rw[Yi l];rfl
theorem Va{K:k7x}{H:Hp}:∀{ts:List Int}{xs:List V},j5 K H (ts.map D.int) xs->xs=ts.map V.int
 |[],_,h=>h
 |t::ts,_,⟨x,r,e,h,l⟩=>by subst e;cases(show x=.int t from h);rw[Va l];rfl
theorem DE.lenS (ha:DT X ρ a (.str y)) (hy:y.length<=ak) (hm:X.mg "len" = a7) (hg:Gl X "len") (hs:a8 [a] X.env=[(a5,az a X.env)]):DE X ρ (.Call (.Name "len" p) [a] [] pos) (.int y.length):=λσ H Q R q =>(zb j09 hg hm fP (j9 peS jl hs) (by decide) (by decide) hs).to (ha σ H _ R λv H1 g1 e1=>⟨y,by rw[show v=.str y from e1],hy,q _ H1 g1 rfl⟩)
theorem DE.catS(ha:DT X ρ a (.str y))(hb:DT X ρ b (.str z))(hl:y.length+z.length<=ak):DE X ρ (.BinOp a .Add b pos) (.str (y++z)):=λσ H Q R q =>(Y9 j2n peS peS).to (ha σ H _ R λv H1 g1 e1=>hb σ H1 _ (R.grow g1) λu H2 g2 e2=>⟨y,z,e1,e2,hl,q _ H2 (g1.trans g2) rfl⟩)
theorem DE.ixC{c:Nat}(ha:DT X ρ a (.str y))(hb:DT X ρ b (.int i))(hy:y.length<=ak)(h:L2.atI y.cps.toList i=a4 c)(hs:Ro b):DE X ρ (.Subscript a b pos) (.str ⟨#[c]⟩):=λσ H Q R q =>(Lx jg1 peS peS hs).to (ha σ H _ R λv H1 g1 e1=>hb σ H1 _ (R.grow g1) λu H2 g2 e2=>⟨y,i,c,e1,e2,hy,h,q _ H2 (g1.trans g2) rfl⟩)
theorem DE.sliceS(ha:DT X ρ a (.str y))(hl:DP X ρ lo l)(hu:DP X ρ hi u)(hy:y.length<=ak):DE X ρ (.Subscript a (.Slice lo hi a7 p2) pos) (.str (bc y l u)):=λσ H Q R q =>(Mj jdz peS poS poS).to (ha σ H _ R λv H1 g1 e1=>hl σ H1 _ (R.grow g1) λH2 g2=>hu σ H2 _ (R.grow (g1.trans g2)) λH3 g3=>⟨y,e1,hy,q _ H3 (g1.trans (g2.trans g3)) rfl⟩)
theorem DE.int1 {k:Bool} (ha:DT X ρ a (.bl k)) (hm:X.mg "int" = a7) (hg:Gl X "int") (hs:a8 [a] X.env=[(a5,az a X.env)]):DE X ρ (.Call (.Name "int" p) [a] [] pos) (.int (if k then 1 else 0)):=λσ H Q R q =>(Yb j64 hg hm boot_int (j9 peS jl hs) (by decide) (by decide) hs).to (ha σ H _ R λv H1 g1 e1=>.inr ⟨k,by rw[show v=.bl k from e1],q _ H1 g1 rfl⟩)
theorem DE.sum (lst:Bool) {ns:List Int} (ha:DT X ρ a (D.seq lst (ns.map D.int))) (hm:X.mg "sum" = a7) (hc:X.calm=a6) (hg:Gl X "sum") (hs:a8 [a] X.env=[(a5,az a X.env)]):DE X ρ (.Call (.Name "sum" p) [a] [] pos) (.int ns.sum):=λσ H Q R q =>
 (zb (j5w hc) hg hm boot_sum (j9 peS jl hs) (by decide) (by decide) hs).to (ha σ H _ R λv H1 g1 e1=>by
  obtain⟨t,xs,ev,sq,en⟩:=Zi e1
  subst ev
  rw[Va en]at sq
  exact⟨lst,t,ns,rfl,sq,q _ H1 g1 rfl⟩)
theorem DE.join{sep:af}{ts:List af}{n:Nat}{p0:aK}(ha:DT X ρ a (.lst (ts.map D.str)))(hok:eQ sep ts=a6)
  (hfew:((aO p2 (a8 [a] X.env)).all (λx=>!x.1)&&(bo p2 (aT [] X.env)).all (λx=>x.1.isSome)&&decide (([a]:List ai).length+([]:List aR).length+(if ([]:List aR).isEmpty then 0 else 1)<30))=a6)
  (hbase:aM (.Constant (.str sep) n p0) "join" X.env (az (.Constant (.str sep) n p0) X.env)=az (.Constant (.str sep) n p0) X.env)
  (hline:(p1.endLine==p2.line)=a6) (hs:a8 [a] X.env=(a5,az a X.env)::a8 [] X.env):DE X ρ (.Call (.Attribute (.Constant (.str sep) n p0) "join" p1) [a] [] p2) (.str (dU sep ts)):=λσ H Q R q =>
 (Yc PySem.F.plainAttrs_str ia PySem.F.type_str_join jbz j4h (j9 peS jl hs) hbase hfew hline hs rfl).to ⟨rfl,ha σ H _ R λv H1 g1 ⟨t,xs,e,sq,en⟩=>⟨sep,t,ts,rfl,by rw[e],by rw[Yi en]at sq;exact sq,hok,q _ H1 g1 rfl⟩⟩
end
section
variable{prog:ar}{w:aA}{A:aD}{lst:Bool}{j t:ae}{its:Array aa}
theorem j34(hh:A.handled=a7)(hne:t≠j):Draws prog w A j [j,t] its.size (λi v=>its[i]?=a4 v) (λi h=>qw lst h j t i/\qj lst h t its) where
 live:=λ_ _ st=>by obtain⟨o,e,_⟩:=st.1.obj;exact⟨o,e⟩
 frame:=λ_ h h' st hk=>⟨st.1.stay λo e=>hk j (by simp) o e,by
  have q:=st.2
  unfold qj at q ⊢
  cases lst with
  |true=>rw[if_pos rfl]at q ⊢;exact q.at λo e=>hk t (by simp) o e
  |false=>rw[if_neg xm]at q ⊢;exact q.at λo e=>hk t (by simp) o e⟩
 item:=λi s Q E hi st hQ=>j41 st.1 st.2 (y:=its[i]) (by simp[hi]) λh' hit' hs'=>hQ _ h' s.toks (by simp[hi]) ⟨hit',st.2.ext hs'.extBut hne⟩ hs'
 done:=λs Q E st hE=>Kr hh st.1 st.2 (by simp) hE
theorem j5h{n:Nat}(hh:A.handled=a7)(hne:t≠j)(hn:its[n]?=a7):Draws prog w A j [j,t] n (λi v=>its[i]?=a4 v) (λi h=>i=n/\qw lst h j t i/\qj lst h t its) where
 live:=λ_ _ st=>by obtain⟨o,e,_⟩:=st.2.1.obj;exact⟨o,e⟩
 frame:=λ_ h h' st hk=>⟨st.1,st.2.1.stay λo e=>hk j (by simp) o e,by
  have q:=st.2.2
  unfold qj at q ⊢
  cases lst with
  |true=>rw[if_pos rfl]at q ⊢;exact q.at λo e=>hk t (by simp) o e
  |false=>rw[if_neg xm]at q ⊢;exact q.at λo e=>hk t (by simp) o e⟩
 item:=λi s Q E hi st hQ=>absurd st.1 (Xj hi)
 done:=λs Q E st hE=>Kr hh st.2.1 st.2.2 hn hE
end
noncomputable abbrev eh2(h:aE)(lst:Bool)(t:ae):aE:=(zh1 h lst t).push { cls:=.type "enumerate",data:=.fields #[.none,.bool a5,.ref h.objs.size,jJ 0,.none,.none] }
theorem j8m {lst:Bool} (t:ae) (its:Array aa):lE (dX.«enumerate.__new__» ⟨[.type "enumerate",.ref t],[]⟩) (λ_ R s=>qj lst s.heap t its/\R (.ok (.ret (.ref (zh1 s.heap lst t).objs.size))) { s with heap:=eh2 s.heap lst t }) :=
 .of_wp λprog w A R s h=>by
  obtain⟨hp,g,d,tk,os⟩:=s;obtain⟨h1,h⟩:=h;have hsub:=sub_enumerate;have e1:qj lst (Shared.heap ⟨hp,g,d,tk,os⟩) t its:=h1;have ld:∃o:cb,hp.get? t=a4 o:=by
   unfold qj at e1;cases lst with
   |true=>rw[if_pos rfl]at e1;obtain⟨o,e,_⟩:=e1;exact⟨o,e⟩
   |false=>rw[if_neg xm]at e1;obtain⟨o,e,_⟩:=e1;exact⟨o,e⟩
  obtain⟨o,ho⟩:=ld
  wp_walk using bN ho
  refine wpAny_stack_any λstk=>?_;refine aC ?_;split
  .rename_i cl _ _ _ _ _;cases(cl==dr "enumerate")
   .wp_walk using bN ho,Wf e1
    exact⟨_,rfl,h⟩
   .wp_walk using bN ho,Wf e1
    exact⟨_,rfl,h⟩
  .wp_walk using bN ho,Wf e1
   exact⟨_,rfl,h⟩
noncomputable def Ite(K:k7x)(lst:Bool)(t:ae):It :=
 ⟨λi H=>∃xs x,SqB K lst H t xs/\xs[i]?=a4 x,
 λi H v H'=>∃p x,v=.ref p/\H p=a7/\H'=upd H p (.tup [.int (i:Int),x])/\∀xs,SqB K lst H t xs->xs[i]?=a4 x,
 λi H=>∃xs,SqB K lst H t xs/\xs.length<=i⟩
theorem j3q{P:ar}{w:aA}{K:k7x}{es:List ai}{n:Nat}{pos:aK}{lst:Bool}{z j t:ae}(hzj:z≠j)(hzt:z≠t)(htj:t≠j) :
  Turn P w K (.Tuple es n pos) (Ite K lst t) [z,j] z (λi h=>(∃old,IsEnum h z j (i:Nat) old)/\qw lst h j t i) where
 mem:=by simp
 obj:=λi h ⟨⟨old,hz⟩,h1⟩ c hc=>by
  simp at hc;rcases hc with rfl|rfl
  .exact⟨_,hz,λv e=>by cases e⟩
  .exact h1.obj
 keep:=λi h h' ⟨⟨old,hz⟩,h1⟩ k=>⟨⟨old,k z (by simp) _ hz⟩,h1.stay λo e=>k j (by simp) o e⟩
 item:=by
  rintro X hP hw hK hc i pins s σ H E I hf ⟨⟨old,hz⟩,h1⟩ ⟨xs,x,sx,hx⟩;subst hP hw hK;obtain⟨us,ru,qu,_⟩:=I.side sx;obtain⟨u,hu,rx⟩:=ru.get hx;have hlt:i<us.toArray.size:=by obtain⟨h,_⟩:=Xb.mp hu;simpa using h
  refine wpAny_pyNext_enum_itemD (j34 (A:=X.A.in1) (I.ok.hd hc) htj) hz ⟨h1,qu⟩ hlt hzj (by simp[hzj,hzt]) λv h' tk hv ho st ht sz kp=>⟨_,rfl,?_⟩
  have ev:u=v:=by
   have:us.toArray[i]?=a4 u:=by simpa using hu
   rw[this]at hv;exact aw hv
  subst ev;refine wpAny_letOwnedTupleGo_enum (s:={ s with heap:=h',toks:=tk+1 }) ho λh'' z'' sb=>?_
  replace sb:cK z h' h'':=sb
  have zlt:z<s.heap.objs.size:=xr hz;have kp':∀c o,c∉[z,j]->s.heap.get? c=a4 o->h''.get? c=a4 o:=λc o nc e=>by simp at nc;exact sb.extBut _ _ nc.1 (kp c o nc.1 nc.2 e)
  have pt:ik h'' s.heap.objs.size [.int i tk,u].toArray:=⟨_,sb.extBut _ _ (bS zlt) ht,rfl,_,rfl⟩
  have I2:=(I.chgT hf kp' (xs:=[.int (i:Int),x]) (.cons ⟨tk,rfl⟩ (.cons rx .nil)) (by show 2<=ak;decide) pt (Zq.of (sb.extBut _ _ (bS zlt) ht))).tok (tk+1);refine⟨.ref s.heap.objs.size,_,I2,rfl,⟨_,x,rfl,I.fresh,rfl,λws hw=>by rw[I.side_inj hw sx];exact hx⟩,⟨⟨u,?_⟩,st.1.ext sb.extBut (bF hzj)⟩,λc hc=>?_⟩
  .have e:((i+1:Nat):Int)=(i:Int)+1:=by push_cast;rfl
   rw[e];exact z''
  .obtain⟨o,e⟩:∃o,s.heap.get? c=a4 o:=by
    simp at hc;rcases hc with rfl|rfl
    .exact⟨_,hz⟩
    .obtain⟨o,e,_⟩:=h1.obj;exact⟨o,e⟩
   rw[je (Xj (xr e))];exact(hf c hc).1
 done:=by
  rintro X hP hw hK hc i pins s σ H E I hf ⟨⟨old,hz⟩,h1⟩ ⟨xs,sx,hend⟩;subst hP hw hK;obtain⟨us,ru,qu,_⟩:=I.side sx;have e1:=ru.length;have hn:us.toArray[i]?=a7:=by simp;omega
  refine wpAny_pyNext_enum_endD (j5h (A:=X.A.in1) (I.ok.hd hc) htj hn) hz ⟨rfl,h1,qu⟩ λh' kp=>⟨rfl,I.chg hf λc o nc e=>?_⟩
  simp at nc;exact kp c o nc.2 e
 self:=λ_ _ _ _ _ ⟨⟨old,hz⟩,_⟩ h=>jU hz h
section
variable{X:Cx}{ρ:Rho}{a b:ai}{es:List ai}{n:Nat}{pos p q1 q2:aK}{ds ds':List D}{lst:Bool}
noncomputable def Q8(ds:List D):List D:=ds.zipIdx.map λp=>D.tup [.int (p.2:Int),p.1]
theorem Du{i:Nat}:(Q8 ds)[i]?=(ds[i]?).map λd=>D.tup [.int (i:Int),d]:=by unfold Q8;rw[xx,List.getElem?_zipIdx];cases ds[i]?<;>simp
theorem j5a{K:k7x}{F:Hp}{t:ae}{xs:List V}(s1:SqB K lst F t xs)(e1:j5 K F ds xs):Uz K F (Ite K lst t) (Q8 ds):=λi H A g hA=>by
 have s1':SqB K lst H t xs:=q8.seqB (g.seqB s1);have hl:(Q8 ds).length=ds.length:=by unfold Q8;rw[xj,eJ]
 refine⟨λh=>?_,λh=>⟨xs,s1',?_⟩,λv H' ⟨p,x,ev,np,eH,hx⟩=>?_⟩
 .rw[hl]at h;obtain⟨x,hx,_⟩:=e1.get (kh h);exact⟨xs,x,s1',hx⟩
 .rw[hl]at h;rw[e1.length];exact h
 .subst eH;refine⟨j8 np,λd hd=>?_⟩;rw[Du]at hd;cases z:ds[i]? with
  |none=>rw[z]at hd;cases hd
  |some d1 =>rw[z]at hd;cases hd;obtain⟨x',hx',ex⟩:=e1.get z;have q1:=hx xs s1';rw[hx']at q1;have q1:=aw q1;subst q1;have pA:p∉A:=λz=>hA p z np;have gg:j4 F (del (upd H p (.tup [.int (i:Int),x'])) A):=g.trans (jf (j8 np));exact⟨p,[.int (i:Int),x'],ev,.inl (.inl (by rw[j7 pA];exact jq)),.int (i:Int),[x'],rfl,rfl,x',[],rfl,ex.mono gg,rfl⟩
theorem DI.enum (lst:Bool) (ha:DE X ρ a (D.seq lst ds)) (hm:X.mg "enumerate" = a7) (hg:Gl X "enumerate") (hs:a8 [a] X.env=[(a5,az a X.env)]):DI X ρ (.Tuple es n q1) (.Call (.Name "enumerate" p) [a] [] pos) (Q8 ds):=λσ H R r q pins s I=>by
 have args:W6 X [a] σ H (λvs H'=>∃v,vs=[v]/\j4 H H'/\Enc X.K (del H' (owns ρ)) (D.seq lst ds) v) :=
  (j9 peS jl hs).to (ha σ H _ r λv H1 g1 e1=>⟨v,rfl,g1,e1⟩)
 refine Call_ (Vp I hg hm boot_enumerate (callWith_type1 (thn (args pos pins s I) λus s1 h1=>?_) hs rfl));obtain⟨vs,H1,I1,r1,v,ev,g1,e1⟩:=h1;subst ev;obtain⟨t,xs,et,sq,en⟩:=Zi e1;subst et;obtain⟨u1,eu,ru1⟩:=r1.one;subst eu;cases ru1;obtain⟨w1,rw1,qw1,_⟩:=I1.side (q8.seqB sq);refine callType_new F.called_enumerate (by decide) (F.typeCall_enumerate_1 _) (F.newCall_enumerate_1 _) (λobj=>F.args_object_init_2 obj _) F.entry_enumerate_new (j8m (lst:=lst) t w1.toArray) ⟨qw1,?_⟩;have z1:(zh1 s1.heap lst t).objs.size=s1.heap.objs.size+1:=bJ ..;have b2:(eh2 s1.heap lst t).get? (zh1 s1.heap lst t).objs.size=a4 _:=Xi _ rfl;have b1:(eh2 s1.heap lst t).get? s1.heap.objs.size=a4 _:=X8 _ (Xi _ rfl);have kp:∀c o,s1.heap.get? c=a4 o->(eh2 s1.heap lst t).get? c=a4 o:=λc o e=>X8 _ (X8 _ e);show _/\_;rw[z1]at b2 ⊢;have I2:Inv X pins σ H1 { s1 with heap:=eh2 s1.heap lst t }:=I1.kept (t':=s1.toks) kp;have lt1:t<s1.heap.objs.size:=by
  unfold qj at qw1;cases lst with
  |true=>rw[if_pos rfl]at qw1;obtain⟨_,e,_⟩:=qw1;exact xr e
  |false=>rw[if_neg xm]at qw1;obtain⟨_,e,_⟩:=qw1;exact xr e
 have side:qw lst (eh2 s1.heap lst t) s1.heap.objs.size t 0:=by
  unfold qw;cases lst with
  |true=>rw[if_pos rfl];exact⟨_,b1,rfl,rfl⟩
  |false=>rw[if_neg xm];exact⟨_,b1,rfl,rfl⟩
 refine⟨⟨_,b2,rfl⟩,jU (s:={ s1 with heap:=eh2 s1.heap lst t }) b2 ?_⟩;refine⟨_,_,_,Ite X.K lst t,H1,rfl,I2,j3q (j:=s1.heap.objs.size) (Nat.succ_ne_self _) (bS (dh lt1)) (Xj lt1),⟨⟨_,b2⟩,side⟩,λc hc=>?_,q _ H1 g1 (j5a sq en)⟩;have hc':c=s1.heap.objs.size+1\/c=s1.heap.objs.size:=by simpa using hc
 have hge:s1.heap.objs.size<=c:=by rcases hc' with e|e<;>rw[e]<;>first|exact X7 _|exact Nat.le_add_right _ _
 obtain⟨f0,f1,f2,f3,f4,f5⟩:=I1.fpOk hge (I1.hok.fresh hge);exact⟨f0,f1,f2,f3,f4,f5⟩
end
section
variable{X:Cx}
theorem j7d:OpR X (b7 .FloorDiv) (rI (λ_ j=>0<j/\j<18446744073709551616) λi j=>.int (i/j)):=opI λi j _ _ _ _ _ hc q=>by
 have e:i/j=i.fdiv j:=by rw[fX _ nofun]
 refine floordiv_int nofun (by rw[<-e];exact q) (.inl (PyProof.noPylong_of_log2 ?_))
 have h2:(2:Nat)^64=18446744073709551616:=by decide
 have:=(l6 (n:=j.natAbs) (k:=64) nofun).mpr (by rw[h2];omega);omega
end
section
variable{X:Cx}{ρ:Rho}{a b e:ai}{d d':D}{ds:List D}{i j:Int}{pos p p1 p2:aK}{P:Po}
theorem DE.fdivB(ha:DT X ρ a (.int i))(hb:DT X ρ b (.int j))(h:0<j/\j<18446744073709551616):DE X ρ (.BinOp a .FloorDiv b pos) (.int (i/j)):=DE.arI (g:=λi j=>i/j) j7d ha hb h
end
section
variable{X:Cx}{ρ:Rho}{a b:ai}{es:List ai}{n:Nat}{pos p p1 p2 q1:aK}{ks:List (List Int)}{ds:List D}{k:List Int}
theorem any_range:∀bs:List Bool,(au bs.length).any (λi=>(bs[i]?).getD a6)=bs.any id
 |[]=>rfl
 |b::bs=>by rw[X4,dy,T5,gB,T5,<-any_range bs];rfl
theorem j0r (hc:X.calm=a6):vm X (.builtin "any") (λxs H Q=>∃(l:ae)(bs:List Bool),xs=[.ref l]/\SqL X.K H l (bs.map V.bl)/\Q (.bl (bs.any id)) H):=by
 intro pins s σ H xs us Q I r ⟨l,bs,e,sq,q⟩;subst e;obtain⟨u,eu,ru⟩:=vals1 r;subst eu;cases ru;obtain⟨its,rv,pl,_⟩:=I.list sq;have hlt:l<s.heap.objs.size:=by obtain⟨_,_,e,_⟩:=pl;exact xr e
 have hl:its.length=bs.length:=by rw[<-rv.length,xj]
 refine call_any_walk (cB pl.isList ⟨s.heap.objs.size,[s.heap.objs.size,l],[s.heap.objs.size],its.toArray.size,_,_,λi=>(bs[i]?).getD a6,rfl,Walks.list (A:=X.A.in1) (I.ok.hd hc) _ _ (Xj hlt) its.toArray,⟨⟨_,Xi _ rfl,rfl,rfl⟩,pl.isList.push _⟩,?_,λh' tk kp=>?_⟩)
 .intro i v s' Q' E' hv hq;have hi:i<its.length:=by have:=Array.getElem?_eq_some_iff.mp hv;obtain⟨h,_⟩:=this;simpa using h
  have hb:i<bs.length:=by omega
  obtain⟨w1,hw,rw1⟩:=rv.get (x:=.bl bs[i]) (i:=i) (by rw[xx,kh hb];rfl);have:its.toArray[i]?=a4 w1:=by simpa using hw
  rw[this]at hv;cases hv;cases rw1;simp only[kh hb,df]at hq;exact bf hq
 .have ev:(au its.toArray.size).any (λi=>(bs[i]?).getD a6)=bs.any id:=by rw[xu,hl];exact any_range bs
  rw[ev];refine⟨.bl _,H,I.kept (t':=tk) λb o e=>kp b o ?_ (X8 _ e),rfl,q⟩;intro z;rw[X6.mp z]at e;exact Pj _ (xr e)
theorem DE.any {bs:List Bool} (ha:DT X ρ a (.lst (bs.map D.bl))) (hm:X.mg "any" = a7) (hc:X.calm=a6) (hg:Gl X "any") (hs:a8 [a] X.env=[(a5,az a X.env)]):DE X ρ (.Call (.Name "any" p) [a] [] pos) (.bl (bs.any id)):=λσ H Q R q =>(zb (j0r hc) hg hm boot_any (j9 peS jl hs) (by decide) (by decide) hs).to (ha σ H _ R λv H1 g1 ⟨l,xs,e,sq,en⟩=>⟨l,bs,by rw[e],by rw[Mw en]at sq;exact sq,q _ H1 g1 rfl⟩)
theorem DS.unp{i j:Nat}{x y:af}{e:ai}{P:Po}{d d':D}(hij:i≠j)(he:DE X ρ e (.tup [d,d']))(h:P.nx ((ρ.set i (.val d)).set j (.val d')))(hc:X.calm=a6)(hN:X.N.Nodup)(hi:X.N[i]?=a4 x)(hj:X.N[j]?=a4 y)(hx:Loc X.env.scope x)(hy:Loc X.env.scope y)
  (fx:X.fn x=a6\/X.env.scope.names.lookup x=a4 .local) (fy:X.fn y=a6\/X.env.scope.names.lookup y=a4 .local)
  (hs:dC [.Tuple [.Name x p1,.Name y p2] n q1] e pos.line X.env=pure a5) (hw:dD [.Tuple [.Name x p1,.Name y p2] n q1] e X.env=pure a7) :
  DS X ρ (.Assign [.Tuple [.Name x p1,.Name y p2] n q1] e pos) P:=λσ H E R q=>by
 refine(j4c peS pgS hs hw).to (he σ H _ R λv H1 g1 e1=>?_);obtain⟨sub,hG⟩:=DG.pair (ρ:=ρ) (q1:=p1) (q2:=p2) (n:=n) (pos:=q1) (d:=d) (d':=d') i j hij hN hi hj hx hy fx fy hc;exact hG σ H1 v _ (R.grow g1) e1 λσ' R'=>q.nx _ σ' H1 h R' (j4.trans (Fr0.grow g1) (Fr0.drop sub))
end
noncomputable def j36:List (List Int)->List D->List Int->Option D
 |k'::ks,d::ds,k=>if k'=k then a4 d else j36 ks ds k
 |_,_,_=>a7
section
variable{X:Cx}{ρ:Rho}{it e1 e2:ai}{P:Po}{ds:List D}{x t y:Nat}{nx nt ny:af}{p1 p2 p3 p4 p5 p6 p10 p11 p12 p14 p16 p17 p18:aK}
theorem vo:∀ns:List Int,qb (ns.map D.int)=a6
 |[]=>rfl
 |n::ns=>by rw[X3,qb,vo ns];rfl
end
theorem By{M:g6}{A:aD}{E:k7y}{s:ah}{β:Type}{a b:Nat}(f:Nat->β->kZ (ForInStep β))(I:Nat->β->ah->Prop)(Q:β->ah->Prop)
  (turn:∀i c st,a<=i->i<b->I i c st->ax M A (f i c) (λr s'=>match r with|.yield c'=>I (i+1) c' s'|.done c'=>Q c' s') E st)
  (fin:∀c st,I (max a b) c st->Q c st) (c:β) (h:I a c s):ax M A (forIn [a:b] c f) Q E s:=by
 rw[Std.Legacy.Range.forIn_eq_forIn_range'];have hsz:([a:b]:Std.Legacy.Range).size=b-a:=by simp[Std.Legacy.Range.size]
 show ax M A (forIn (kH a ([a:b]:Std.Legacy.Range).size 1) c f) Q E s;rw[hsz];refine wpAny_forIn_list f (λl c st=>∃i,a<=i/\i<=max a b/\l=kH i (max a b-i) 1/\I i c st) Q ?_ ?_ _ c ⟨a,X7 _,by omega,by congr 1;omega,h⟩
 .rintro x rest c st ⟨i,hai,hib,hl,hI⟩;have hlt:i<max a b:=by
   rcases kF i (max a b)with h'|h'
   .exact h'
   .rw[show max a b-i=0 by omega]at hl;simp at hl
  obtain⟨n,hn⟩:∃n,max a b-i=n+1:=⟨max a b-i-1,by omega⟩
  rw[hn,iO]at hl;obtain⟨rfl,rfl⟩:=List.cons.inj hl;refine aZ (turn x c st hai nofun hI) (λr st' h'=>?_) λ_ _ h=>h;cases r with
  |done c'=>exact h'
  |yield c'=>exact⟨x+1,by omega,by omega,by congr 1;omega,h'⟩
 .rintro c st ⟨i,hai,hib,hl,hI⟩;have:i=max a b:=by
   rcases kF i (max a b)with h'|h'
   .obtain⟨n,hn⟩:∃n,max a b-i=n+1:=⟨max a b-i-1,by omega⟩
    rw[hn,iO]at hl;cases hl
   .omega
  subst this;exact fin c st hI
theorem Cw(l:ae)(items:Array aa)(n:Nat)(dd:Option ae)(sl:Array (Option aa))(x:aa)(e:aa->Bool)(k:Nat)(hk:k<items.size)(h0:∀(j:Nat)(h:j<items.size),j<k->e items[j]=a5)(h1:e items[k]=a6) :
  lE (dX.«tuple.index» ⟨[.ref l,x],[]⟩)
   (λA R s=>s.heap.get? l=a4 { cls:=.type "tuple",dict:=dd,data:=.seq items n,slots:=sl }/\(∀y,y∈items->cN A.in1 s y x (e y))/\R (.ok (.ret (.int k s.toks))) { s with toks:=s.toks+1 }) :=
 .of_wp λprog w A R s h=>by
  obtain⟨hp,g,d,tk,os⟩:=s;obtain⟨hl,he,h⟩:=h
  wp_walk using wpAny_loadPart' hl,By _ (λi b s'=>b.1=a7/\s'=⟨hp,g,d,tk,os⟩/\i<=k) _
  case turn =>
   rintro i c s'-hi ⟨hb,rfl,hik⟩;have hlt:i<items.size:=by omega
   have hy:items[i]?=a4 items[i]:=by simp[hlt]
   rw[hy];refine aj (he items[i] (Array.getElem_mem hlt) prog w _ _ ?_);by_cases z:i=k
   .subst z;rw[h1]
    wp_walk
    exact⟨_,rfl,h⟩
   .rw[h0 i hlt nofun]
    wp_walk
    exact⟨rfl,rfl,by omega⟩
  case fin =>rintro c s' ⟨hb,rfl,hik⟩;omega
  case h =>exact⟨rfl,rfl,T9 _⟩
section
variable{X:Cx}{ρ:Rho}{a e:ai}{l:List D}{d:D}{p1 pos:aK}
noncomputable def ixD(d:D):List D->Option Nat
 |[]=>a7
 |x::r=>if deq x d=a6 then a4 0 else(ixD d r).map (· + 1)
theorem Eh{d:D}:∀{l:List D}{k:Nat},ixD d l=a4 k->∃x,l[k]?=a4 x/\deq x d=a6/\∀j y,j<k->l[j]?=a4 y->deq y d=a5
 |[],k,h=>by cases h
 |x::r,k,h=>by
  unfold ixD at h;split at h
  .rename_i z;cases h;exact⟨x,rfl,z,λj y hj=>absurd hj (jA _)⟩
  .rename_i z;cases q:ixD d r with
   |none=>rw[q]at h;cases h
   |some m =>
    rw[q]at h;cases h;obtain⟨y,hy,e,f⟩:=Eh q;refine⟨y,hy,e,λj y hj hq=>?_⟩;cases j with
    |zero=>cases hq;simpa using z
    |succ j=>exact f j y (Nat.lt_of_succ_lt_succ hj) hq
theorem j4v (hu:X.A.units+100<aU):MtR X "tuple.index" (λx vs H Q=>∃t xs ds d y k,x=.ref t/\vs=[y]/\SqT X.K H t xs/\j5 X.K H ds xs/\Enc X.K H d y/\D.depL ds<=97/\d.dep<10000/\ixD d ds=a4 k/\Q (.int (k:Nat)) H):=by
 rintro pins s σ H x vs v us Q I rx rv ⟨t,xs,ds,d,y,k,e,e',sq,l,en,hd,nd,hk,q⟩;subst e e';cases rx;obtain⟨u,eu,ru⟩:=rv.one;subst eu;obtain⟨its,ri,⟨⟨cl,dd,da,sl⟩,h1,h2,n,h3⟩,_⟩:=I.tuple sq;have h2:cl=.type "tuple":=h2;have h3:da=.seq its.toArray n:=h3;subst h2 h3;obtain⟨z,hz,ez,fz⟩:=Eh hk;have ll:=l.length;have rl:=ri.length;have hks:k<its.toArray.size:=by have:=(Xb.mp hz).1;simp;omega
 have at_:∀(j:Nat)(h:j<its.toArray.size)(z:D),ds[j]?=a4 z->eqW X H d its.toArray[j]=deq z d:=λj h z hz=>by
  obtain⟨x,hx,ex⟩:=l.get hz;obtain⟨w,hw,rw⟩:=ri.get hx;have g1:its.toArray[j]=w:=by simp at h ⊢;rw[kh (by simpa using h)]at hw;exact aw hw
  have:=D.depL_le hz;rw[g1];exact Bm I nofun ex rw
 refine bB gK ⟨_,h1,rfl⟩ F.entry_tuple_index (F.args_tuple_index_2 _ _) (Cw t its.toArray n dd sl u (eqW X H d) k hks (λj h hj=>?_) (by rw[at_ k hks z hz];exact ez))
  ⟨h1,λy hy=>Yx (n:=97) I en ru nd (by show X.A.units+1+97<aU;omega) hd l ri y (by simpa using hy),⟨.int _,H,I.tok _,⟨_,rfl⟩,q⟩⟩
 have hlt:j<ds.length:=by simp at h;omega
 rw[at_ j h ds[j] (kh hlt)];exact fz j _ hj (kh hlt)
theorem DE.indexT {b:ai} {ds:List D} {k:Nat} {p2:aK} (hu:X.A.units+100<aU) (ha:DT X ρ a (.tup ds)) (hb:DT X ρ b d) (hd:D.depL ds<=97) (nd:d.dep<10000) (hk:ixD d ds=a4 k) (hbase:aM a "index" X.env (az a X.env)=az a X.env)
  (hfew:((aO p2 (a8 [b] X.env)).all (λx=>!x.1)&&(bo p2 (aT [] X.env)).all (λx=>x.1.isSome)
   && decide (([b]:List ai).length+([]:List aR).length+(if ([]:List aR).isEmpty then 0 else 1)<30))=a6) (hline:(p1.endLine==p2.line)=a6)
  (hs:a8 [b] X.env=(a5,az b X.env)::a8 [] X.env):DE X ρ (.Call (.Attribute a "index" p1) [b] [] p2) (.int (k:Nat)):=λσ H Q R q =>
 (Yc PySem.F.plainAttrs_tuple gK PySem.F.type_tuple_index (j4v hu) peS (j9 peS jl hs) hbase hfew hline hs rfl).to (ha σ H _ R λv H1 g1 ⟨t,xs,e,sq,l⟩=>⟨by rw[e];exact .inr (.inl ⟨rfl,xs,sq⟩),hb σ H1 _ (R.grow g1) λu H2 g2 e2 =>
  ⟨t,xs,ds,d,u,k,e,rfl,g2.seqT sq,l.mono g2,e2,hd,nd,hk,q _ H2 (g1.trans g2) rfl⟩⟩)
end
noncomputable def ja1(l:List (List Int))(i j:Nat):Bool:=HT.lexLt (l.getD i []) (l.getD j [])
noncomputable def dval(kvs:List (af×Int))(k:af):Option Int:=(kvs.find? λp=>decide (p.1=k)).map λp=>p.2
section
variable{X:Cx}{ρ:Rho}{a b e k:ai}{rest:List aJ}{P:Po}{kvs:List (af×Int)}{z:af}{n:Int}{i j:Nat}{nx ny:af}{pos pos' p p1 p2 p3 p4 p5 p6 p7 p8:aK}{td ty tv:TE}{o value:ai}
theorem j4w (hu:X.A.units+100<aU):MtR X "list.index" (λx vs H Q=>∃t xs ds d y k,x=.ref t/\vs=[y]/\SqL X.K H t xs/\j5 X.K H ds xs/\Enc X.K H d y/\D.depL ds<=97/\d.dep<10000/\ixD d ds=a4 k/\Q (.int (k:Nat)) H):=by
 rintro pins s σ H x vs v us Q I rx rv ⟨t,xs,ds,d,y,k,e,e',sq,l,en,hd,nd,hk,q⟩;subst e e';cases rx;obtain⟨u,eu,ru⟩:=rv.one;subst eu;obtain⟨its,ri,⟨⟨cl,dd,da,sl⟩,n,h1,h2,h4,h3⟩,hz0⟩:=I.list sq;have h2:cl=.type "list":=h2;have h3:da=.seq its.toArray n:=h3;subst h2 h3;obtain⟨z,hz,ez,fz⟩:=Eh hk;have ll:=l.length;have rl:=ri.length;have hks:k<its.toArray.size:=by have:=(Xb.mp hz).1;simp;omega
 have at_:∀(j:Nat)(h:j<its.toArray.size)(z:D),ds[j]?=a4 z->eqW X H d its.toArray[j]=deq z d:=λj h z hz=>by
  obtain⟨x,hx,ex⟩:=l.get hz;obtain⟨w,hw,rw⟩:=ri.get hx;have g1:its.toArray[j]=w:=by simp at h ⊢;rw[kh (by simpa using h)]at hw;exact aw hw
  have:=D.depL_le hz;rw[g1];exact Bm I nofun ex rw
 have hn:=Vo;have hks':k<its.length:=by simpa using hks
 refine bB gZ ⟨_,h1,rfl⟩ F.entry_list_index (F.args_list_index_2 _ _) (SeqAt.list_indexAt t its.toArray n dd sl u (eqW X H d) k hks nofun (by rw[at_ k hks z hz];exact ez) (λj h hj=>?_))
  ⟨h1,λy hy=>Yx (n:=97) I en ru nd (by show X.A.units+1+97<aU;omega) hd l ri y (by simpa using hy),⟨.int _,H,I.tok _,⟨_,rfl⟩,q⟩⟩
 have hlt:j<ds.length:=by simp at h;omega
 rw[at_ j h ds[j] (kh hlt)];exact fz j _ hj (kh hlt)
theorem DE.indexL {ds:List D} {d:D} {k':Nat} (hu:X.A.units+100<aU) (ha:DT X ρ a (.lst ds)) (hb:DT X ρ b d) (hd:D.depL ds<=97) (nd:d.dep<10000) (hk:ixD d ds=a4 k') (hbase:aM a "index" X.env (az a X.env)=az a X.env)
  (hfew:((aO p2 (a8 [b] X.env)).all (λx=>!x.1)&&(bo p2 (aT [] X.env)).all (λx=>x.1.isSome)
   && decide (([b]:List ai).length+([]:List aR).length+(if ([]:List aR).isEmpty then 0 else 1)<30))=a6) (hline:(p1.endLine==p2.line)=a6)
  (hs:a8 [b] X.env=(a5,az b X.env)::a8 [] X.env):DE X ρ (.Call (.Attribute a "index" p1) [b] [] p2) (.int (k':Nat)):=λσ H Q R q =>
 (Yc Pu gZ PySem.F.type_list_index (j4w hu) peS (j9 peS jl hs) hbase hfew hline hs rfl).to (ha σ H _ R λv H1 g1 ⟨t,xs,e,sq,l⟩=>⟨by rw[e];exact .inl ⟨rfl,xs,sq⟩,hb σ H1 _ (R.grow g1) λu H2 g2 e2 =>
  ⟨t,xs,ds,d,u,k',e,rfl,g2.seq sq,l.mono g2,e2,hd,nd,hk,q _ H2 (g1.trans g2) rfl⟩⟩)
end
section
variable{X:Cx}{ρ:Rho}{a e:ai}{es:List ai}{x:af}{d:D}{p p1 p2 pos:aK}{y:af}{ds:List D}
theorem O4{M:g6}{A:aD}{E:k7y}{s:ah}{env:cu}{value:ai}{pos:aK}{Q:k7y}
  (h:ax M A (az value env) (λv s₁=>ax M A (pyReprObj v) (λr s₂=>ax M A (formatField r cP) Q E s₂) E s₁) E s) :
  ax M A (az (.FormattedValue value 114 a7 pos) env) Q E s:=by
 rw[arm_eval_FormattedValue];refine aj (aZ h (λv s₁ h₁=>?_) λ_ _ x=>x);refine aj (fb ?_);show ax _ _ (do let v' <-c8 [v] (pyReprObj v);formatField v' cP) Q E s₁;exact aj (cL h₁)
theorem DE.fmtR(ha:DT X ρ e (.str y))(hy:(aI y).length<=ak):DE X ρ (.FormattedValue e 114 a7 pos) (.str (aI y)):=λσ H Q R q pins s I=>by
 refine O4 (thn (ha σ H (λv H1=>v=.str y/\j4 H H1) R (λv H1 g e=>⟨e,g⟩) pins s I) λu s1 ⟨v,H1,I1,r,ev,g⟩=>?_);subst ev;obtain⟨t,rfl⟩:=(show ∃t,u=bg y t from r)
 refine wpAny_pyReprObj_gives (fm s1 y t) F.slot_str_repr F.entry_str_repr (F.args_str_repr_1 _) (gives_str_repr y t) ?_ rfl hy;exact l5 (λt' tk=>⟨.str (aI y),H1,I1.un (t':=tk) Un.refl I1.hok,⟨_,rfl⟩,q _ H1 g rfl⟩) hy
theorem O3.grow{σ:St}{H H':Hp}(k:O3 X σ H x)(g:j4 H H'):O3 X σ H' x:=λpins H2 s' e C I g2 hC Fe=>k pins H2 s' e C I (g.trans g2) hC Fe
theorem DXA.head(ha:DX X ρ a x)(hs:a8 (a::es) X.env=(a5,az a X.env)::a8 es X.env):DXA X ρ (a::es) x:=λσ H Q R k =>(j9 peS paS hs).to (ha σ H _ R k)
theorem DXA.tail(ha:DT X ρ a d)(h:DXA X ρ es x)(hs:a8 (a::es) X.env=(a5,az a X.env)::a8 es X.env):DXA X ρ (a::es) x:=λσ H Q R k =>(j9 peS paS hs).to (ha σ H _ R λv H1 g _=>h σ H1 _ (R.grow g) (k.grow g))
theorem DX.args {f:af} (ha:DXA X ρ (e::es) x) (hg:Gl X f) (hdb:(f==k81)=a5) {fa:ae} (hfa:X.mg f=a4 (.ref fa)) (hk:W.keepIn X.K (.ref fa)=a6)
  (he:a8 (e::es) X.env=(a5,az e X.env)::a8 es X.env) (hpl:(aO pos (a8 es X.env)).any (·.1)=a5):DX X ρ (.Call (.Name f p) (e::es) [] pos) x:=λσ H Q R k pins s I=>by
 refine bh (Zf I hg hfa ?_ hdb);exact W.callWith_K (h₀:=X.base) I.ok.mod.kin hk (thn (ha σ H (λ_ _=>False) R k pos pins s I) λus s1 ⟨vs,H1,I1,r,z⟩=>z.elim) he hpl
end
noncomputable def Yp:List Int->Int
 |[]=>0
 |a::r=>r.foldl max a
theorem Ds:∀(r:List Int)(a:Int),r.foldl max a∈a::r/\∀b∈a::r,b<=r.foldl max a
 |[],a=>⟨X6.mpr rfl,λb hb=>by rw[X6.mp hb];exact l9 _⟩
 |c::r,a=>by
  rw[bV];obtain⟨h1,h2⟩:=Ds r (max a c);refine⟨?_,λb hb=>?_⟩
  .rcases xn.mp h1 with z|z
   .rw[z];by_cases q:a<=c
    .rw[Int.max_eq_right q];exact xg _ xq
    .rw[Int.max_eq_left nofun];exact xq
   .exact xg _ (xg _ z)
  .have l:=h2 (max a c) xq;rcases xn.mp hb with z|z
   .rw[z];omega
   .rcases xn.mp z with z|z
    .rw[z];omega
    .exact h2 b (xg _ z)
theorem Ea{ns:List Int}(h:ns≠[]):Yp ns∈ns/\∀b∈ns,b<=Yp ns:=by
 cases ns with
 |nil=>exact absurd rfl h
 |cons a r=>exact Ds r a
theorem jc1{ns:List Int}{M:Int}(h1:M∈ns)(h2:∀a∈ns,a<=M):Yp ns=M:=by
 have hn:ns≠[]:=λe=>by rw[e]at h1;exact nomatch h1
 obtain⟨a,b⟩:=Ea hn;have:=h2 _ a;have:=b _ h1;omega
noncomputable def Wd(ns:List Int):Int:=-Yp (ns.map λn=>-n)
theorem j7i{ns:List Int}(h:ns≠[]):Wd ns∈ns/\∀b∈ns,Wd ns<=b:=by
 obtain⟨h1,h2⟩:=Ea (ns:=ns.map λn=>-n) (by simpa using h);obtain⟨a,ha,e⟩:=Xh.mp h1;unfold Wd;refine⟨?_,λb hb=>?_⟩
 .rw[<-e,Int.neg_neg];exact ha
 .have:=h2 _ (Xh.mpr ⟨b,hb,rfl⟩);omega
theorem jc0{ns:List Int}{M:Int}(h1:M∈ns)(h2:∀a∈ns,M<=a):Wd ns=M:=by
 obtain⟨a,b⟩:=j7i (ns:=ns) λe=>by rw[e]at h1;exact nomatch h1
 have:=h2 _ a;have:=b _ h1;omega
section
variable{X:Cx}{ρ:Rho}{a b e:ai}{es:List ai}{x y:af}{d:D}{i j:Int}{p p1 p2 p3 p4 pk pos:aK}{ds:List D}
theorem j9j{pins:k7z}{s:ah}{σ:St}{H:Hp}{l:ae}{ns:List Int}(I:Inv X pins σ H s)(sq:SqL X.K H l (ns.map V.int))(hne:ns≠[]):∃zs,s.heap.IsList l (eN zs)/\0<zs.size/\zs.size=ns.length/\∀i,i<zs.size->fZ zs i=ns.getD i 0:=by
 obtain⟨its,rv,pl,_⟩:=I.list sq;have hl:its.length=ns.length:=by rw[<-rv.length,xj]
 have val:∀(i:Nat)(v:aa),its[i]?=a4 v->∃t,v=bx (ns.getD i 0) t:=by
  intro i v hv;have hi:i<its.length:=(Xb.mp hv).1;have hi':i<ns.length:=by omega
  obtain⟨w1,hw,rw1⟩:=rv.get (x:=.int (ns.getD i 0)) (i:=i) (by rw[xx,kh hi',xf,kh hi'];rfl);rw[hw]at hv;cases hv;exact rw1
 have hall:AllInts its.toArray:=by intro v hv;obtain⟨i,hi,e⟩:=List.mem_iff_getElem.mp (show v∈its by simpa using hv);obtain⟨t,e'⟩:=val i v (by rw[kh hi,e]);exact⟨_,t,e'⟩
 obtain⟨zs,hz⟩:=hall.items;have pl':=pl.isList;rw[hz]at pl';have hsz:0<zs.size:=by
  have:its.toArray.size=(eN zs).size:=by rw[hz]
  have h1:0<ns.length:=List.length_pos_iff.mpr hne;simp[eN]at this;omega
 have hns:∀i,i<zs.size->fZ zs i=ns.getD i 0:=by
  intro i hi;obtain⟨v1,e1⟩:∃v,(eN zs)[i]?=a4 v:=⟨_,Array.getElem?_eq_getElem (by simpa [eN]using hi)⟩
  obtain⟨t,ht⟩:=iV e1;rw[<-hz]at e1;obtain⟨t',ht'⟩:=val i _ (by simpa using e1);rw[ht]at ht';exact(Value.int.inj ht').1
 have len:zs.size=ns.length:=by
  have:its.toArray.size=(eN zs).size:=by rw[hz]
  simp[eN]at this;omega
 exact⟨zs,pl',hsz,len,hns⟩
theorem j5z (hc:X.calm=a6):vm X (.builtin "max") (λxs H Q=>∃(l:ae)(ns:List Int),xs=[.ref l]/\SqL X.K H l (ns.map V.int)/\ns≠[]/\Q (.int (Yp ns)) H):=by
 rintro pins s σ H xs us Q I r ⟨l,ns,e,sq,hne,q⟩;subst e;obtain⟨u,eu,ru⟩:=vals1 r;subst eu;cases ru;obtain⟨zs,pl',hsz,len,hns⟩:=j9j I sq hne;refine max_intList (I.ok.hd hc) pl' hsz λv h' tk hv hk=>?_;obtain⟨t,rfl⟩:=iV hv;obtain⟨h1,h2⟩:=argBest_gt (fZ zs) (zs.size-1);have hM:Yp ns=fZ zs (argBest (λi j=>decide (fZ zs i>fZ zs j)) (zs.size-1)):=by
  refine jc1 ?_ λc hc=>?_
  .rw[hns _ nofun];rw[xf,kh nofun];exact Py _
  .obtain⟨k,hk,rfl⟩:=List.mem_iff_getElem.mp hc;have:=h2 k nofun
   rw[hns k nofun,xf,kh hk]at this;exact this
 rw[hM]at q;exact⟨.int _,H,I.kept hk,⟨t,rfl⟩,q⟩
theorem j5x (hc:X.calm=a6):vm X (.builtin "min") (λxs H Q=>∃(l:ae)(ns:List Int),xs=[.ref l]/\SqL X.K H l (ns.map V.int)/\ns≠[]/\Q (.int (Wd ns)) H):=by
 rintro pins s σ H xs us Q I r ⟨l,ns,e,sq,hne,q⟩;subst e;obtain⟨u,eu,ru⟩:=vals1 r;subst eu;cases ru;obtain⟨zs,pl',hsz,len,hns⟩:=j9j I sq hne;refine min_intList (I.ok.hd hc) pl' hsz λv h' tk hv hk=>?_;obtain⟨t,rfl⟩:=iV hv;obtain⟨h1,h2⟩:=argBest_lt (fZ zs) (zs.size-1);have hM:Wd ns=fZ zs (argBest (λi j=>decide (fZ zs i<fZ zs j)) (zs.size-1)):=by
  refine jc0 ?_ λc hc=>?_
  .rw[hns _ nofun];rw[xf,kh nofun];exact Py _
  .obtain⟨k,hk,rfl⟩:=List.mem_iff_getElem.mp hc;have:=h2 k nofun
   rw[hns k nofun,xf,kh hk]at this;exact this
 rw[hM]at q;exact⟨.int _,H,I.kept hk,⟨t,rfl⟩,q⟩
theorem DE.max2 (ha:DT X ρ a (.int i)) (hb:DT X ρ b (.int j)) (hm:X.mg "max" = a7) (hc:X.calm=a6) (hg:Gl X "max") (hs:a8 [a,b] X.env=(a5,az a X.env)::a8 [b] X.env) (hs2:a8 [b] X.env=(a5,az b X.env)::a8 [] X.env)
  (hpl:(aO pos (a8 [b] X.env)).any (·.1)=a5):DE X ρ (.Call (.Name "max" p) [a,b] [] pos) (.int (if j>i then j else i)):=λσ H Q R q =>
 (zb (j60 hc) hg hm boot_max (j9 peS (j9 peS jl hs2) hs) (by decide) (by decide) hs hpl).to (ha σ H _ R λv H1 g1 e1=>hb σ H1 _ (R.grow g1) λu H2 g2 e2=>⟨i,j,by rw[show v=.int i from e1,show u=.int j from e2],q _ H2 (g1.trans g2) rfl⟩)
theorem DE.maxL {ns:List Int} (ha:DT X ρ a (.lst (ns.map D.int))) (hn:ns≠[]) (hm:X.mg "max" = a7) (hc:X.calm=a6) (hg:Gl X "max") (hs:a8 [a] X.env=[(a5,az a X.env)]):DE X ρ (.Call (.Name "max" p) [a] [] pos) (.int (Yp ns)):=λσ H Q R q =>(zb (j5z hc) hg hm boot_max (j9 peS jl hs) (by decide) (by decide) hs).to (ha σ H _ R λv H1 g1 ⟨l,xs,e,sq,en⟩=>⟨l,ns,by rw[e],by rw[Va en]at sq;exact sq,hn,q _ H1 g1 rfl⟩)
theorem DE.minL {ns:List Int} (ha:DT X ρ a (.lst (ns.map D.int))) (hn:ns≠[]) (hm:X.mg "min" = a7) (hc:X.calm=a6) (hg:Gl X "min") (hs:a8 [a] X.env=[(a5,az a X.env)]):DE X ρ (.Call (.Name "min" p) [a] [] pos) (.int (Wd ns)):=λσ H Q R q =>(zb (j5x hc) hg hm boot_min (j9 peS jl hs) (by decide) (by decide) hs).to (ha σ H _ R λv H1 g1 ⟨l,xs,e,sq,en⟩=>⟨l,ns,by rw[e],by rw[Va en]at sq;exact sq,hn,q _ H1 g1 rfl⟩)
end
theorem j5.getE{K:k7x}{H:Hp}:∀{ds:List D}{xs:List V}{k:Nat}{d:D},j5 K H ds xs->ds[k]?=a4 d->∃y,xs[k]?=a4 y/\Enc K H d y/\j5 K H (ds.eraseIdx k) (xs.eraseIdx k)
 |[],_,_,_,_,h=>by simp at h
 |c::ds,xs,0,d,⟨v,r,e,ev,l⟩,h=>by rw[dn]at h;cases h;subst e;exact⟨v,rfl,ev,l⟩
 |c::ds,xs,k+1,d,⟨v,r,e,ev,l⟩,h=>by rw[tu]at h;subst e;obtain⟨y,h1,h2,h3⟩:=j5.getE l h;exact⟨y,by rw[tu];exact h1,h2,⟨v,r.eraseIdx k,rfl,ev,h3⟩⟩
section
variable{X:Cx}{ρ:Rho}{p1 p2 p3 p4 p5 p6 q1 pos:aK}
theorem DS.apop{i w k:Nat}{x u:af}{l l2:ae}{ds es:List D}{z:Int}{d:D}{e:ai}{P:Po}(hk:ρ[i]?=a4 (.own l ds))(hk2:ρ[w]?=a4 (.own l2 es))(ne:i≠w)(he:DE X ρ e (.int z))(hz:ixN es.length z=a4 k)(hd':es[k]?=a4 d)(hl:ds.length<ak)(hes:es.length<=1000000)
  (h:P.nx ((ρ.set w (.own l2 (es.eraseIdx k))).set i (.own l (ds++[d]))))
  (hN:X.N[i]?=a4 x) (hv:Vis X.env.scope x) (hd:(x==k81)=a5) (hcd:(x==k82)=a5) (hN2:X.N[w]?=a4 u) (hv2:Vis X.env.scope u) (hd2:(u==k81)=a5) (hcd2:(u==k82)=a5)
  (hst:a8 [e] X.env=[(a5,az e X.env)]) (hst1:a8 [.Call (.Attribute (.Name u p4) "pop" p5) [e] [] p6] X.env=[(a5,az (.Call (.Attribute (.Name u p4) "pop" p5) [e] [] p6) X.env)])
  (hline:(p2.endLine==p3.line)=a6) (hline2:(p5.endLine==p6.line)=a6)
  (hbase:aM (.Name x p1) "append" X.env (az (.Name x p1) X.env)=az (.Name x p1) X.env) (hbase2:aM (.Name u p4) "pop" X.env (az (.Name u p4) X.env)=az (.Name u p4) X.env)
  (hfew:((aO p3 (a8 [.Call (.Attribute (.Name u p4) "pop" p5) [e] [] p6] X.env)).all (λx=>!x.1)&&(bo p3 (aT [] X.env)).all (λx=>x.1.isSome)
   && decide (([.Call (.Attribute (.Name u p4) "pop" p5) [e] [] p6]:List ai).length+([]:List aR).length+(if ([]:List aR).isEmpty then 0 else 1)<30))=a6)
  (hfew2:((aO p6 (a8 [e] X.env)).all (λx=>!x.1)&&(bo p6 (aT [] X.env)).all (λx=>x.1.isSome)
   && decide (([e]:List ai).length+([]:List aR).length+(if ([]:List aR).isEmpty then 0 else 1)<30))=a6)
  (hs:aP (.Call (.Attribute (.Name x p1) "append" p2) [.Call (.Attribute (.Name u p4) "pop" p5) [e] [] p6] [] p3) a7 pos.line X.env=pure a5) :
  DS X ρ (.Expr (.Call (.Attribute (.Name x p1) "append" p2) [.Call (.Attribute (.Name u p4) "pop" p5) [e] [] p6] [] p3) pos) P:=λσ H E R q=>by
 obtain⟨hσ,xs,m,en⟩:=R.own i l ds hk;obtain⟨hσ2,ys,m2,en2⟩:=R.own w l2 es hk2;have hp:=Yc (X:=X) (apos:=p5) (cpos:=p6) Pu ib PySem.F.type_list_pop j7g (v7 (pos:=p4) hN2 hv2 hd2 hcd2) (j9 (peS (e:=e)) jl hst) hbase2 hfew2 hline2 hst rfl;refine(Zd (Yc Pu bY cW Ye (v7 hN hv hd hcd) (j9 hp jl hst1) hbase hfew hline hst1 rfl) hs).to ?_;refine⟨_,hσ,.inl ⟨rfl,xs,.inl (.inl m)⟩,⟨_,hσ2,.inl ⟨rfl,ys,.inl (.inl m2)⟩,he σ H _ R λv H1 g1 e1=>?_⟩⟩;have e1:v=.int z:=e1;subst e1;obtain⟨s1,s2,s3,s4⟩:=Nv hz;obtain⟨y,gy,ey,el⟩:=(en2.mono (jf g1)).getE hd';have R1:=(R.grow g1).upd_own hk2 el;have hi:(ρ.set w (.own l2 (es.eraseIdx k)))[i]?=a4 (.own l ds):=by rw[t8 (bF ne)];exact hk
 obtain⟨_,xs',m',en'⟩:=R1.own i l ds hi;have p63:(2:Int)^63=9223372036854775808:=by decide
 refine⟨l2,ys,z,k,y,rfl,rfl,g1 _ _ m2,by rw[p63];omega,by rw[p63];omega,by rw[en2.length];exact s1,gy,?_⟩;refine⟨l,xs',y,rfl,rfl,m',by rw[en'.length];exact hl,?_⟩;exact q.nx _ σ _ h (R1.upd_own hi (en'.append (.one (by rw[Jo hk2,Vi (Jh hk2)];exact ey)))) (j4.trans (Yz (σ:=σ) hk2 g1) (Yz (σ:=σ) hi (j4.refl _)))
end
noncomputable def ch1(c:Nat):af:=⟨#[c]⟩
noncomputable def chs(y:af):List D:=y.cps.toList.map λc=>D.str (ch1 c)
noncomputable def ascii(y:af):Bool:=y.cps.all (· < 128)
noncomputable def Its(y:af):It:=⟨λi _=>i<y.cps.size,λi H x H'=>H'=H/\∃c,y.cps[i]?=a4 c/\x=.str (ch1 c),λi _=>y.cps.size<=i⟩
theorem j6i {P:ar} {w:aA} {K:k7x} {tg:ai} (it:ae) (y:af) (t:jL):Turn P w K tg (Its y) [it] it (λi h=>h.IsStrIter it "str_ascii_iterator" y t i) where
 mem:=by simp
 obj:=λi h st b hb=>by
  have e:b=it:=by simpa using hb
  subst e;obtain⟨o,e,c,d⟩:=st;exact⟨o,e,λv z=>by rw[d]at z;cases z⟩
 keep:=λi h h' st k=>let ⟨o,e,r⟩:=st;⟨o,k it (by simp) o e,r⟩
 item:=by intro X hP hw hK hc i pins s σ H E I hf st hg;subst hP hw hK;obtain⟨f0,f1,f2,f3,f4,f5⟩:=hf it (by simp);have W:=Walks.strAscii (prog:=X.prog) (w:=X.w) (I.ok.hd hc) it y t;refine W.item i s _ _ hg st λv h' tk hv st' kk=>?_;obtain⟨c,u,hcu,rfl⟩:=hv;have I1:Inv X pins σ H { s with heap:=h',toks:=tk }:=I.turned (λb o hb e=>kk b o (by simpa using hb) e) f0 f1 f3 f4 f5;obtain⟨o,e,oc,d⟩:=id st';exact⟨_,rfl,K1 (s:={ s with heap:=h',toks:=tk }) e oc d (by decide) ⟨.str (ch1 c),H,I1,⟨u,rfl⟩,⟨rfl,c,hcu,rfl⟩,st',λb hb=>(hf b hb).1⟩⟩
 done:=by intro X hP hw hK hc i pins s σ H E I hf st hg;subst hP hw hK;obtain⟨f0,f1,f2,f3,f4,f5⟩:=hf it (by simp);exact wpAny_pyNext_ascii_end (I.ok.hd hc) st (by have:y.cps.size<=i:=hg;simp;omega) λh' eb=>⟨rfl,I.turned (t':=s.toks) (λb o hb e=>eb b o hb e) f0 f1 f3 f4 f5⟩
 self:=λ_ _ _ _ _ st h=>wpAny_pyIter_striter_ascii st h
section
variable{X:Cx}{ρ:Rho}{a b c e tg it:ai}{y z:af}{i j k:Int}{p p2 pos:aK}
theorem j7t{K:k7x}{F:Hp}(y:af):Uz K F (Its y) (chs y):=λi H A g hA=>by
 have hl:(chs y).length=y.cps.size:=by unfold chs;rw[xj,cE]
 rw[hl];refine⟨λh=>h,λh=>h,λx H' ⟨e,c,hc,ex⟩=>?_⟩;subst e ex;refine⟨j4.refl _,λd hd=>?_⟩;unfold chs at hd;rw[xx,gG,hc]at hd;cases hd;rfl
theorem DI.str(h:DT X ρ it (.str y))(ha:ascii y=a6):DI X ρ tg it (chs y):=λσ H R r q pins s I=>by
 refine thn (h σ H (λv H1=>v=.str y/\j4 H H1) r (λv H1 g e=>⟨e,g⟩) pins s I) λv s1 ⟨x,H1,I1,r1,ex,g1⟩=>?_;subst ex;obtain⟨t,rfl⟩:=(show ∃t,v=bg y t from r1)
 refine wpAny_pyIter_ascii ha ?_;refine⟨s1.heap.objs.size,[s1.heap.objs.size],_,_,H1,rfl,I1.kept (t':=s1.toks) λb o e=>X8 _ e,j6i _ y t,⟨_,Xi _ rfl,rfl,rfl⟩,λb hb=>?_,q _ H1 g1 (j7t y)⟩;have e:b=s1.heap.objs.size:=by simpa using hb
 subst e;exact I1.fpOk (X7 _) (I1.hok.fresh (X7 _))
noncomputable def inS(y z:af):Bool:=!(f9 z y 0 z.length 1).isEmpty
theorem Dj:OpR X (aX .Gt) (λx y H Q=>∃i j,x=.str i/\y=.str j/\Q (.bl (decide (j.cps.toList<i.cps.toList))) H):=by intro pins s σ H x y v u Q I rx ry h;obtain⟨i,j,rfl,rfl,q⟩:=h;obtain⟨t,rfl⟩:=rx;obtain⟨t',rfl⟩:=ry;exact P.gt_str (jw I q rfl)
theorem DE.ltS(ha:DT X ρ a (.str y))(hb:DT X ρ b (.str z)):DE X ρ (.Compare a [.Lt] [b] pos) (.bl (decide (y.cps.toList<z.cps.toList))):=λσ H Q R q =>(Jr Dh peS peS (zg _)).to (ha σ H _ R λv H1 g1 e1=>hb σ H1 _ (R.grow g1) λu H2 g2 e2=>⟨y,z,e1,e2,q _ H2 (g1.trans g2) rfl⟩)
theorem DB.ltS(ha:DT X ρ a (.str y))(hb:DT X ρ b (.str z)):DB X ρ (.Compare a [.Lt] [b] pos) (decide (y.cps.toList<z.cps.toList)):=λσ H Q R q =>(Jq Dh peS peS (zg _)).to (ha σ H _ R λv H1 g1 e1=>hb σ H1 _ (R.grow g1) λu H2 g2 e2=>⟨y,z,e1,e2,_,rfl,q H2 (g1.trans g2)⟩)
theorem DE.gtS(ha:DT X ρ a (.str y))(hb:DT X ρ b (.str z)):DE X ρ (.Compare a [.Gt] [b] pos) (.bl (decide (z.cps.toList<y.cps.toList))):=λσ H Q R q =>(Jr Dj peS peS (zg _)).to (ha σ H _ R λv H1 g1 e1=>hb σ H1 _ (R.grow g1) λu H2 g2 e2=>⟨y,z,e1,e2,q _ H2 (g1.trans g2) rfl⟩)
theorem DB.gtS(ha:DT X ρ a (.str y))(hb:DT X ρ b (.str z)):DB X ρ (.Compare a [.Gt] [b] pos) (decide (z.cps.toList<y.cps.toList)):=λσ H Q R q =>(Jq Dj peS peS (zg _)).to (ha σ H _ R λv H1 g1 e1=>hb σ H1 _ (R.grow g1) λu H2 g2 e2=>⟨y,z,e1,e2,_,rfl,q H2 (g1.trans g2)⟩)
theorem DE.inS(ha:DT X ρ a (.str y))(hb:DT X ρ b (.str z))(hm:aL .In b=a5):DE X ρ (.Compare a [.In] [b] pos) (.bl (inS y z)):=λσ H Q R q =>(Jr Di peS peS hm).to (ha σ H _ R λv H1 g1 e1=>hb σ H1 _ (R.grow g1) λu H2 g2 e2=>⟨y,z,e1,e2,q _ H2 (g1.trans g2) rfl⟩)
theorem DB.inS(ha:DT X ρ a (.str y))(hb:DT X ρ b (.str z))(hm:aL .In b=a5):DB X ρ (.Compare a [.In] [b] pos) (inS y z):=λσ H Q R q =>(Jq Di peS peS hm).to (ha σ H _ R λv H1 g1 e1=>hb σ H1 _ (R.grow g1) λu H2 g2 e2=>⟨y,z,e1,e2,_,rfl,q H2 (g1.trans g2)⟩)
theorem mulOk_of(h1:1<=k/\k<=1000)(h2:y.length<=1000):MulOk y k:=by
 refine⟨?_,λ_ _=>?_,λ_ _=>?_⟩
 .simp;omega
 .have:(1000:Int)<=(2^63-1)/k:=Int.le_ediv_of_mul_le nofun nofun
  omega
 .have hk:k.toNat<=1000:=by omega
  have:y.length*k.toNat<=1000000:=Nat.mul_le_mul h2 hk;unfold cn;rw[br];simp;omega
theorem j2m:OpR X (b7 .Mult) (λx y H Q=>∃i k,x=.str i/\y=.int k/\MulOk i k/\Q (.str (iy i k)) H):=by intro pins s σ H x y v u Q I rx ry h;obtain⟨i,k,rfl,rfl,hm,q⟩:=h;obtain⟨t,rfl⟩:=rx;obtain⟨t',rfl⟩:=ry;exact SB.mul hm λt' tk=>⟨.str _,H,I.un (t':=tk) Un.refl I.hok,⟨_,rfl⟩,q⟩
theorem DE.mulS(ha:DT X ρ a (.str y))(hb:DT X ρ b (.int k))(h1:1<=k/\k<=1000)(h2:y.length<=1000):DE X ρ (.BinOp a .Mult b pos) (.str (iy y k)):=λσ H Q R q =>(Y9 j2m peS peS).to (ha σ H _ R λv H1 g1 e1=>hb σ H1 _ (R.grow g1) λu H2 g2 e2=>⟨y,k,e1,e2,mulOk_of h1 h2,q _ H2 (g1.trans g2) rfl⟩)
theorem DB.chn(ha:DT X ρ a (.int i))(hb:DT X ρ b (.int j))(hc:DT X ρ c (.int k))(hm:kz [.Lt,.Lt] [b,c]=a5):DB X ρ (.Compare a [.Lt,.Lt] [b,c] pos) (decide (i<j)&&decide (j<k)):=λσ H Q R q =>
 (j78 Ly Ly peS peS peS hm).to (ha σ H _ R λv H1 g1 e1=>hb σ H1 _ (R.grow g1) λu H2 g2 e2=>⟨i,j,e1,e2,_,rfl,by
  by_cases h:i<j
  .rw[decide_eq_true h,if_pos rfl]
   exact hc σ H2 _ (R.grow (g1.trans g2)) λw H3 g3 e3=>⟨j,k,e2,e3,_,rfl,by rw[decide_eq_true h,jP]at q;exact q H3 ((g1.trans g2).trans g3)⟩
  .rw[decide_eq_false h,if_neg xm]
   exact⟨_,rfl,by rw[decide_eq_false h,jD]at q;exact q H2 (g1.trans g2)⟩⟩)
end
section
variable{X:Cx}{ρ ρ1 ρ':Rho}{e c:ai}{ss sa sb:List aJ}{is is2:List Nat}{d:D}{i:Nat}{x:af}{p pos:aK}
def DMs(X:Cx)(ρ ρ':Rho)(is:List Nat)(ss:List aJ):Prop:=∀(σ:St)(H:Hp)(E:Ends),Rep X.K ρ σ H->(∀σ' H',j4 H H'->Rep X.K ρ' σ' H'->(∀j,j∉is->σ'[j]?=σ[j]?)->E.nx σ' H')->Qd X ss E σ H
def DMt(X:Cx)(ρ ρ':Rho)(is:List Nat)(full tl:List aJ):Prop:=∀(σ:St)(H:Hp)(E:Ends),Rep X.K ρ σ H->(∀σ' H',j4 H H'->Rep X.K ρ' σ' H'->(∀j,j∉is->σ'[j]?=σ[j]?)->Qd X tl E σ' H')->Qd X full E σ H
variable{tl:List aJ}
end
def Kp(ρ ρ':Rho)(is:List Nat):Prop:=(∀b∈owns ρ',b∈owns ρ)/\∀j,j∉is->ρ'[j]?=ρ[j]?
noncomputable def pcF(b:ae)(k:Int):List (af×V):=[("standing",.ref b),("spot",.int k)]
structure Ob where
 a:ae
 dx:ae
 b:ae
structure PcAt(C:ae)(H:Hp)(o:Ob)(ls:List af)(k:Nat):Prop where
 ob:H o.a=a4 (.ins C o.dx (pcF o.b (k:Int)))
 li:H o.b=a4 (.lst (ls.map V.str))
def But(a:ae)(H H':Hp):Prop:=∀b o,b≠a->H b=a4 o->H' b=a4 o
structure PcT(K:k7x)(mg:k80)(C fA fT fL fI:ae):Prop where
 cl:Cls K C
 nS:Wu K C "standing"
 nP:Wu K C "spot"
 mA:Meth K C "ahead" fA
 mT:Meth K C "taken" fT
 mL:Meth K C "all_taken" fL
 mkI:Mk K C fI
 mgC:mg "Pieces" = a4 (.ref C)
 len:mg "len" = a7
def j16(C:ae):Sp:=λvs H Q _=>∃(o:Ob)(ls:List af)(k:Nat),vs=[.ref o.a]/\PcAt C H o ls k/\Q (.str (ls.getD k "")) H
def j14(C:ae):Sp:=λvs H Q _=>∃(o:Ob)(ls:List af)(k:Nat),vs=[.ref o.a]/\PcAt C H o ls k/\∀H',PcAt C H' o ls (k+1)->But o.a H H'->Q (.str (ls.getD k "")) H'
def j9p(C:ae):Sp:=λvs H Q _=>∃(o:Ob)(ls:List af)(k:Nat),vs=[.ref o.a]/\PcAt C H o ls k/\Q (.bl (decide (ls.length<=k))) H
section
variable{P:ar}{w:aA}{K:k7x}{mg:k80}{base:aE}{C fA fT fL fI f:ae}{fd:aG}{st:aJ}
def j15(C:ae):Sp:=λvs H Q _=>∃(a dx:ae)(t:af),vs=[.ref a,.str t]/\H a=a4 (.ins C dx [])/\t.length<=100000/\(lJ t " ").length<=ak/\∀b H',H b=a7->PcAt C H' ⟨a,dx,b⟩ (lJ t " ") 0->But a H H'->Q .non H'
end
structure Pm where
 nx:Rho->Nat->Prop
 rt:D->Nat->Prop
 ex:af->Rho->Prop
def FrM(a:ae)(ρ ρ':Rho)(H H':Hp):Prop:=j4 (del H (a::owns ρ)) (del H' (a::owns ρ'))
structure EndsM(X:Cx)(C:ae)(o:Ob)(ls:List af)(ρ:Rho)(H:Hp)(P:Pm)(E:Ends):Prop where
 nx:∀ρ' k' σ' H',P.nx ρ' k'->Rep X.K ρ' σ' H'->PcAt C (del H' (owns ρ')) o ls k'->FrM o.a ρ ρ' H H'->E.nx σ' H'
 rt:∀d k' v H',P.rt d k'->PcAt C H' o ls k'->j4 (del H (o.a::owns ρ)) (del H' [o.a])->Enc X.K H' d v->E.rt v H'
 ex:∀x ρ' σ' H',P.ex x ρ'->Rep X.K ρ' σ' H'->FrM o.a ρ ρ' H H'->O3 X σ' H' x
structure PcX(X:Cx)(C:ae):Prop where
 ex:∃(fA fT fL fI:ae)(dA dT dL dI:aG),PcT X.K X.mg C fA fT fL fI/\(FnOk X.prog X.w X.K X.mg X.base CX0 1 fA dA ["self"] (j16 C)/\Binds X.K dA ["self"] []) /\
  (FnOk X.prog X.w X.K X.mg X.base CX0 2 fT dT ["self"] (j14 C)/\Binds X.K dT ["self"] [])/\(FnOk X.prog X.w X.K X.mg X.base CX0 1 fL dL ["self"] (j9p C)/\Binds X.K dL ["self"] []) /\
  (FnOk X.prog X.w X.K X.mg X.base CX0 1 fI dI ["self","text"] (j15 C)/\Binds X.K dI ["self","text"] [])/\Room 3 X.A
def MSs(X:Cx)(C:ae)(o:Ob)(ls:List af)(ρ:Rho)(k:Nat)(sts:List aJ)(P:Pm):Prop :=
 ∀σ H E,Rep X.K ρ σ H->PcAt C (del H (owns ρ)) o ls k->EndsM X C o ls ρ H P E->Qd X sts E σ H
def jks(K:k7x)(C:ae)(S:List af->Nat->List D->D->Nat->Prop):Sp:=λvs H Q _=>∃(o:Ob)(ls:List af)(k:Nat)(ds:List D)(d:D)(k':Nat)(ws:List V),vs=.ref o.a::ws/\TabOk K H/\PcAt C H o ls k/\j5 K H ds ws/\S ls k ds d k' /\
 ∀v H',PcAt C H' o ls k'->j4 (del H [o.a]) (del H' [o.a])->Enc K H' d v->Q v H'
def spM(K:k7x)(C:ae)(S:List af->Nat->List D->D->Nat->Prop):Sp:=λvs H Q _=>∃(A:List ae)(o:Ob)(ls:List af)(k:Nat)(ds:List D)(d:D)(k':Nat) (ws:List V),vs=.ref o.a::ws/\TabOk K H/\(∀a∈A,∃xs,H a=a4 (.lst xs))/\PcAt C (del H A) o ls k/\j5 K (del H A) ds ws/\S ls k ds d k' /\
 ∀v H',PcAt C (del H' A) o ls k'->j4 (del H [o.a]) (del H' [o.a])->Enc K (del H' A) d v->Q v H'
def j6t(K:k7x)(mg:k80)(C:ae)(S:List af->Nat->List D->af->Prop):Sp:=λvs H _ E=>∃(o:Ob)(ls:List af)(k:Nat)(ds:List D)(x:af)(V:aa)(ws:List L2.V),vs=.ref o.a::ws/\TabOk K H/\PcAt C H o ls k/\j5 K H ds ws/\S ls k ds x/\mg x=a4 V /\
 ∀H',j4 (del H [o.a]) (del H' [o.a])->E V a7 H'
section
variable{P:ar}{w:aA}{K:k7x}{mg:k80}{base:aE}{n:Nat}{f C:ae}{fd:aG}{ps:List af}
theorem FnOk.toM{S:List af->Nat->List D->D->Nat->Prop}(F:FnOk P w K mg base CX0 n f fd ps (jks K C S)):FnOk P w K mg base CX0 n f fd ps (spM K C S) :=
 F.framed.imp λvs H Q E ⟨A,o,ls,k,ds,d,k',ws,e,tb,hA,pc,en,hS,q⟩=>⟨A,hA,o,ls,k,ds,d,k',ws,e,tb.del hA,pc,en,hS,λv F pc' g e' hF=>by
  refine q v _ (by rw[Qp hF];exact pc') (λb u z=>?_) (by rw[Qp hF];exact e')
  obtain⟨nb,z⟩:=of_del z
  rw[j7 nb]
  by_cases y:b∈A
  .rw[J3 y];exact z
  .rw[jg y]
   exact(of_del (g b u (by rw[j7 nb,j7 y];exact z))).2⟩
end
structure CalM(X:Cx)(f:af)(C:ae)(S:List af->Nat->List D->D->Nat->Prop):Prop where
 ex:∃(n:Nat)(fa:ae)(fd:aG)(ps:List af),FnOk X.prog X.w X.K X.mg X.base CX0 n fa fd ps (spM X.K C S)/\Room n X.A/\X.mg f=a4 (.ref fa)/\W.keepIn X.K (.ref fa)=a6/\Binds X.K fd ps []
structure CalMX(X:Cx)(f:af)(C:ae)(S:List af->Nat->List D->af->Prop):Prop where
 ex:∃(n:Nat)(fa:ae)(fd:aG)(ps:List af),FnOk X.prog X.w X.K X.mg X.base (CX1 X.prog X.w) n fa fd ps (j6t X.K X.mg C S)/\Room n X.A/\X.mg f=a4 (.ref fa)/\W.keepIn X.K (.ref fa)=a6/\Binds X.K fd ps []
section
variable{X:Cx}{C:ae}{o:Ob}{ls:List af}{ρ ρ1:Rho}{H H1 H':Hp}{P:Pm}{E:Ends}{k k':Nat}{st:aJ}{sa rest:List aJ}{σ:St}{pi i:Nat}{ob:cb}{x y f:af}{p py pf p1 p2 p3 p4 pos:aK}{es:List ai}{ds:List D}{d:D}
theorem Rep.set_rf{K:k7x}{a:ae}{o:cb}(R:Rep K ρ σ H):Rep K (ρ.set i (.raw a o rfN)) (σ.set i (a4 (.ref a))) H:=by
 have sub:(owns (ρ.set i (.raw a o rfN))).Sublist (owns ρ):=jc rfl;have g:j4 (del H (owns ρ)) (del H (owns (ρ.set i (.raw a o rfN)))):=zy λb hb=>sub.subset hb;refine⟨by simp[R.len],λj d' h=>?_,λj a ds h=>?_,sub.nodup R.nd,λj a' o' x' h=>?_,R.tb⟩
 .rcases getElem?_set_of h with ⟨rfl,z,hl⟩|⟨n,h⟩
  .cases z
  .obtain⟨u,q,h⟩:=R.val j d' h;exact⟨u,by rw[qi n];exact q,h.mono g⟩
 .rcases getElem?_set_of h with ⟨rfl,z,_⟩|⟨n,h⟩
  .cases z
  .obtain⟨q,xs,h,l⟩:=R.own j a ds h;exact⟨by rw[qi n];exact q,xs,h,l.mono g⟩
 .rcases getElem?_set_of h with ⟨rfl,z,hl⟩|⟨n,h⟩
  .cases z;exact⟨J1 (by rw[R.len];exact hl),.inl rfl⟩
  .obtain⟨q,h⟩:=R.raw j a' o' x' h;exact⟨by rw[qi n];exact q,h.mono g⟩
noncomputable def dOb:cb:={ cls:=.none }
end
noncomputable def startM(N:List af)(a:ae)(ds:List D):Rho:=(jm N (.int 0::ds)).set 0 (.raw a dOb rfN)
theorem Ub{K:k7x}{H:Hp}{N:List af}{ds:List D}{ws:List V}{a:ae}(tb:TabOk K H)(h:j5 K H ds ws):Rep K (startM N a ds) (start N (.ref a::ws)) H :=
 (Ql (N:=N) tb (show j5 K H (.int 0::ds) (.int 0::ws) from⟨.int 0,ws,rfl,rfl,h⟩)).set_rf (i:=0) (a:=a) (o:=dOb)
theorem Yo(N:List af)(a:ae)(ds:List D):owns (startM N a ds)=[]:=by have h:(owns (startM N a ds)).Sublist (owns (jm N (.int 0::ds))):=jc rfl;rw[Js]at h;exact List.sublist_nil.mp h
section
variable{P:ar}{w:aA}{K:k7x}{mg:k80}{base:aE}{x qual:af}{st:aJ}{f C:ae}{fd:aG}{N ps:List af}{n:Nat}
theorem jli{S:List af->Nat->List D->D->Nat->Prop}(F:Fun K x qual st f fd)(Sc:FnScope N ps (j0 st))(hl:∀ls k ds d k',S ls k ds d k'->ds.length+1=ps.length)
  (hbody:∀(cdv:aa)(A:aD)(outer:List cu)(s:ah)(H:Hp)(E:XK),V5 K f cdv->Room n (A.deeper (ba qual (j0 st) s.heap.objs.size f cdv))->∀o ls k ds d k',S ls k ds d k' ->
   MSs (jx CX0 P w K mg base N qual (j0 st) f cdv A outer s H E).nox C o ls (startM N o.a ds) k (jb st) { nx:=λ_ _=>False,rt:=λd2 k2=>d2=d/\k2=k',ex:=λ_ _=>False }):FnOk P w K mg base CX0 (n+1) f fd ps (spM K C S):=by
 refine FnOk.toM (F.okC Sc (λvs H Q E ⟨o,ls,k,ds,d,k',ws,e,tb,pc,en,hS,_⟩=>by rw[e,X4,en.length];exact hl ls k ds d k' hS) λcdv A outer s H vs Q E hcv hr ⟨o,ls,k,ds,d,k',ws,e,tb,pc,en,hS,q⟩=>⟨_,Zc,?_⟩);subst e;have ho:=Yo N o.a ds;refine hbody cdv A outer s H E hcv hr o ls k ds d k' hS _ H _ (Ub tb en) (by rw[ho,v8];exact pc) ⟨λ_ _ _ _ z=>z.elim,λd2 k2 v H' ⟨e1,e2⟩ pc' g en'=>?_,λ_ _ _ _ z=>z.elim⟩;subst e1 e2;rw[ho]at g;exact q v H' pc' g en'
theorem jjd{S:List af->Nat->List D->af->Prop}(F:Fun K x qual st f fd)(Sc:FnScope N ps (j0 st))(hl:∀ls k ds y,S ls k ds y->ds.length+1=ps.length)
  (hbody:∀(cdv:aa)(A:aD)(outer:List cu)(s:ah)(H:Hp)(E:XK),V5 K f cdv->Room n (A.deeper (ba qual (j0 st) s.heap.objs.size f cdv))->∀o ls k ds y,S ls k ds y ->
   MSs (jx (CX1 P w) P w K mg base N qual (j0 st) f cdv A outer s H E) C o ls (startM N o.a ds) k (jb st) { nx:=λ_ _=>False,rt:=λ_ _=>False,ex:=λz _=>z=y }):FnOk P w K mg base (CX1 P w) (n+1) f fd ps (j6t K mg C S):=by
 obtain⟨oc,od,dV,kV,doc,pm,an,cdv,ct,osl,rfl,lk,hcd⟩:=F.ex;refine j31 lk hcd Sc (λvs H Q E ⟨o,ls,k,ds,y,V,ws,e,tb,pc,en,hS,_⟩=>by rw[e,X4,en.length];exact hl ls k ds y hS) λA outer s H vs Q E hr ⟨o,ls,k,ds,y,V,ws,e,tb,pc,en,hS,hC,hE⟩=>⟨_,Zc,?_⟩
 subst e;have ho:=Yo N o.a ds;refine hbody cdv A outer s H E ⟨oc,od,_,osl,lk,rfl⟩ hr o ls k ds y hS _ H _ (Ub tb en) (by rw[ho,v8];exact pc) ⟨λ_ _ _ _ z=>z.elim,λ_ _ _ _ z=>z.elim,λz ρ' σ' H' n R g=>?_⟩;cases(show z=y from n);intro pins H2 s' e C' I g2 hC' Fe;cases hC.symm.trans hC';unfold FrM at g;rw[ho]at g;refine Dn I Fe (hE H2 λb u z=>?_);obtain⟨nb,z⟩:=of_del z;obtain⟨_,z1⟩:=of_del (g b u (by rw[j7 nb];exact z));rw[j7 nb];exact g2 b u z1
end
section
variable{X:Cx}{ρ:Rho}{a:ai}{p p1 p2 pos:aK}
theorem DO.callT {S:List D->List D->Prop} {x:af} {e:ai} {es:List ai} {ds l:List D} (c:Cal X x (spF X.K S)) (ha:DTA X ρ (e::es) ds) (hS:S ds l) (hn:qb l=a6) (hg:Gl X x) (hdb:(x==k81)=a5)
  (he:a8 (e::es) X.env=(a5,az e X.env)::a8 es X.env) (hpl:(aO pos (a8 es X.env)).any (·.1)=a5):DO X ρ (.Call (.Name x p) (e::es) [] pos) l:=λσ H Q R q=>by
 obtain⟨k,f,fd,ps,F,hr,hm,hk,hb,_⟩:=c.ex;refine(Yw F (hr.mono (Pb _)) hg hm hk hb .nil Oj paS hdb he hpl).to (ha σ H _ R λvs H1 g1 e1=>?_);show spF X.K S (vs++[]) H1 Q E0;rw[Xx];exact⟨[],ds,l,R.tb.mono g1,(λa h=>nomatch h),by rw[v8];exact e1,hS,λa xs H2 g2 n m z=>q a xs H2 (g1.trans g2) (g1.free n) m ((z.mono q8).hide (λc hc=>by
  rcases xn.mp hc with z|z
  .rw[z];exact .inl ⟨xs,m⟩
  .exact .inl ((R.grow (g1.trans g2)).owned c z)) hn)⟩
end
section
variable{X:Cx}{ρ:Rho}{a:ai}{p p1 p2 p3 pos:aK}{y:af}{i n:Int}
theorem Lj:vm X (.type "int") (λxs H Q=>∃y n,xs=[.str y]/\fM y=a4 n/\y.length<=640/\Q (.int n) H):=by intro pins s σ H xs us Q I r h;obtain⟨y,n,rfl,hn,hl,q⟩:=h;obtain⟨u,rfl,t,rfl⟩:=vals1 r;exact PySem.W.KIN.call_text hn hl ⟨.int n,H,I.tok _,⟨_,rfl⟩,q⟩
theorem DE.intS (ha:DT X ρ a (.str y)) (hn:fM y=a4 n) (hl:y.length<=640) (hm:X.mg "int" = a7) (hg:Gl X "int") (hs:a8 [a] X.env=[(a5,az a X.env)]):DE X ρ (.Call (.Name "int" p) [a] [] pos) (.int n):=λσ H Q R q =>(Yb Lj hg hm boot_int (j9 peS jl hs) (by decide) (by decide) hs).to (ha σ H _ R λv H1 g1 e1=>⟨y,n,by rw[show v=.str y from e1],hn,hl,q _ H1 g1 rfl⟩)
end
section
variable{X:Cx}{ρ:Rho}{e:ai}{pos:aK}
noncomputable def tupS(is:List Int):af:=(PyData.tuple (is.map dm)).shown
theorem Oh{K:k7x}{H:Hp}{h:aE}:∀{is:List Int}{xs:List V}{us:List aa},j5 K H (is.map D.int) xs->Vals xs us->ReadsAll h us (is.map dm) []
 |[],xs,us,en,rv=>by have:xs=[]:=en;subst this;cases rv;exact .nil
 |i::is,xs,us,⟨x,r,e,ex,en⟩,rv=>by
  subst e;have ex:x=.int i:=ex;subst ex;cases rv with
  |cons ru rr =>obtain⟨t,rfl⟩:=ru;exact .cons (as:=[]) (.int i t) (Oh en rr)
theorem W2:∀{is:List Int},(∀i∈is,i.natAbs.log2<1920)->dY (is.map dm)=a6
 |[],_=>by simp[dY]
 |i::is,h=>by simp[dY,iz,h i (xq ..),W2 λj hj=>h j (xg _ hj)]
theorem Wh:∀{is:List Int},eZ (is.map dm)=0/\eI (is.map dm)=a5
 |[]=>by simp[eZ,eI]
 |i::is=>by have:=Wh (is:=is);simp[eZ,eI,j3,iK,this.1,this.2]
theorem DE.fmtT{is:List Int}(hg:X.A.guards=a4 [])(hu:X.A.units+100<aU)(ha:DT X ρ e (.tup (is.map D.int)))(hi:∀i∈is,i.natAbs.log2<1920)(hz:(tupS is).length<=ak):DE X ρ (.FormattedValue e (-1) a7 pos) (.str (tupS is)):=λσ H Q R q pins s I=>by
 refine eS (thn (ha σ H (λv H1=>Enc X.K H1 (.tup (is.map D.int)) v/\j4 H H1) R (λv H1 g e=>⟨e,g⟩) pins s I) λu s1 ⟨v,H1,I1,r,ev,g⟩=>?_);obtain⟨a,xs,rfl,sq,en⟩:=ev;cases(show u=aF a from r);obtain⟨its,rv,⟨o,ho,hoc,m,hod⟩,_⟩:=I1.tuple sq;have rd:Reads s1.heap (.ref a) (.tuple (is.map dm)) []:=.tuple ho hoc hod (by simpa using Oh (h:=s1.heap) en rv);exact formatField_of_reads rd (by rw[iz];exact W2 hi) (λz=>by rw[iK,Wh.2]at z;cases z) hg (by rw[j3,Wh.1];omega) (λ_ _ z=>z)
  (λh' w tk hk=>⟨.str (tupS is),H1,I1.kept hk,⟨_,rfl⟩,q _ H1 g rfl⟩) hz
end
end L2
end
section
namespace PySem.W
open PySem PySem.Calls PyProof.Rows
section
variable{prog:ar}{w:aA}{A:aD}{E:k7y}{κ:gT}{it:Array lI}{s:ah}
noncomputable def ks(κ:gT)(it:Array lI)(p:Array Nat)(pd:Array (Nat×Nat×Nat))(g:Nat):SortSt:=SortSt.mk' κ (p.map (kas_item it)) pd g a7
end
end PySem.W
end
section
namespace PySem.W
open PySem PySem.Calls PyProof.Rows
section
variable{prog:ar}{w:aA}{A:aD}{E:k7y}{κ:gT}{it:Array lI}{N:Nat}
noncomputable def bey(l:Bool)(key:Nat)(a:Array Nat)(i:Nat):Option Bool:=match a[i]? with|none=>a7|some x=>a4 (if l then decide (x<key)else !decide (key<x))
noncomputable def gs2(l:Bool)(key:Nat)(a:Array Nat)(base:Nat)(c:Nat×Nat):Option ((Nat×Nat)×Bool) :=
 if c.1>=c.2 then a4 (c,a6)else match bey l key a (base+(c.1+(c.2-c.1)/2)) with
  |none=>a7
  |some b=>if b then a4 ((c.1+(c.2-c.1)/2+1,c.2),a5)else a4 ((c.1,c.1+(c.2-c.1)/2),a5)
end
end PySem.W
end
section
namespace PySem.W
open PySem PySem.Calls PyProof.Rows
noncomputable def rnk(n j:Nat):List Nat:=(au (2^n)).filter (λi=>i/2^(n-1-j)%2==0)++(au (2^n)).filter (λi=>i/2^(n-1-j)%2==1)
end PySem.W
end
section
namespace PySem.W
open PySem PySem.Calls PyProof.Rows
section
variable{prog:ar}{w:aA}{A:aD}{E:k7y}{κ:gT}{it:Array lI}{N:Nat}
theorem jfw{p:Array Nat}{pd:Array (Nat×Nat×Nat)}{g:Nat}:arrOf (ks κ it p pd g)=p.map (kas_item it):=rfl
theorem jj2{p:Array Nat}{pd:Array (Nat×Nat×Nat)}{g:Nat}:pendingOf (ks κ it p pd g)=pd:=rfl
theorem j7r{p:Array Nat}{pd pd':Array (Nat×Nat×Nat)}{g:Nat}:setPending (ks κ it p pd g) pd'=ks κ it p pd' g:=rfl
local macro_rules | `(tactic| walk_at "ksm")=>`(tactic| simp only [jfw,jj2,j7r,Nat.zero_add,Nat.reduceAdd,Nat.reduceSub,Nat.reduceMul,Nat.reduceDiv,Nat.reduceBEq,Nat.reduceLT,Nat.reduceLeDiff,Nat.reduceGT,ge_iff_le,gt_iff_lt,Bool.false_eq_true,↓reduceIte,reduceCtorEq,Array.size_map,beq_self_eq_true,Bool.not_true,Bool.not_false])
local macro_rules | `(tactic| walk_at "kst")=>`(tactic| with_reducible first | refine kasC_get ?_ | refine kasC_modify ?_ | refine kasC_pure ?_ | refine st_range (by rfl) ?_ | refine kasC_nil ?_ | refine st_cons ?_ | refine kasC_bind ?_)
end
end PySem.W
end
section
namespace PySem.W
open PySem PySem.Calls PyProof.Rows
noncomputable def pst(k j:Nat):List Nat:=(au (2^k)).map λr=>(rnk k j).idxOf r
section
variable{prog:ar}{w:aA}{A:aD}{E:k7y}{s:ah}
def jlq(h:aE)(z:Nat)(vs:List aa)(l:List (List Int)):Prop:=vs.length=l.length/\∀i<l.length,(l.getD i []).length=z/\∃a items,vs.getD i aV=.ref a/\ik h a items/\gz items.toList (l.getD i [])
noncomputable def j88:List (List Int)->Bool
 |a::b::r=>HT.lexLt a b&&j88 (b::r)
 |_=>a6
end
end PySem.W
end
section
namespace L2
open PySem PySem.Spec PyProof.Rows
def Ww(K:k7x)(a:ae)(ks:List (List Int))(ns:List Int)(F H:Hp):Prop:=∃(xs:List (List Int×ae×aa)) (ep:Nat),H=upd F a (.dI xs ep)/\F a=a7/\ks=(xs.map λz=>z.1)/\(∀z∈xs,SqT K F z.2.1 (z.1.map V.int))/\Vals (ns.map V.int) (xs.map λz=>z.2.2)
def spD(K:k7x)(S:List (List Int)->List Int->List D->D->List (List Int)->List Int->Prop):Sp:=λvs H Q _=>∃(a:ae)(F:Hp)(ks:List (List Int)) (ns:List Int) (ds:List D) (d:D) (ks':List (List Int)) (ns':List Int) (ws:List V),
 vs=.ref a::ws/\TabOk K F/\Ww K a ks ns F H/\j5 K F ds ws/\S ks ns ds d ks' ns'/\∀v F' H',j4 F F'->Ww K a ks' ns' F' H'->Enc K F' d v->Q v H'
structure CalD(X:Cx)(x:af)(S:List (List Int)->List Int->List D->D->List (List Int)->List Int->Prop):Prop where
 ex:∃(k:Nat)(f:ae)(fd:aG)(ps:List af),FnOk X.prog X.w X.K X.mg X.base CX0 k f fd ps (spD X.K S)/\Room (k+1) X.A/\X.mg x=a4 (.ref f)/\W.keepIn X.K (.ref f)=a6/\Binds X.K fd ps []
def DDb(X:Cx)(ρ:Rho)(sts:List aJ)(a:ae)(ks:List (List Int))(ns:List Int)(d:D)(ks':List (List Int))(ns':List Int):Prop:=∀σ F H E,Rep X.K ρ σ F->Ww X.K a ks ns F H ->
 (∀v F' H',j4 F F'->Ww X.K a ks' ns' F' H'->Enc X.K F' d v->E.rt v H')->Qd X sts E σ H
section
variable{P:ar}{w:aA}{K:k7x}{mg:k80}{base:aE}{x qual:af}{st:aJ}{f:ae}{fd:aG}{N ps:List af}{n:Nat}
theorem jlk{S:List (List Int)->List Int->List D->D->List (List Int)->List Int->Prop}(F:Fun K x qual st f fd)(Sc:FnScope N ps (j0 st))(hl:∀ks ns ds d ks' ns',S ks ns ds d ks' ns'->ds.length+1=ps.length)
  (hbody:∀(cdv:aa)(A:aD)(outer:List cu)(s:ah)(H:Hp)(E:XK),V5 K f cdv->Room n (A.deeper (ba qual (j0 st) s.heap.objs.size f cdv))->∀a ks ns ds d ks' ns',S ks ns ds d ks' ns' ->
   DDb (jx CX0 P w K mg base N qual (j0 st) f cdv A outer s H E).nox (startM N a ds) (jb st) a ks ns d ks' ns'):FnOk P w K mg base CX0 (n+1) f fd ps (spD K S):=by
 refine F.okC Sc (λvs H Q E ⟨a,F0,ks,ns,ds,d,ks',ns',ws,e,tb,dc,en,hS,_⟩=>by rw[e,X4,en.length];exact hl _ _ _ _ _ _ hS) λcdv A outer s H vs Q E hcv hr ⟨a,F0,ks,ns,ds,d,ks',ns',ws,e,tb,dc,en,hS,q⟩=>⟨_,Zc,?_⟩
 subst e;exact hbody cdv A outer s H E hcv hr a ks ns ds d ks' ns' hS _ F0 H _ (Ub tb en) dc λv F' H' g dc' en'=>q v F' H' g dc' en'
end
end L2
end
section
namespace L2
open PySem PySem.Spec PySem.Calls PyProof.Rows
section
variable{prog:ar}{w:aA}{A:aD}{E:k7y}{s:ah}{l:ae}{o:cb}{vs:List aa}{n:Nat}{T:String}
noncomputable def Wr(h:aE)(vs:List aa):aE:=(h.push (gQ "list" #[] 0)).update h.objs.size (dB (· ++ vs.toArray))
theorem Cd(h:aE)(vs:List aa):(Wr h vs).objs.size=h.objs.size+1:=by unfold Wr;rw[Heap.size_update,size_push']
theorem jcy (h:aE):∃c,(Wr h vs).get? h.objs.size=a4 (gQ "list" (#[]++vs.toArray) c):=⟨_,get?_update_seq (Xi _ rfl) _⟩
theorem j37 {Q:List aa->ah->Prop} (hT:T = "list"\/T = "tuple") (ho:s.heap.get? l=a4 o) (hc:o.cls=.type T) (hd:o.data=.seq vs.toArray n) (hz:vs.length<=ak) (h:Q vs { s with heap:=Wr s.heap vs }) :
  ax (ay prog w) A (collect (.ref l)) Q E s:=by
 unfold collect;refine aj (wpAny_runValue (gm entry_proto_collect' ?_));refine aj (lK (aC ⟨Code.quiet_builtin _ (by decide +kernel),gm entry_list_iadd' ?_⟩));have ld:ax (ay prog w) A (load s.heap.objs.size >>= λo=>match o.data with
   |.seq xs _=>pure xs.toList
   |_=>unsupported "internal:collect") Q E { s with heap:=Wr s.heap vs }:=by
  obtain⟨c,hc⟩:=jcy (vs:=vs) s.heap;refine aj (wpAny_load hc (aC ?_));rw[show((#[]:Array aa)++vs.toArray).toList=vs by simp];exact h
 refine aZ (wpAny_extend_seq (A:=A) (hsz:=by simpa using hz) (R:=λr s'=>r=.ok (.ret (.ref s.heap.objs.size))/\s'={ s with heap:=Wr s.heap vs }) (s:={ s with heap:=s.heap.push (gQ "list" #[] 0) }) _ l _ 0 hT (Xi _ rfl) (X8 _ ho) hc hd ⟨rfl,rfl⟩) (λf s' z=>?_) λe s' z=>absurd z.1 (by simp);cases f with
 |done f=>obtain⟨e,rfl⟩:=z;cases e;exact ld
 |again c=>exact⟨z.1,bU z.2 λr s2 hr=>by obtain⟨rfl,rfl⟩:=hr;exact ld⟩
theorem j2d {ss:List af} {Q:k7y} (hT:T = "list"\/T = "tuple") (ho:s.heap.get? l=a4 o) (hc:o.cls=.type T) (hd:o.data=.seq vs.toArray n) (hS:iG vs ss) (h64:vs.length<64)
  (h:∀D h' c out ss',s.heap.objs.size<=D->(∀b u,s.heap.get? b=a4 u->h'.get? b=a4 u)->h'.get? D=a4 (gQ "list" out c)->iG out.toList ss'->ss'.Perm ss->sortedS ss'=a6->Q (.ref D) { s with heap:=h' }) :
  ax (ay prog w) A (call (.builtin "sorted") [.ref l]) Q E s:=by
 have hz:vs.length<=ak:=by rw[br];omega
 refine Calls.call_function_entry kind_sorted plain_sorted entry_sorted (args_sorted1 _) ?_;unfold dX.«sorted»;refine aj (m:=checkCount "sorted" 1 1 _) (aC ?_);refine aj (j37 hT ho hc hd hz ?_);refine aj (lK ?_ hz);show ax _ _ _ _ _ { s with heap:=(Wr s.heap vs).push (gQ "list" vs.toArray 0) };have oL:((Wr s.heap vs).push (gQ "list" vs.toArray 0)).get? (s.heap.objs.size+1)=a4 (gQ "list" vs.toArray 0):=by rw[<-Cd s.heap vs];exact Xi _ rfl
 dsimp only;rw[Cd];refine aj (cL (dN slot_list_sort ⟨_,oL,rfl⟩ entry_list_sort (list_sort_treeK strKind_oneLt oL hS.keysOf (λv₁ v₂ rest e=>keyKind_strs (by rw[<-e];exact hS)) h64 λst' a1 a2=>⟨_,rfl,aC ⟨_,rfl,?_⟩⟩) (args_list_sort _)));obtain⟨ss',h1,h2,h3⟩:=sorted_out_str hS a1 a2;obtain⟨e,he⟩:=sortedAll_at s.heap vs ((arrOf st').map (·.2));exact h _ _ e _ ss' (Pb _) (λb u z=>sortedAll_old z) he h1 h2 h3
end
def leS(a b:af):Prop:=a.cps.toList<=b.cps.toList
noncomputable def Nz(a:af):List af->List af
 |[]=>[a]
 |b::l=>if b.cps.toList<a.cps.toList then b::Nz a l else a::b::l
noncomputable def Qs:List af->List af
 |[]=>[]
 |a::l=>Nz a (Qs l)
theorem Do{a b c:af}(h:leS a b)(g:leS b c):leS a c:=List.le_trans h g
theorem Eb{a b:af}(h:leS a b)(g:leS b a):a=b:=by have e:=List.le_antisymm h g;cases a;cases b;exact congrArg Str.mk (Array.toList_inj.mp e)
theorem Wg(a:af):∀l,(Nz a l).Perm (a::l)
 |[]=>du _
 |b::l=>by
  unfold Nz;split
  .exact((Wg a l).cons b).trans (i7 ..)
  .exact du _
theorem Jy:∀l,(Qs l).Perm l
 |[]=>du _
 |a::l=>(Wg a _).trans ((Jy l).cons a)
theorem j1r{a:af}:∀{l:List af},l.Pairwise leS->(Nz a l).Pairwise leS
 |[],_=>gp ..
 |b::l,h=>by
  obtain⟨h1,h2⟩:=List.pairwise_cons.mp h;unfold Nz;split
  .rename_i z;refine List.pairwise_cons.mpr ⟨λc hc=>?_,j1r h2⟩;rcases xn.mp ((Wg a l).mem_iff.mp hc)with e|e
   .rw[e];exact List.le_of_lt z
   .exact h1 c e
  .rename_i z;have z:leS a b:=List.not_lt.mp z;refine List.pairwise_cons.mpr ⟨λc hc=>?_,h⟩;rcases xn.mp hc with e|e
   .rw[e];exact z
   .exact Do z (h1 c e)
theorem Wz:∀l,(Qs l).Pairwise leS
 |[]=>.nil
 |_::l=>j1r (Wz l)
theorem Df:∀(p:af)(l:List af),risingS p l=a6->(p::l).Pairwise leS
 |p,[],_=>gp ..
 |p,x::r,h=>by
  have h:(!ltCps x.cps.toList p.cps.toList&&risingS x r)=a6:=h;rw[Xd,ltCps_eq]at h;have z:leS p x:=List.not_lt.mp (by simpa using h.1);have q:=Df x r h.2;refine List.pairwise_cons.mpr ⟨λc hc=>?_,q⟩;rcases xn.mp hc with e|e
  .rw[e];exact z
  .exact Do z ((List.pairwise_cons.mp q).1 c e)
theorem j40:∀{l:List af},sortedS l=a6->l.Pairwise leS
 |[],_=>.nil
 |x::r,h=>Df x r h
theorem jb3{l m:List af}(h:m.Perm l)(hm:sortedS m=a6):m=Qs l :=
 fw (λ_ _ _ _ a b=>Eb a b) (j40 hm) (Wz l) (h.trans (Jy l).symm)
theorem j6s{l m:List af}:Qs l=Qs m↔l.Perm m :=
 ⟨λh=>((Jy l).symm.trans (by rw[h])).trans (Jy m),λh=>fw (λ_ _ _ _ a b=>Eb a b) (Wz l) (Wz m) (((Jy l).trans h).trans (Jy m).symm)⟩
theorem U7:∀{ts:List af}{us:List aa},Vals (ts.map V.str) us->iG us ts
 |[],_,h=>by cases h;exact .nil
 |t::ts,_,h=>by
  cases h with
  |cons r h =>obtain⟨k,rfl⟩:=r;exact .cons t k (U7 h)
theorem W3:∀{ts:List af}{us:List aa},iG us ts->Vals (ts.map V.str) us
 |_,_,.nil=>.nil
 |_,_,.cons y t h=>.cons ⟨t,rfl⟩ (W3 h)
theorem Ew{K:k7x}{H:Hp}:∀l:List af,j5 K H (l.map D.str) (l.map V.str)
 |[]=>rfl
 |_::l=>⟨_,_,rfl,rfl,Ew l⟩
section
variable{X:Cx}{ρ:Rho}{a:ai}{p pos:aK}
theorem DO.sortedS {l:List af} {d:D} (hd:d=.lst (l.map D.str)\/d=.tup (l.map D.str)) (h64:l.length<64) (hm:X.mg "sorted" = a7) (hg:Gl X "sorted") (ha:DT X ρ a d) (hs:a8 [a] X.env=[(a5,az a X.env)]) :
  DO X ρ (.Call (.Name "sorted" p) [a] [] pos) ((Qs l).map D.str):=λσ H Q R q pins s I=>by
 refine bh (Vp I hg hm boot_sorted ?_);refine callWith_builtin1 (thn ((j9 (es:=[]) peS jl hs).to (σ:=σ) (H:=H) (Q:=λvs H1=>∃v,vs=[v]/\j4 H H1/\Enc X.K H1 d v) (ha σ H _ R λv H1 g1 e1=>⟨v,rfl,g1,e1⟩) pos pins s I) λus s1 ⟨vs,H1,I1,r1,v,ev,g1,e1⟩=>?_) hs rfl;subst ev;have key:∃(b:ae)(T:String)(o:cb)(its:List aa)(n:Nat),v=.ref b/\(T = "list"\/T = "tuple")/\s1.heap.get? b=a4 o/\o.cls=.type T/\o.data=.seq its.toArray n/\iG its l:=by
  rcases hd with e|e
  .subst e;obtain⟨b,xs,eb,sq,en⟩:=e1;rw[Yi en]at sq;obtain⟨its,rv,⟨o,n,h1,h2,_,h3⟩,_⟩:=I1.list sq;exact⟨b,_,o,its,n,eb,.inl rfl,h1,h2,h3,U7 rv⟩
  .subst e;obtain⟨b,xs,eb,sq,en⟩:=e1;rw[Yi en]at sq;obtain⟨its,rv,⟨o,h1,h2,n,h3⟩,_⟩:=I1.tuple sq;exact⟨b,_,o,its,n,eb,.inr rfl,h1,h2,h3,U7 rv⟩
 obtain⟨b,T,o,its,n,eb,hT,h1,h2,h3,hS⟩:=key;subst eb;obtain⟨u,eu,ru⟩:=r1.one;subst eu;cases(show u=aF b from ru);refine j2d hT h1 h2 h3 hS (by rw[hS.length];exact h64) λD' h' c out ss' hD kp e hS' hp hm'=>?_;have hf:H1 D'=a7:=I1.hok.fresh hD;have es:=jb3 hp hm';subst es;have vv:=W3 hS';have zz:((Qs l).map V.str).length<=ak:=by rw[xj,(Jy l).length_eq,br];omega
 have I4:=I1.laid (t':=s1.toks) (o:=.lst ((Qs l).map V.str)) kp hD ⟨zz,_,c,vv,by rw[e]⟩;refine⟨.ref D',_,I4,rfl,q _ _ _ (g1.trans (j8 hf)) (g1.free hf) jq (Ew _)⟩
end
end L2
end
section
namespace L2
open PySem PySem.Spec PyProof.Rows
theorem je1{α:Type}{l:List α}{i:Nat}{x:α}(h:l[i]?=a4 x):l.set i x=l:=by
 apply Xz;intro j;rw[Tq];split
 .rename_i e;subst e;split
  .exact h.symm
  .rename_i z;rw[Xc nofun]at h;cases h
 .rfl
mutual
noncomputable def flt:D->Bool
 |.non=>a6
 |.bl _=>a6
 |.int _=>a6
 |.str _=>a6
 |.tup l=>jge l
 |_=>a5
noncomputable def jge:List D->Bool
 |[]=>a6
 |d::l=>flt d&&jge l
end
def Wv(H H':Hp)(a:ae)(xs:List V):Prop:=∀x∈xs,∃b ys,x=V.ref b/\b≠a/\H b=a7/\H' b=a4 (.lst ys)
def spG(S:List D->List D->Prop)(K:k7x)(_:k80):Sp:=λvs H Q _=>∃A ds l,TabOk K H/\(∀a∈A,∃xs,H a=a4 (.lst xs))/\j5 K (del H A) ds vs/\S ds l /\
 ∀a xs H',j4 H H'->H a=a7->H' a=a4 (.lst xs)->j5 K (del H' (a::A)) l xs->Wv H H' a xs->Q (.ref a) H'
def jkt(S:List D->List D->Prop)(K:k7x):Sp:=λvs H Q _=>∃ds l,TabOk K H/\j5 K H ds vs/\S ds l /\
 ∀a xs H',j4 H H'->H a=a7->H' a=a4 (.lst xs)->j5 K (del H' [a]) l xs->Wv H H' a xs->Q (.ref a) H'
section
variable{P:ar}{w:aA}{K:k7x}{mg:k80}{base:aE}{n:Nat}{f:ae}{fd:aG}{ps N:List af}{S:List D->List D->Prop}{x qual:af}{st:aJ}
theorem FnOk.toG(F:FnOk P w K mg base CX0 n f fd ps (jkt S K)):FnOk P w K mg base CX0 n f fd ps (spG S K mg) :=
 F.framed.imp λvs H Q E ⟨A,ds,l,tb,hA,en,hS,q⟩=>⟨A,hA,ds,l,tb.del hA,en,hS,λa xs F g na m en' inn hF=>by
  have nA:∀{b:ae}{o:HO},F b=a4 o->b∉A:=λ{b o} e z=>by rw[hF b z]at e;cases e
  refine q a xs (mrg A H F) (λb o z=>?_) (by rw[j7 (nA m)]at na;exact na) (by rw[jg (nA m)];exact m) (en'.mono λb o z=>?_) λx hx=>?_
  .by_cases y:b∈A
   .rw[J3 y];exact z
   .rw[jg y];exact g b o (by rw[j7 y];exact z)
  .obtain⟨nb,z⟩:=of_del z
   rw[j7,jg (nA z)];exact z
   intro y
   rcases xn.mp y with e|y
   .exact nb (by rw[e];exact X6.mpr rfl)
   .exact nA z y
  .obtain⟨b,ys,e,nb,hb,hb'⟩:=inn x hx
   refine⟨b,ys,e,nb,?_,by rw[jg (nA hb')];exact hb'⟩
   rw[j7 (nA hb')]at hb;exact hb⟩
theorem jlj(F:Fun K x qual st f fd)(Sc:FnScope N ps (j0 st))(hl:∀ds l,S ds l->ds.length=ps.length)
  (hbody:∀(cdv:aa)(A:aD)(outer:List cu)(s:ah)(H:Hp)(E:XK),V5 K f cdv->Room n (A.deeper (ba qual (j0 st) s.heap.objs.size f cdv))->∀ds l,S ds l ->
   ∀(σ:St)(H1:Hp)(En:Ends),Rep K (jm N ds) σ H1->(∀a xs H',j4 H1 H'->H1 a=a7->H' a=a4 (.lst xs)->j5 K (del H' [a]) l xs->Wv H1 H' a xs->En.rt (.ref a) H')->Qd (jx CX0 P w K mg base N qual (j0 st) f cdv A outer s H E).nox (jb st) En σ H1) :
  FnOk P w K mg base CX0 (n+1) f fd ps (spG S K mg) :=
 FnOk.toG (F.okC Sc (λvs H Q E ⟨ds,l,tb,en,hS,_⟩=>by rw[en.length];exact hl ds l hS) λcdv A outer s H vs Q E hcv hr ⟨ds,l,tb,en,hS,q⟩=>⟨_,Zc,hbody cdv A outer s H E hcv hr ds l hS _ H _ (Ql tb en) q⟩)
end
section
variable{X:Cx}{ρ:Rho}{it c e:ai}{P:Po}{ds:List D}{g t:Nat}{ng nt:af}{rest:List aJ}{p1 p2 p3 p4 p5 p6 p7 p8 p9 p10 p11 p12:aK}
theorem j8b(W:Nat->Rho->List D->Prop)(rg:g<ρ.length)(hgt:g≠t)(ho:owns ρ=[])(hi:∀a,DI X (ρ.set g (.own a [])) (.Name nt p4) it ds)(h0:∀a,W 0 (ρ.set g (.own a [])) [])
  (hs:∀i d ρ' gs,ds[i]?=a4 d->W i ρ' gs->∃b,DB X (ρ'.set t (.val d)) c b/\(b=a5->W (i+1) (ρ'.set t (.val d)) gs)/\(b=a6->∃l,DO X (ρ'.set t (.val d)) e l/\gs.length<ak/\∀a,W (i+1) ((ρ'.set t (.val d)).set g (.own a (gs++[.lst l]))) (gs++[.lst l])))
  (hc:X.calm=a6) (hp:dP (ay X.prog X.w) X.A X.env X.xe) (hN:X.N.Nodup) (hG:X.N[g]?=a4 ng) (hT:X.N[t]?=a4 nt) (lG:Loc X.env.scope ng) (lT:Loc X.env.scope nt) (fG:X.fn ng=a6\/X.env.scope.names.lookup ng=a4 .local) (fT:X.fn nt=a6\/X.env.scope.names.lookup nt=a4 .local)
  (dG:(ng==k81)=a5) (cG:(ng==k82)=a5) (s1:aP (.List [] p2) (a4 (.Name ng p1)) p3.line X.env=pure a5) (hf:∀x,aH it X.env x=pure x)
  (hst:a8 [e] X.env=[(a5,az e X.env)]) (hline:(p6.endLine==p7.line)=a6) (hbase:aM (.Name ng p5) "append" X.env (az (.Name ng p5) X.env)=az (.Name ng p5) X.env)
  (hfew:((aO p7 (a8 [e] X.env)).all (λx=>!x.1)&&(bo p7 (aT [] X.env)).all (λx=>x.1.isSome)&&decide (([e]:List ai).length+([]:List aR).length+(if ([]:List aR).isEmpty then 0 else 1)<30))=a6)
  (hs2:aP (.Call (.Attribute (.Name ng p5) "append" p6) [e] [] p7) a7 p8.line X.env=pure a5)
  (σ:St) (H:Hp) (E:Ends) (R:Rep X.K ρ σ H) (q:∀ρ' gs a xs H',W ds.length ρ' gs->j4 H H'->H a=a7->H' a=a4 (.lst xs)->j5 X.K (del H' [a]) gs xs->Wv H H' a xs->E.rt (.ref a) H') :
  Qd X [.Assign [.Name ng p1] (.List [] p2) p3,.For (.Name nt p4) it [.If c [.Expr (.Call (.Attribute (.Name ng p5) "append" p6) [e] [] p7) p8] [] p9] [] p10,.Return (a4 (.Name ng p11)) p12] E σ H:=by
 have vG:Vis X.env.scope ng:=lG.elim .inl λz=>.inr (.inl z);refine(Zb (Yu hN hG lG (j4j jl) s1 fG) (Zb (Ig hp hc piS (Yv hN hT lT fT) (R9 (j2j ptS (R9 (Zd (Yc Pu bY cW Ye (v7 hG vG dG cG) (j9 peS jl hst) hbase hfew hline hst rfl) hs2)) Ra)) hf) (R9 (W9 (v7 hG vG dG cG))))).to ?_;refine⟨T9 _,λa ha=>?_⟩;have R0:Rep X.K (ρ.set g (.own a [])) (σ.set g (a4 (.ref a))) (upd H a (.lst [])):=R.set_own (j8 ha) ha jq rfl;have oa0:∀b∈owns (ρ.set g (.own a [])),b=a:=λb hb=>by
  rcases(J2 (ds:=[]) (i:=g) R.nd (R.fresh ha)).2 b hb with z|z
  .exact z
  .rw[ho]at z;cases z
 refine hi a _ _ _ R0 λJ H1 g1 ok=>?_;have gH:j4 H H1:=(j8 ha).trans g1;refine⟨λi m σ' H'=>∃ρ' gs xs,W i ρ' gs/\Rep X.K ρ' σ' H'/\ρ'[g]?=a4 (.own a gs)/\Fr0 (ρ.set g (.own a [])) ρ' H1 H'/\(∀b∈owns ρ',b=a)/\H' a=a4 (.lst xs)/\Wv H H' a xs/\m=ds.length-i/\i<=ds.length,
  ⟨ds.length,_,[],[],h0 a,R0.grow g1,J1 rg,Fr0.refl _ _,oa0,g1 _ _ jq,λx hx=>(nomatch hx),rfl,T9 _⟩,?_⟩
 rintro i m σ' H' ⟨ρ',gs,xs,w,R',hg',f,oa,ma,inn,rfl,hle⟩;have sH:∀b o,H b=a4 o->del H' (owns ρ') b=a4 o:=λb o z=>f b o (by
  rw[j7 λy=>by rw[oa0 b y,ha]at z;cases z];exact gH b o z)
 obtain⟨go,stop,yld⟩:=ok i H' (owns ρ') f λb hb=>by obtain⟨ys,e⟩:=R'.owned b hb;rw[e];simp
 by_cases hlt:i<ds.length
 .refine .inr ⟨go hlt,λσ2 H2=>∃ρ' gs xs,W (i+1) ρ' gs/\Rep X.K ρ' σ2 H2/\ρ'[g]?=a4 (.own a gs)/\Fr0 (ρ.set g (.own a [])) ρ' H1 H2/\(∀b∈owns ρ',b=a)/\H2 a=a4 (.lst xs)/\Wv H H2 a xs,
   λσ2 H2 ⟨ρ2,gs2,xs2,z1,z2,z3,z4,z5,z6,z7⟩=>⟨ds.length-(i+1),by omega,ρ2,gs2,xs2,z1,z2,z3,z4,z5,z6,z7,rfl,hlt⟩,λx H2 y=>?_⟩
  obtain⟨g2,en⟩:=yld x H2 y;obtain⟨b,hB,hF,hT'⟩:=hs i ds[i] ρ' gs (kh hlt) w;have R2:Rep X.K (ρ'.set t (.val ds[i])) (σ'.set t (a4 x)) H2:=(R'.grow g2).set_val (en _ (kh hlt));have hg2:(ρ'.set t (.val ds[i]))[g]?=a4 (.own a gs):=by rw[qi (bF hgt)];exact hg'
  have oa2:∀b∈owns (ρ'.set t (.val ds[i])),b=a:=λb hb=>oa b ((jc rfl).subset hb);have f2:Fr0 (ρ.set g (.own a [])) (ρ'.set t (.val ds[i])) H1 H2:=j4.trans f (j4.trans (Fr0.grow g2) (Fr0.drop λb hb=>(jc rfl).subset hb));show Ku X c (σ'.set t (a4 x)) H2 _;refine hB _ H2 _ R2 λH3 g3=>?_;have inn3:∀{H4:Hp},j4 H3 H4->Wv H H4 a xs:=λ{H4} g4 x hx=>by obtain⟨b,ys,e,nb,hb,hb'⟩:=inn x hx;exact⟨b,ys,e,nb,hb,g4 _ _ (g3 _ _ (g2 _ _ hb'))⟩
  have m3:H3 a=a4 (.lst xs):=g3 _ _ (g2 _ _ ma);cases b with
  |false=>exact Nx ⟨_,gs,xs,hF rfl,R2.grow g3,hg2,f2.trans (Fr0.grow g3),oa2,m3,inn3 (j4.refl _)⟩
  |true =>
   refine Ei ?_;obtain⟨l,hO,hl,hW⟩:=hT' rfl;obtain⟨hσ,xs3,m3',enx⟩:=(R2.grow g3).own g a gs hg2;rw[m3]at m3';cases m3';refine⟨_,hσ,.inl ⟨rfl,xs,.inl (.inl m3)⟩,hO _ H3 _ (R2.grow g3) λb ys H4 g4 nb mb enb=>⟨a,xs,.ref b,rfl,rfl,g4 _ _ m3,by rw[enx.length];exact hl,?_⟩⟩;have nba:b≠a:=λz=>by rw[z,m3]at nb;cases nb
   have nbo:b∉owns (ρ'.set t (.val ds[i])):=λz=>nba (oa2 b z);have R4:=(R2.grow (g3.trans g4)).upd_own hg2 ((enx.mono (jf g4)).append (.one (d:=.lst l) ⟨b,ys,rfl,.inl (.inl (by rw[j7 nbo];exact mb)),enb.mono (zy λc hc=>xg _ hc)⟩));refine⟨_,gs++[.lst l],xs++[.ref b],hW a,R4,J1 (by rw[Ti];exact(Xb.mp hg').1),(f2.trans (Fr0.grow g3)).trans (Yz (σ:=σ) hg2 g4),by rw[Jo hg2];exact oa2,jq,λx hx=>?_⟩;rcases ph.mp hx with z|z
   .obtain⟨b',ys',e,n1,h1,h2⟩:=inn3 g4 x z;exact⟨b',ys',e,n1,h1,by rw[je n1];exact h2⟩
   .rw[X6.mp z];refine⟨b,ys,rfl,nba,?_,by rw[je nba];exact mb⟩;cases y:H b with
    |none=>rfl
    |some o =>have:=g3 _ _ (g2 _ _ (of_del (sH b o y)).2);rw[nb]at this;cases this
 .have e:i=ds.length:=by omega
  subst e;obtain⟨hσ,xs3,m3',enx⟩:=R'.own g a gs hg';rw[ma]at m3';cases m3';exact .inl ⟨stop (X7 _),.ref a,hσ,q ρ' gs a xs H' w (λb o z=>(of_del (sH b o z)).2) ha ma (enx.mono (zy λb hb=>by rw[X6.mp hb];exact Jh hg')) inn⟩
theorem DSs.clrs{S:List D->List D->Prop}{gn:af}{es:List ai}{a0:ai}{f:Nat}{nf:af}{l:List D}{sa:List aJ}{ct:ai}{k:Nat}{fa:ae}{fd:aG}{ps:List af}
  (F:FnOk X.prog X.w X.K X.mg X.base CX0 k fa fd ps (spG S X.K X.mg)) (hr:Room k X.A) (hm:X.mg gn=a4 (.ref fa)) (hk:W.keepIn X.K (.ref fa)=a6) (hb:Binds X.K fd ps [])
  (hg:Gl X gn) (hdb:(gn==k81)=a5) (he:a8 (a0::es) X.env=(a5,az a0 X.env)::a8 es X.env) (hpl:(aO p2 (a8 es X.env)).any (·.1)=a5)
  (ha:DA X ρ (a0::es) ds) (hS:S ds l) (hcn:∀a,DB X (ρ.set f (.own a l)) ct a5) (hft:f≠t) (h:DSs X ((ρ.set f .un).set t .un) rest P)
  (hc:X.calm=a6) (hp:dP (ay X.prog X.w) X.A X.env X.xe) (hN:X.N.Nodup) (hF:X.N[f]?=a4 nf) (hT:X.N[t]?=a4 nt) (lF:Loc X.env.scope nf) (lT:Loc X.env.scope nt) (fF:X.fn nf=a6\/X.env.scope.names.lookup nf=a4 .local) (fT:X.fn nt=a6\/X.env.scope.names.lookup nt=a4 .local)
  (dF:(nf==k81)=a5) (cF:(nf==k82)=a5) (dT:(nt==k81)=a5) (cT:(nt==k82)=a5) (rf:f<ρ.length) (rt:t<ρ.length)
  (s1:aP (.Call (.Name gn p1) (a0::es) [] p2) (a4 (.Name nf p3)) p4.line X.env=pure a5) (hf:∀x,aH (.Name nf p6) X.env x=pure x)
  (hbase:aM (.Name nt p8) "clear" X.env (az (.Name nt p8) X.env)=az (.Name nt p8) X.env) (hline:(p9.endLine==p10.line)=a6) (s2:aP (.Call (.Attribute (.Name nt p8) "clear" p9) [] [] p10) a7 p11.line X.env=pure a5) :
  DSs X ρ (.Assign [.Name nf p3] (.Call (.Name gn p1) (a0::es) [] p2) p4::.If ct sa [] p5::.For (.Name nt p7) (.Name nf p6) [.Expr (.Call (.Attribute (.Name nt p8) "clear" p9) [] [] p10) p11] [] p12::rest) P:=λσ H E R q=>by
 have vF:Vis X.env.scope nf:=lF.elim .inl λz=>.inr (.inl z);have vT:Vis X.env.scope nt:=lT.elim .inl λz=>.inr (.inl z);refine(Zb (Yu hN hF lF (Yw F hr hg hm hk hb .nil Oj paS hdb he hpl) s1 fF) (Zb (j2j ptS Zc Ra) (Zb (Ig hp hc (j1c (v7 hF vF dF cF)) (Yv hN hT lT fT) (R9 (Zd (jey Pu hJ PySem.F.type_list_clear j7h (v7 hT vT dT cT) hbase hline) s2)) hf) Zc))).to ?_;refine ha σ H _ R λvs H1 g1 e1=>?_;show spG S X.K X.mg (vs++[]) H1 _ E0;rw[Xx];have R1:=R.grow g1;refine⟨owns ρ,ds,l,R1.tb,R1.owned,e1,hS,λa xs H2 g2 na ma en inn=>?_⟩;have Rf:Rep X.K (ρ.set f (.own a l)) (σ.set f (a4 (.ref a))) H2:=R1.set_own g2 na ma en;show Ku X ct (σ.set f (a4 (.ref a))) H2 _;refine hcn a _ H2 _ Rf λH3 g3=>Nx ?_;have sf:(σ.set f (a4 (.ref a)))[f]?=a4 (a4 (.ref a)):=J1 (by rw[R.len];exact rf);refine⟨.ref a,sf,a,rfl,⟨xs,SqL.of (g3 _ _ ma)⟩,j8g (xs:=xs) (λi σ' H'=>(∃v,σ'=(σ.set f (a4 (.ref a))).set t v)/\j4 H1 H'/\H' a=a4 (.lst xs)/\Wv H1 H' a xs) ?_ ?_ ?_ ?_⟩
 .refine⟨⟨((σ.set f (a4 (.ref a)))[t]?).join,?_⟩,g2.trans g3,g3 _ _ ma,λx hx=>?_⟩
  .have ht:t<(σ.set f (a4 (.ref a))).length:=by rw[Ti,R.len];exact rt
   exact(je1 (by rw[kh ht];rfl)).symm
  .obtain⟨b,ys,e,nb,hb,hb'⟩:=inn x hx;exact⟨b,ys,e,nb,hb,g3 _ _ hb'⟩
 .rintro i σ' H' _ ⟨_,_,z,_⟩;exact SqL.of z
 .rintro i x σ' H' hx ⟨⟨v,rfl⟩,gS,m',inn'⟩;obtain⟨b,ys,e,nb,hb1,hb2⟩:=inn' x (Xl hx);subst e;have st:(((σ.set f (a4 (.ref a))).set t v).set t (a4 (.ref b)))[t]?=a4 (a4 (.ref b)):=J1 (by rw[Ti,Ti,R.len];exact rt);refine⟨_,st,.inl ⟨rfl,ys,.inl (.inl hb2)⟩,b,ys,rfl,rfl,hb2,?_⟩;refine⟨⟨a4 (.ref b),by rw[jZ]⟩,λc o z=>?_,by rw[je (bF nb)];exact m',λy hy=>?_⟩
  .rw[je λw=>by rw[w,hb1]at z;cases z];exact gS c o z
  .obtain⟨b',ys',e',n1,h1,h2⟩:=inn' y hy;by_cases w:b'=b
   .exact⟨b',[],e',n1,h1,by rw[w];exact jq⟩
   .exact⟨b',ys',e',n1,h1,by rw[je w];exact h2⟩
 .rintro σ' H' ⟨⟨v,rfl⟩,gS,_,_⟩;have RR:Rep X.K ((ρ.set f .un).set t .un) ((σ.set f (a4 (.ref a))).set t v) H':=((R1.grow gS).set_un).set_un;exact h _ H' E RR (q.step (j4.trans (Fr0.grow (g1.trans gS)) (Fr0.drop λb hb=>(jc rfl).subset ((jc rfl).subset hb))))
end
def NmT(X:Cx):List af->List ai->Prop
 |[],es=>es=[]
 |c::cs,es=>∃p r,es=.Name c p::r/\c∈jt/\(c==("ValueError":af))=a5/\Gl X c/\(c==k81)=a5/\a8 (.Name c p::r) X.env=(a5,az (.Name c p) X.env)::a8 r X.env/\NmT X cs r
def ClL(X:Cx)(C:ae)(x:af):List af->List ae->Prop
 |[],Cs=>Cs=[]
 |c::cs,Cs=>∃D r,Cs=D::r/\X.mg c=a4 (.ref D)/\W.kitOne X.K (.ref C) (.ref D)=a4 (x==c)/\ClL X C x cs r
section
variable{X:Cx}{ρ:Rho}{i:Nat}{a:ae}{o:cb}{x y:af}{p p1 p4 pos:aK}{m:Nat}
theorem jfc{C:ae}:∀{cs:List af}{es:List ai}{Cs:List ae},NmT X cs es->ClL X C x cs Cs->∀{σ:St}{H:Hp}{Q:List V->Hp->Prop},Q (Cs.map V.ref) H->W6 X es σ H Q
 |[],_,_,e,e2,σ,H,Q,q=>by cases e;cases e2;exact jl.to q
 |c::cs,_,_,⟨p,r,e,h1,h2,h3,h4,h5,h6⟩,⟨D,rs,e2,g1,g2,g3⟩,σ,H,Q,q=>by subst e e2;exact(j9 (Nq (v:=.ref D) h3 g1 rfl h4) paS h5).to (jfc h6 g3 q)
theorem j4r{C:ae}:∀{cs:List af}{Cs:List ae},ClL X C x cs Cs->W.kitAny X.K (.ref C) (Cs.map aF)=a4 (cs.any λc=>x==c)
 |[],_,e=>by cases e;rfl
 |c::cs,_,⟨D,rs,e,g1,g2,g3⟩=>by
  subst e;rw[X3];unfold W.kitAny;rw[g2,T5];cases(x==c)
  .exact j4r g3
  .rfl
theorem j9z{C:ae}(ha:Jv X.K=a6)(F:ExOne X.K x C)(hv:∀c∈jt,∃v,W.nsIn X.K aq c=a4 (a4 v)/\X.mg c=a4 v):∀{cs:List af}{es:List ai},NmT X cs es->∃Cs,ClL X C x cs Cs/\Cs.length=cs.length
 |[],_,_=>⟨[],rfl,rfl⟩
 |c::cs,_,⟨p,r,e,h1,h2,h3,h4,h5,h6⟩=>by obtain⟨Cs,g,hl⟩:=j9z ha F hv h6;obtain⟨v,n,mg⟩:=hv c h1;obtain⟨D,rfl,_⟩:=Vw ha h1 n;exact⟨D::Cs,⟨D,Cs,rfl,mg,F.one c h1 _ n,g⟩,by rw[X4,X4,hl]⟩
theorem j4s:∀{cs:List af}{es:List ai},NmT X cs es->(cs.any λc=>c == "ValueError" || x==c)=cs.any λc=>x==c
 |[],_,_=>rfl
 |c::cs,_,⟨p,r,e,h1,h2,h3,h4,h5,h6⟩=>by rw[T5,T5,h2,gc,j4s h6]
theorem Dc:∀{Cs:List ae}{us:List aa},Vals (Cs.map V.ref) us->us=Cs.map aF
 |[],_,h=>by cases h;rfl
 |C::Cs,_,h=>by
  cases h with
  |cons r h=>cases(show _=aF C from r);rw[Dc h];rfl
theorem j61:vm X (.builtin "isinstance") (λxs H Q=>∃(a t:ae)(o:cb)(C:ae)(Cs:List ae)(b:Bool),xs=[.ref a,.ref t]/\H a=a4 (.frz o (.own a))/\o.cls=.ref C/\XcOk X.K C/\SqT X.K H t (Cs.map V.ref)/\W.kitAny X.K (.ref C) (Cs.map aF)=a4 b/\Q (.bl b) H):=by rintro pins s σ H xs us Q I r ⟨a,t,o,C,Cs,b,e,ha,hc,hk,sq,kk,q⟩;subst e;obtain⟨u1,u2,eu,r1,r2⟩:=vals2 r;subst eu;cases(show u1=aF a from r1);cases(show u2=aF t from r2);obtain⟨its,rv,⟨⟨cl,dd,da,sl⟩,h1,h2,n,h3⟩,_⟩:=I.tuple sq;have h2:cl=.type "tuple":=h2;have h3:da=.seq its.toArray n:=h3;subst h2 h3;have ei:=Dc rv;subst ei;exact W.kia_tup (Ec hk) I.kIn ⟨(I.hok a _ ha).1,hc⟩ h1 kk (λz=>nomatch z) λtk=>⟨.bl b,H,I.tok tk,rfl,q⟩
theorem DE.isxN {cs:List af} {es:List ai} (ha:Jv X.K=a6) (hx:x∈jt) (h:ρ[i]?=a4 (.raw a o x)) (hm:X.mg "isinstance" = a7) (hv:∀c∈jt,∃v,W.nsIn X.K aq c=a4 (a4 v)/\X.mg c=a4 v) (hcs:NmT X cs es) (hl:cs.length<=20)
  (hN:X.N[i]?=a4 y) (hvi:Vis X.env.scope y) (hd:(y==k81)=a5) (hcd:(y==k82)=a5) (hg:Gl X "isinstance") (hs:a8 [.Name y p1,.Tuple es m p4] X.env=(a5,az (.Name y p1) X.env)::a8 [.Tuple es m p4] X.env)
  (hs2:a8 [.Tuple es m p4] X.env=(a5,az (.Tuple es m p4) X.env)::a8 [] X.env) (hpl:(aO pos (a8 [.Tuple es m p4] X.env)).any (·.1)=a5) :
  DE X ρ (.Call (.Name "isinstance" p) [.Name y p1,.Tuple es m p4] [] pos) (.bl (cs.any λc=>x==c)):=λσ H Q R q=>by
 obtain⟨q1,q2,C,e,F⟩:=Ia ha hx R h;obtain⟨Cs,hC,hlen⟩:=j9z ha F hv hcs;refine(zb j61 hg hm cZ (j9 (v7 hN hvi hd hcd) (j9 (Ii paS) jl hs2) hs) (by decide) (by decide) hs hpl).to ⟨.ref a,q1,jfc hcs hC ⟨?_,λt ht=>?_⟩⟩
 .rw[xj,hlen,br];omega
 .exact⟨a,t,o,C,Cs,_,rfl,by rw[je (λz=>by rw[z,ht]at q2;cases q2)];exact q2,e,F.ok,.inl (.inl jq),j4r hC,q _ _ (j8 ht) rfl⟩
end
end L2
end
section
namespace L2
noncomputable def step(acc:List (List Int))(f:List Int):List (List Int):=acc.flatMap λa=>f.map λx=>a++[x]
noncomputable def zp(fs:List (List Int)):List (List Int):=fs.foldl step [[]]
noncomputable def Uc:List (List Int)->List (List Int)
 |[]=>[[]]
 |f::fs=>f.flatMap λx=>(Uc fs).map (x :: ·)
theorem Bh:∀(fs:List (List Int)) (acc:List (List Int)),fs.foldl step acc=acc.flatMap λa=>(Uc fs).map (a ++ ·)
 |[],acc=>by simp[Uc]
 |f::fs,acc=>by
  rw[bV,Bh fs,step,List.flatMap_assoc];congr 1
  funext a
  rw[Uc,List.map_flatMap,List.flatMap_map];congr 1
  funext x
  rw[Xg];congr 1
  funext r
  simp
theorem j39(fs:List (List Int)):zp fs=Uc fs:=by rw[zp,Bh];simp
noncomputable def Qt:Nat->List (List Int)
 |0=>[[]]
 |m+1=>(Qt m).map (0 :: ·)++(Qt m).map (1 :: ·)
theorem Uo{b:Int}(hb:0<b)(n c:Int):∀{i m:Nat},i<=m->jz b i (n+b^m*c)=jz b i n
 |0,m,_=>rfl
 |i+1,m,h=>by
  rw[jz,jz,Uo hb n c nofun];congr 1;obtain⟨k,rfl⟩:∃k,m=i+(k+1):=⟨m-i-1,by omega⟩
  have hp:b^i≠0:=kI (di hb);rw[Int.pow_add,gw,i0 _ _ hp,dH,dJ (b^k) b,gw,Int.add_mul_emod_self_left]
theorem Kz:∀m:Nat,(au (2^m)).map (λn=>jz 2 m ((n:Nat):Int))=Qt m
 |0=>rfl
 |m+1=>by
  have e:2^(m+1)=2^m+2^m:=by rw[gU];omega
  rw[e,List.range_add,Xp,Qt,<-Kz m,Xg,Xg,Xg];have pc:((2^m:Nat):Int)=(2:Int)^m:=by simp
  congr 1
  .apply cJ;intro n hn;have hn':n<2^m:=Xa.mp hn;show jz 2 (m+1) (n:Int)=0::jz 2 m (n:Int);rw[jz];congr 1;have h0:(n:Int)/2^m=0:=cj nofun (by rw[<-pc];omega)
   rw[h0];rfl
  .apply cJ;intro n hn;have hn':n<2^m:=Xa.mp hn;show jz 2 (m+1) ((2^m+n:Nat):Int)=1::jz 2 m (n:Int);have e1:((2^m+n:Nat):Int)=(n:Int)+2^m*1:=by rw[Int.natCast_add,pc,l7,gY]
   rw[e1,jz,Uo (by decide) _ _ (X7 m)];congr 1;have hp:(2:Int)^m≠0:=kI (di (by decide));have h0:(n:Int)/2^m=0:=cj nofun (by rw[<-pc];omega)
   rw[i0 _ _ hp,h0];rfl
end L2
end
section
namespace L2
open PySem
inductive Sv where
 |un
 |val (d:D)
 |own (l:List D)
 |exc (x:af)
noncomputable abbrev En:=List Sv
set_option genInjectivity true in
inductive Rk where
 |e (d:D)
 |o (l:List D)
 |w (l:List D)
 |t (d:D)
noncomputable def Rk.d:Rk->D
 |.e d=>d
 |.o l=>.lst l
 |.w l=>.lst l
 |.t d=>d
noncomputable def Rk.st:Rk->Option D
 |.e d=>a4 d
 |.o l=>a4 (.lst l)
 |.w l=>a7
 |.t d=>if Q7 d=a6 then a4 d else a7
noncomputable def Rk.sq:Rk->Option (Bool×List D)
 |.e (.lst l)=>a4 (a6,l)
 |.e (.tup l)=>a4 (a5,l)
 |.o l=>a4 (a6,l)
 |.w l=>a4 (a6,l)
 |_=>a7
noncomputable def Rk.lw:Rk->Option (List D)
 |.o l=>a4 l
 |.w l=>a4 l
 |_=>a7
inductive Rc where
 |val (d:D)
 |fresh (l:List D)
 |err (x:af)
 |lval (d:D)
 |mval (d:D) (k:Nat)
 |merr (x:af)
 |dval (d:D) (ks:List (List Int)) (ns:List Int)
 |hnd (sp:k7x->(af->Option aa)->Sp)
 |no
noncomputable def Rc.rk:Rc->Option Rk
 |.val d=>a4 (.e d)
 |.fresh l=>a4 (.o l)
 |_=>a7
inductive Bop where
 |add|sub|mul|fdiv|mod|pow|shl|shr|band|bxor
inductive Cop where
 |lt|le|gt|ge|eq|ne|isin|notin
inductive Bf where
 |len|min|max|all|tuple|list|sum|int|any|sorted
inductive Ex where
 |lit (d:D)
 |var (i:Nat)
 |glob (x:af)
 |bin (op:Bop) (a b:Ex)
 |neg (a:Ex)
 |cmp (op:Cop) (a b:Ex)
 |isN (a:Ex)
 |and (a b:Ex)
 |or (a b:Ex)
 |not (a:Ex)
 |nil
 |cons (a b:Ex)
 |tup (es:Ex)
 |lst (es:Ex)
 |ix (a b:Ex)
 |sl (a lo hi:Ex)
 |call (f:af) (es:Ex)
 |blt (f:Bf) (es:Ex)
 |isi (a:Ex) (ts:List String)
 |comp (is:List Nat) (elt it cond:Ex)
 |seq (a:Ex)
 |range (es:Ex)
 |fst (es:Ex)
 |isx (i:Nat) (cs:List af)
 |join (sep:af) (a:Ex)
 |enum (a:Ex)
 |srt (a:Ex)
 |tix (a b:Ex)
 |chn (a b c:Ex)
 |rpr (a:Ex)
 |exc (a:Ex)
 |dget (a b:Ex)
set_option genInjectivity true in
inductive W where
 |v (r:Rk)
 |a (rs:List Rk)
 |i (ds:List D)
noncomputable def jj(n:Nat):Bool:=decide (n<=ak)
noncomputable def binI:Bop->Int->Int->Option Int
 |.add,i,j=>a4 (i+j)
 |.sub,i,j=>a4 (i-j)
 |.mul,i,j=>if (-(2^64)<i/\i<2^64)\/(-(2^64)<j/\j<2^64)then a4 (i*j)else a7
 |.fdiv,i,j=>if 0<j/\j<18446744073709551616 then a4 (i/j)else a7
 |.mod,i,j=>if 0<j then a4 (i%j)else a7
 |.pow,i,j=>if 0<=j/\j<=1000000/\i.natAbs<2^64 then a4 (i^j.toNat)else a7
 |.shl,i,j=>if 0<=j/\j<=1000000/\i.natAbs<2^64 then a4 (i*2^j.toNat)else a7
 |.shr,i,j=>if 0<=j then a4 (i/2^j.toNat)else a7
 |.band,i,j=>a4 (cH i j)
 |.bxor,i,j=>a4 (aY i j)
noncomputable def Uu(op:Bop)(a b:Rk):Option Rk :=
 match a.d,b.d with
 |.int i,.int j=>(binI op i j).map λk=>.e (.int k)
 |.str y,.str z=>match op with
  |.add=>if jj (y.length+z.length)=a6 then a4 (.e (.str (y++z)))else a7
  |_=>a7
 |.str y,.int k=>match op with
  |.mul=>if (1<=k/\k<=1000)/\y.length<=1000 then a4 (.e (.str (iy y k)))else a7
  |_=>a7
 |_,_=>match op,a.sq,b.sq,b.d with
  |.add,a4 (a6,l),a4 (a6,m),_=>if jj (l.length+m.length)=a6 then a4 (.o (l++m))else a7
  |.add,a4 (a5,l),a4 (a5,m),_=>if jj (l.length+m.length)=a6 then a4 (.e (.tup (l++m)))else a7
  |.mul,a4 (a5,l),_,.int k=>if 1<=k/\k<2^63/\l.isEmpty=a5/\jj (l.length*k.toNat)=a6 then a4 (.e (.tup (ao k.toNat l).flatten))else a7
  |.mul,_,_,.int k=>match a.lw with
   |some l=>if -(2^63)<=k/\k<2^63/\jj (l.length*k.toNat)=a6 then a4 (.o (ao k.toNat l).flatten)else a7
   |none=>a7
  |_,_,_,_=>a7
noncomputable def cmpI:Cop->Int->Int->Option Bool
 |.lt,i,j=>a4 (decide (i<j))
 |.le,i,j=>a4 (decide (i<=j))
 |.gt,i,j=>a4 (decide (j<i))
 |.ge,i,j=>a4 (decide (j<=i))
 |.eq,i,j=>a4 (decide (i=j))
 |.ne,i,j=>a4 (!decide (i=j))
 |_,_,_=>a7
noncomputable def D.sqv:D->Option (Bool×List D)
 |.lst l=>a4 (a6,l)
 |.tup l=>a4 (a5,l)
 |_=>a7
noncomputable def vg(op:Cop)(a b:D):Option Bool :=
 match op,a,b with
 |op,.int i,.int j=>cmpI op i j
 |.eq,a,b=>if a.dep<=90/\b.dep<=90 then a4 (deq a b)else a7
 |.ne,.bl a,.bl b=>a4 (a != b)
 |.ne,.str a,.str b=>a4 (!decide (a=b))
 |.ne,.non,.non=>a4 a5
 |.ne,.lst l,.lst m=>if D.depL l<=90/\D.depL m<=90 then a4 (!qx l m)else a7
 |.ne,.tup l,.tup m=>if D.depL l<=90/\D.depL m<=90 then a4 (!qx l m)else a7
 |.isin,.str a,.str b=>a4 (inS a b)
 |.lt,.str a,.str b=>a4 (decide (a.cps.toList<b.cps.toList))
 |.gt,.str a,.str b=>a4 (decide (b.cps.toList<a.cps.toList))
 |.isin,a,b=>match b.sqv with
  |some (_,l)=>if D.depL l<=90/\a.dep<=90 then a4 (l.any λe=>deq e a)else a7
  |none=>a7
 |.notin,a,b=>match b.sqv with
  |some (_,l)=>if D.depL l<=90/\a.dep<=90 then a4 (!l.any λe=>deq e a)else a7
  |none=>a7
 |_,_,_=>a7
noncomputable def boolsOf:List D->Option (List Bool)
 |[]=>a4 []
 |.bl b::r=>(boolsOf r).map (b :: ·)
 |_::_=>a7
noncomputable def intsOf:List D->Option (List Int)
 |[]=>a4 []
 |.int b::r=>(intsOf r).map (b :: ·)
 |_::_=>a7
noncomputable def strsOf:List D->Option (List af)
 |[]=>a4 []
 |.str b::r=>(strsOf r).map (b :: ·)
 |_::_=>a7
noncomputable def Q6:Bf->List Rk->Option Rk
 |.len,[a]=>match a.d with
  |.lst l=>a4 (.e (.int l.length))
  |.tup l=>a4 (.e (.int l.length))
  |.str y=>if jj y.length=a6 then a4 (.e (.int y.length))else a7
  |_=>a7
 |.min,[a,b]=>match a.d,b.d with
  |.int i,.int j=>a4 (.e (.int (if j<i then j else i)))
  |_,_=>a7
 |.max,[a,b]=>match a.d,b.d with
  |.int i,.int j=>a4 (.e (.int (if j>i then j else i)))
  |_,_=>a7
 |.max,[a]=>match a.d with
  |.lst l=>match intsOf l with
   |some ns=>if ns.isEmpty=a5 then a4 (.e (.int (Yp ns)))else a7
   |none=>a7
  |_=>a7
 |.min,[a]=>match a.d with
  |.lst l=>match intsOf l with
   |some ns=>if ns.isEmpty=a5 then a4 (.e (.int (Wd ns)))else a7
   |none=>a7
  |_=>a7
 |.all,[a]=>match a.d with
  |.lst l=>(boolsOf l).map λbs=>.e (.bl (bs.all id))
  |_=>a7
 |.any,[a]=>match a.d with
  |.lst l=>(boolsOf l).map λbs=>.e (.bl (bs.any id))
  |_=>a7
 |.tuple,[a]=>match a.sq with
  |some (_,l)=>a4 (.e (.tup l))
  |none=>a7
 |.list,[a]=>match a.sq with
  |some (_,l)=>a4 (.o l)
  |none=>a7
 |.sum,[a]=>match a.d with
  |.lst l=>(intsOf l).map λns=>.e (.int ns.sum)
  |.tup l=>(intsOf l).map λns=>.e (.int ns.sum)
  |_=>a7
 |.int,[a]=>match a.d with
  |.bl k=>a4 (.e (.int (if k then 1 else 0)))
  |.str y=>if y.length<=640 then(fM y).map λn=>.e (.int n)else a7
  |_=>a7
 |_,_=>a7
noncomputable def qt(t c:String):Option Bool :=
 if t = "function" then a7 else
 if c = "int" then a4 (t == "int" || t == "bool") else
 if c = "bool" then a4 (t == "bool") else
 if c = "str" then a4 (t == "str") else
 if c = "list" then a4 (t == "list") else
 if c = "tuple" then a4 (t == "tuple")else a7
noncomputable def q9(d:D):List String->Option Bool
 |[]=>a4 a5
 |c::cs=>match qt d.ty c,q9 d cs with
  |some a,a4 b=>a4 (a || b)
  |_,_=>a7
noncomputable def qz:List Nat->D->En->Option En
 |[i],d,ρ=>a4 (ρ.set i (.val d))
 |[i,j],d,ρ=>match d with
  |.tup [a,b]=>a4 ((ρ.set i (.val a)).set j (.val b))
  |_=>a7
 |[i,j,k],d,ρ=>match d with
  |.tup [a,.tup [b,c]]=>a4 (((ρ.set i (.val a)).set j (.val b)).set k (.val c))
  |_=>a7
 |[i,j,k,_],d,ρ=>match d with
  |.tup [a,b,c]=>a4 (((ρ.set i (.val a)).set j (.val b)).set k (.val c))
  |_=>a7
 |_,_,_=>a7
noncomputable def Bg(is:List Nat)(ρ:En):Bool:=is.all λi=>match ρ[i]? with
 |some .un=>a6
 |_=>a5
noncomputable def Jj(f:D->Option (Option D)):List D->Option (List D)
 |[]=>a4 []
 |d::ds=>match f d,Jj f ds with
  |some (a4 x),a4 xs=>a4 (x::xs)
  |some a7,a4 xs=>a4 xs
  |_,_=>a7
noncomputable def zu:List Rk->Option (List D)
 |[]=>a4 []
 |r::rs=>match r.st,zu rs with
  |some d,a4 ds=>a4 (d::ds)
  |_,_=>a7
noncomputable def W.one:W->Option Rk
 |.v r=>a4 r
 |_=>a7
noncomputable def W.args:W->Option (List Rk)
 |.a rs=>a4 rs
 |_=>a7
noncomputable def W.it:W->Option (List D)
 |.i ds=>a4 ds
 |_=>a7
noncomputable def Q5:Option W->Option (Option Int)
 |some (.a [])=>a4 a7
 |some (.a [r])=>match r.d with
  |.int i=>a4 (a4 i)
  |_=>a7
 |_=>a7
noncomputable def truth:Option W->Option Bool
 |some (.v r)=>match r.d with
  |.bl k=>a4 k
  |_=>a7
 |_=>a7
noncomputable def j8f:Ex->Option Nat
 |.seq (.var i)=>a4 i
 |.enum (.var i)=>a4 i
 |_=>a7
noncomputable def frz(t:Ex)(ρ:En):En:=match j8f t with
 |some i=>match ρ[i]? with
  |some (.own l)=>ρ.set i (.val (.lst l))
  |_=>ρ
 |none=>ρ
noncomputable def Jc(t:Ex)(ρ:En):Bool:=match j8f t with
 |some i=>match ρ[i]? with
  |some (.own _)=>a6
  |_=>a5
 |none=>a5
noncomputable def Ji:D->Option af
 |.int i=>if -18446744073709551616<i/\i<18446744073709551616 then a4 (dz (toString i))else a7
 |.str y=>if y.length<=10000 then a4 y else a7
 |.tup l=>match intsOf l with
  |some is=>if (∀i∈is,-18446744073709551616<i/\i<18446744073709551616)/\(tupS is).length<=10000 then a4 (tupS is)else a7
  |none=>a7
 |_=>a7
noncomputable def Jk:List Rk->Option (List af)
 |[]=>a4 []
 |r::rs=>match Ji r.d,Jk rs with
  |some y,a4 ys=>a4 (y::ys)
  |_,_=>a7
noncomputable def bang(x:af):af:=("!":af)++x
noncomputable def qm(f:af):af:=("??":af)++f
noncomputable def mq(f:af):af:=("@":af)++f
noncomputable def dq(f:af):af:=("#":af)++f
noncomputable def gq(f:af):af:=("&":af)++f
noncomputable def tupI:D->Option (List Int)
 |.tup l=>intsOf l
 |_=>a7
noncomputable def Rc.lv:Rc->Option W
 |.lval d=>a4 (.v (.e d))
 |_=>a7
noncomputable def Mt(w:Option W):Option W:=match w with
 |some (.a rs)=>if rs.length<=1000 then(Jk rs).map λys=>.v (.e (.str (Ov cP ys)))else a7
 |_=>a7
noncomputable def N5(s:Option Sv):Option W:=match s with
 |some (.val d)=>a4 (.v (.e d))
 |some (.own l)=>a4 (.v (.w l))
 |_=>a7
noncomputable def blW(i:Option Bool):Option W:=i.map λk=>.v (.e (.bl k))
noncomputable def rkW(r:Option Rk):Option W:=r.map .v
noncomputable def Qi(op:Bop)(a b:Option W):Option W:=match a,b with
 |some (.v x),a4 (.v y)=>rkW (Uu op x y)
 |_,_=>a7
noncomputable def Ip(a:Option W):Option W:=match a with
 |some (.v x)=>match x.d with
  |.int i=>a4 (.v (.e (.int (-i))))
  |_=>a7
 |_=>a7
noncomputable def Fp(op:Cop)(a b:Option W):Option W:=match a,b with
 |some (.v x),a4 (.v y)=>blW (vg op x.d y.d)
 |_,_=>a7
noncomputable def consW(a b:Option W):Option W:=match a,b with
 |some (.v x),a4 (.a xs)=>a4 (.a (x::xs))
 |_,_=>a7
noncomputable def Yl(a:Option W):Option W:=match a with
 |some (.a rs)=>match zu rs with
  |some ds=>if jj ds.length=a6 then a4 (.v (.e (.tup ds)))else a7
  |none=>a7
 |_=>a7
noncomputable def Ze(a:Option W):Option W:=match a with
 |some (.a rs)=>match zu rs with
  |some ds=>if jj ds.length=a6 then a4 (.v (.o ds))else a7
  |none=>a7
 |_=>a7
noncomputable def ixW(a b:Option W):Option W:=match a,b with
 |some (.v x),a4 (.v y)=>match x.sq,y.d with
  |some (_,l),.int i=>(atI l i).map λd=>.v (.e d)
  |none,.int i=>match x.d with
   |.str z=>if jj z.length=a6 then(atI z.cps.toList i).map λc=>.v (.e (.str ⟨#[c]⟩))else a7
   |_=>a7
  |_,_=>a7
 |_,_=>a7
noncomputable def Rh(sep:af)(a:Option W):Option W:=match a with
 |some (.v x)=>match x.d with
  |.lst l=>match strsOf l with
   |some ts=>if eQ sep ts=a6 then a4 (.v (.e (.str (dU sep ts))))else a7
   |none=>a7
  |_=>a7
 |_=>a7
noncomputable def Yn(a b:Option W):Option W:=match a,b with
 |some (.v x),a4 (.v y)=>match x.d with
  |.tup l=>if D.depL l<=90/\y.d.dep<=90 then(ixD y.d l).map λk=>.v (.e (.int (k:Nat)))else a7
  |.lst l=>if D.depL l<=90/\y.d.dep<=90 then(ixD y.d l).map λk=>.v (.e (.int (k:Nat)))else a7
  |_=>a7
 |_,_=>a7
noncomputable def Nf(a:Option W):Option W:=match a with
 |some (.v x)=>match x.d with
  |.lst l=>match strsOf l with
   |some ts=>if ts.length<64 then a4 (.v (.o ((Qs ts).map D.str)))else a7
   |none=>a7
  |.tup l=>match strsOf l with
   |some ts=>if ts.length<64 then a4 (.v (.o ((Qs ts).map D.str)))else a7
   |none=>a7
  |_=>a7
 |_=>a7
noncomputable def Bo(a:Option W):Option W:=match a with
 |some (.v x)=>match x.st with
  |some (.lst l)=>a4 (.i (Q8 l))
  |some (.tup l)=>a4 (.i (Q8 l))
  |_=>a7
 |_=>a7
noncomputable def J8(Γ:af->List D->Rc)(f:af)(a:Option W):Option W:=match a with
 |some (.a rs)=>match zu rs with
  |some ds=>rkW (Γ f ds).rk
  |none=>match Γ f (rs.map Rk.d) with
   |.val d=>a4 (.v (.t d))
   |.fresh l=>if qb l=a6 then a4 (.v (.o l))else a7
   |_=>a7
 |_=>a7
noncomputable def qy(f:Bf)(a:Option W):Option W:=match a with
 |some (.a rs)=>rkW (Q6 f rs)
 |_=>a7
noncomputable def Ny(a:Option W)(ts:List String):Option W:=match a with
 |some (.v x)=>blW (q9 x.d ts)
 |_=>a7
noncomputable def W5(a:Option W):Option W:=match a with
 |some (.v (.e (.lst l)))=>a4 (.i l)
 |some (.v (.e (.tup l)))=>a4 (.i l)
 |some (.v (.o l))=>a4 (.i l)
 |some (.v (.e (.str y)))=>if ascii y=a6 then a4 (.i (chs y))else a7
 |_=>a7
noncomputable def W8(a:Option W):Option W:=match a with
 |some (.a [x])=>match x.d with
  |.int n=>if -(2^62)<=n/\n<2^62 then a4 (.i (upto 0 n.toNat))else a7
  |_=>a7
 |some (.a [x,y])=>match x.d,y.d with
  |.int m,.int n=>if -(2^62)<=m/\m<2^62/\-(2^62)<=n/\n<2^62 then a4 (.i (upto m (n-m).toNat))else a7
  |_,_=>a7
 |_=>a7
noncomputable def j05(a b c:Option W):Option W:=match a,b,c with
 |some (.v x),a4 (.v y),a4 (.v z)=>match x.d,y.d,z.d with
  |.int i,.int j,.int k=>a4 (.v (.e (.bl (decide (i<j)&&decide (j<k)))))
  |_,_,_=>a7
 |_,_,_=>a7
noncomputable def noOwn(ρ:En):Bool:=ρ.all λs=>match s with
 |.own _=>a5
 |_=>a6
noncomputable def jjj(a b:Option W):Option W:=match a,b with
 |some (.v (.e (.dct ks ds))),a4 (.v y)=>match tupI y.d with
  |some k=>(j36 ks ds k).map λd=>.v (.e d)
  |none=>a7
 |_,_=>a7
noncomputable def ev(Γ:af->List D->Rc)(G:af->Option D):Ex->En->Option W
 |.lit d,_=>a4 (.v (.e d))
 |.var i,ρ=>N5 ρ[i]?
 |.glob x,_=>(G x).map λd=>.v (.e d)
 |.bin op a b,ρ=>Qi op (ev Γ G a ρ) (ev Γ G b ρ)
 |.neg a,ρ=>Ip (ev Γ G a ρ)
 |.cmp op a b,ρ=>Fp op (ev Γ G a ρ) (ev Γ G b ρ)
 |.isN a,ρ=>match ev Γ G a ρ with
  |some (.v x)=>a4 (.v (.e (.bl x.d.isNon)))
  |_=>a7
 |.and a b,ρ=>match truth (ev Γ G a ρ) with
  |some a5=>a4 (.v (.e (.bl a5)))
  |some a6=>(truth (ev Γ G b ρ)).map λk=>.v (.e (.bl k))
  |none=>a7
 |.or a b,ρ=>match truth (ev Γ G a ρ) with
  |some a6=>a4 (.v (.e (.bl a6)))
  |some a5=>(truth (ev Γ G b ρ)).map λk=>.v (.e (.bl k))
  |none=>a7
 |.not a,ρ=>(truth (ev Γ G a ρ)).map λk=>.v (.e (.bl (!k)))
 |.nil,_=>a4 (.a [])
 |.cons a b,ρ=>consW (ev Γ G a ρ) (ev Γ G b ρ)
 |.tup es,ρ=>Yl (ev Γ G es ρ)
 |.lst es,ρ=>Ze (ev Γ G es ρ)
 |.ix a b,ρ=>ixW (ev Γ G a ρ) (ev Γ G b ρ)
 |.sl a lo hi,ρ=>match ev Γ G a ρ,Q5 (ev Γ G lo ρ),Q5 (ev Γ G hi ρ) with
  |some (.v x),a4 l,a4 h=>match x.sq with
   |some (a6,ds)=>a4 (.v (.o (cutD ds l h)))
   |some (a5,ds)=>if HT.sIx ds.length 0 l=0/\HT.sIx ds.length ds.length h=ds.length then a7 else a4 (.v (.e (.tup (cutD ds l h))))
   |none=>match x.d with
    |.str z=>if jj z.length=a6 then a4 (.v (.e (.str (bc z l h))))else a7
    |_=>a7
  |_,_,_=>a7
 |.call f es,ρ=>J8 Γ f (ev Γ G es ρ)
 |.blt f es,ρ=>qy f (ev Γ G es ρ)
 |.isi a ts,ρ=>Ny (ev Γ G a ρ) ts
 |.comp is elt it cond,ρ=>match ev Γ G it (frz it ρ) with
  |some (.i ds)=>if Bg is (frz it ρ)=a6/\jj ds.length=a6 then
    (Jj (λd=>match qz is d (frz it ρ) with
     |none=>a7
     |some ρ2=>match ev Γ G cond ρ2 with
      |some (.a [])=>match ev Γ G elt ρ2 with
       |some (.v x)=>x.st.map a4
       |_=>a7
      |some (.a [y])=>match y.d with
       |.bl a6=>match ev Γ G elt ρ2 with
        |some (.v x)=>x.st.map a4
        |_=>a7
       |.bl a5=>a4 a7
       |_=>a7
      |_=>a7) ds).bind λl=>if (Jc it ρ && !qb l)=a6 then a7 else a4 (.v (.o l))
   else a7
  |_=>a7
 |.seq a,ρ=>W5 (ev Γ G a ρ)
 |.chn a b c,ρ=>j05 (ev Γ G a ρ) (ev Γ G b ρ) (ev Γ G c ρ)
 |.range es,ρ=>W8 (ev Γ G es ρ)
 |.fst es,ρ=>Mt (ev Γ G es ρ)
 |.isx i cs,ρ=>match ρ[i]?,G "?" with
  |some (.exc x),a4 (.bl a6)=>if jt.contains x=a6 then a4 (.v (.e (.bl (cs.any λc=>c == "ValueError" || x==c))))else a7
  |_,_=>a7
 |.join sep a,ρ=>Rh sep (ev Γ G a ρ)
 |.enum a,ρ=>Bo (ev Γ G a ρ)
 |.tix a b,ρ=>Yn (ev Γ G a ρ) (ev Γ G b ρ)
 |.rpr a,ρ=>match ev Γ G a ρ with
  |some (.v x)=>match x.d with
   |.str y=>if (aI y).length<=2000 then a4 (.v (.e (.str (aI y))))else a7
   |_=>a7
  |_=>a7
 |.exc a,ρ=>ev Γ G a ρ
 |.srt a,ρ=>Nf (ev Γ G a ρ)
 |.dget a b,ρ=>jjj (ev Γ G a ρ) (ev Γ G b ρ)
section
variable{Γ:af->List D->Rc}{G:af->Option D}{ρ:En}
theorem K8{d}:ev Γ G (.lit d) ρ=(a4 (.v (.e d))):=(rfl)
theorem jjq{i}:ev Γ G (.var i) ρ=(N5 ρ[i]?):=(rfl)
theorem jho{x}:ev Γ G (.glob x) ρ=((G x).map λd=>.v (.e d)):=(rfl)
theorem jk1{op a b}:ev Γ G (.bin op a b) ρ=(Qi op (ev Γ G a ρ) (ev Γ G b ρ)):=(rfl)
theorem jjx{a}:ev Γ G (.neg a) ρ=(Ip (ev Γ G a ρ)):=(rfl)
theorem jag{op a b}:ev Γ G (.cmp op a b) ρ=(Fp op (ev Γ G a ρ) (ev Γ G b ρ)):=(rfl)
theorem jaf{a}:ev Γ G (.isN a) ρ=(match ev Γ G a ρ with
  |some (.v x)=>a4 (.v (.e (.bl x.d.isNon)))
  |_=>a7):=(rfl)
theorem jah{a b}:ev Γ G (.and a b) ρ=(match truth (ev Γ G a ρ) with
  |some a5=>a4 (.v (.e (.bl a5)))
  |some a6=>(truth (ev Γ G b ρ)).map λk=>.v (.e (.bl k))
  |none=>a7):=(rfl)
theorem jls{a b}:ev Γ G (.or a b) ρ=(match truth (ev Γ G a ρ) with
  |some a6=>a4 (.v (.e (.bl a6)))
  |some a5=>(truth (ev Γ G b ρ)).map λk=>.v (.e (.bl k))
  |none=>a7):=(rfl)
theorem jjw{a}:ev Γ G (.not a) ρ=((truth (ev Γ G a ρ)).map λk=>.v (.e (.bl (!k)))):=(rfl)
theorem Uy:ev Γ G (.nil) ρ=(a4 (.a [])):=(rfl)
theorem Y4{a b}:ev Γ G (.cons a b) ρ=(consW (ev Γ G a ρ) (ev Γ G b ρ)):=(rfl)
theorem jjr{es}:ev Γ G (.tup es) ρ=(Yl (ev Γ G es ρ)):=(rfl)
theorem jjy{es}:ev Γ G (.lst es) ρ=(Ze (ev Γ G es ρ)):=(rfl)
theorem jlt{a b}:ev Γ G (.ix a b) ρ=(ixW (ev Γ G a ρ) (ev Γ G b ρ)):=(rfl)
theorem jlr{a lo hi}:ev Γ G (.sl a lo hi) ρ=(match ev Γ G a ρ,Q5 (ev Γ G lo ρ),Q5 (ev Γ G hi ρ) with
  |some (.v x),a4 l,a4 h=>match x.sq with
   |some (a6,ds)=>a4 (.v (.o (cutD ds l h)))
   |some (a5,ds)=>if HT.sIx ds.length 0 l=0/\HT.sIx ds.length ds.length h=ds.length then a7 else a4 (.v (.e (.tup (cutD ds l h))))
   |none=>match x.d with
    |.str z=>if jj z.length=a6 then a4 (.v (.e (.str (bc z l h))))else a7
    |_=>a7
  |_,_,_=>a7):=(rfl)
theorem jhr{f es}:ev Γ G (.call f es) ρ=(J8 Γ f (ev Γ G es ρ)):=(rfl)
theorem Vf{f es}:ev Γ G (.blt f es) ρ=(qy f (ev Γ G es ρ)):=(rfl)
theorem jae{a ts}:ev Γ G (.isi a ts) ρ=(Ny (ev Γ G a ρ) ts):=(rfl)
theorem jhq{is elt it cond}:ev Γ G (.comp is elt it cond) ρ=(match ev Γ G it (frz it ρ) with
  |some (.i ds)=>if Bg is (frz it ρ)=a6/\jj ds.length=a6 then
    (Jj (λd=>match qz is d (frz it ρ) with
     |none=>a7
     |some ρ2=>match ev Γ G cond ρ2 with
      |some (.a [])=>match ev Γ G elt ρ2 with
       |some (.v x)=>x.st.map a4
       |_=>a7
      |some (.a [y])=>match y.d with
       |.bl a6=>match ev Γ G elt ρ2 with
        |some (.v x)=>x.st.map a4
        |_=>a7
       |.bl a5=>a4 a7
       |_=>a7
      |_=>a7) ds).bind λl=>if (Jc it ρ && !qb l)=a6 then a7 else a4 (.v (.o l))
   else a7
  |_=>a7):=(rfl)
theorem jju{a}:ev Γ G (.seq a) ρ=(W5 (ev Γ G a ρ)):=(rfl)
theorem jk0{a b c}:ev Γ G (.chn a b c) ρ=(j05 (ev Γ G a ρ) (ev Γ G b ρ) (ev Γ G c ρ)):=(rfl)
theorem jdd{es}:ev Γ G (.range es) ρ=(W8 (ev Γ G es ρ)):=(rfl)
theorem jjz{es}:ev Γ G (.fst es) ρ=(Mt (ev Γ G es ρ)):=(rfl)
theorem j3g {i cs}:ev Γ G (.isx i cs) ρ=(match ρ[i]?,G "?" with
  |some (.exc x),a4 (.bl a6)=>if jt.contains x=a6 then a4 (.v (.e (.bl (cs.any λc=>c == "ValueError" || x==c))))else a7
  |_,_=>a7):=(rfl)
theorem jhn{sep a}:ev Γ G (.join sep a) ρ=(Rh sep (ev Γ G a ρ)):=(rfl)
theorem jhp{a}:ev Γ G (.enum a) ρ=(Bo (ev Γ G a ρ)):=(rfl)
theorem jjs{a b}:ev Γ G (.tix a b) ρ=(Yn (ev Γ G a ρ) (ev Γ G b ρ)):=(rfl)
theorem jjv{a}:ev Γ G (.rpr a) ρ=(match ev Γ G a ρ with
  |some (.v x)=>match x.d with
   |.str y=>if (aI y).length<=2000 then a4 (.v (.e (.str (aI y))))else a7
   |_=>a7
  |_=>a7):=(rfl)
theorem jjt{a}:ev Γ G (.srt a) ρ=(Nf (ev Γ G a ρ)):=(rfl)
end
noncomputable def er(Γ:af->List D->Rc)(G:af->Option D):Ex->En->Option af
 |.call f es,ρ=>match er Γ G es ρ with
  |some x=>if (G (qm f)).isSome=a6 then a4 x else a7
  |none=>match ev Γ G es ρ with
   |some (.a rs)=>match Γ f (rs.map Rk.d) with
    |.err x=>if (G (bang x)).isSome=a6 then a4 x else a7
    |_=>a7
   |_=>a7
 |.cons a b,ρ=>match er Γ G a ρ with
  |some x=>a4 x
  |none=>match ev Γ G a ρ with
   |some (.v _)=>er Γ G b ρ
   |_=>a7
 |.ix a _,ρ=>er Γ G a ρ
 |.dget a b,ρ=>match er Γ G a ρ with
  |some x=>a4 x
  |none=>match ev Γ G a ρ with
   |some (.v _)=>er Γ G b ρ
   |_=>a7
 |.exc (.comp [i] elt it .nil),ρ=>match ev Γ G it ρ with
  |some (.i (d::_))=>if Bg [i] ρ=a6 then er Γ G elt (ρ.set i (.val d))else a7
  |_=>a7
 |_,_=>a7
end L2
end
section
namespace L2
open PySem PySem.Spec PyProof.Rows
def DM(X:Cx)(ρ:Rho)(e:ai)(s:Bool)(ds:List D):Prop:=∀σ H Q,Rep X.K ρ σ H->(∀a xs H',j4 H H'->SqB X.K s H' a xs->j5 X.K (del H' (owns ρ)) ds xs->Q (.ref a) H')->Q0 X e σ H Q
section
variable{X:Cx}{ρ:Rho}{e a b c:ai}{es:List ai}{d:D}{ds ds':List D}{i j:Int}{pos p p2:aK}{k:Nat}{x:af}{s:Bool}
theorem jib{K:k7x}{H:Hp}{a:ae}{xs:List V}(h:SqL K H a xs):SqB K a6 H a xs:=by unfold SqB;rw[if_pos rfl];exact h
theorem Yt{K:k7x}{H:Hp}{a:ae}{xs:List V}(h:SqB K a6 H a xs):SqL K H a xs:=by unfold SqB at h;rw[if_pos rfl]at h;exact h
theorem Jz{K:k7x}{H:Hp}{a:ae}{xs:List V}(h:SqB K a5 H a xs):SqT K H a xs:=by unfold SqB at h;rw[if_neg xm]at h;exact h
theorem DE.toM(h:DE X ρ e (D.seq s ds)):DM X ρ e s ds:=λσ H Q R q=>h σ H Q R λv H1 g1 e1=>by obtain⟨t,xs,ev,sq,en⟩:=Zi e1;subst ev;exact q t xs H1 g1 (q8.seqB sq) en
theorem DL.toM(h:DL X ρ e ds):DM X ρ e a6 ds:=λσ H Q R q=>h σ H Q R λt xs H1 g1 m en=>q t xs H1 g1 (jib (.inl (.inl m))) en
theorem DO.toM(h:DO X ρ e ds):DM X ρ e a6 ds:=h.toL.toM
def Has(X:Cx)(ρ:Rho)(e:ai):Rk->Prop
 |.e d=>DE X ρ e d
 |.o l=>DO X ρ e l
 |.w l=>DL X ρ e l
 |.t d=>DT X ρ e d
theorem Has.toT:∀{r:Rk},Has X ρ e r->DT X ρ e r.d
 |.e _,h=>DE.toT h
 |.o _,h=>DL.toT (DO.toL h)
 |.w _,h=>DL.toT h
 |.t _,h=>h
theorem Has.toE:∀{r:Rk}{d:D},Has X ρ e r->r.st=a4 d->DE X ρ e d
 |.e _,_,h,q=>by cases q;exact h
 |.o _,_,h,q=>by cases q;exact DO.toE h
 |.w _,_,h,q=>by cases q
 |.t d',d,h,q=>by
  have q:(if Q7 d'=a6 then a4 d' else a7)=a4 d:=q;by_cases z:Q7 d'=a6
  .rw[if_pos z]at q;cases q;exact DT.toE h z
  .rw[if_neg z]at q;cases q
theorem Has.toM:∀{r:Rk}{s:Bool}{l:List D},Has X ρ e r->r.sq=a4 (s,l)->DM X ρ e s l
 |.e (.lst l),_,_,h,q=>by cases q;exact DE.toM (s:=a6) h
 |.e (.tup l),_,_,h,q=>by cases q;exact DE.toM (s:=a5) h
 |.e .non,_,_,_,q=>by cases q
 |.e (.bl _),_,_,_,q=>by cases q
 |.e (.int _),_,_,_,q=>by cases q
 |.e (.str _),_,_,_,q=>by cases q
 |.o l,_,_,h,q=>by cases q;exact DO.toM h
 |.w l,_,_,h,q=>by cases q;exact DL.toM h
 |.t _,_,_,_,q=>by cases q
theorem jbw:OpR X (b7 .Add) (λx y H Q=>∃l b xs zs,x=.ref l/\y=.ref b/\SqL X.K H l xs/\SqL X.K H b zs/\xs.length+zs.length<=ak/\∀p,H p=a7->Q (.ref p) (upd H p (.lst (xs++zs)))):=by
 intro pins s σ H x y v u Q I rx ry h;obtain⟨l,b,xs,zs,e1,e2,hH,hB,hz,q⟩:=h;subst e1 e2;cases rx;cases ry;obtain⟨us,ru,⟨⟨c1,d1,f1,g1⟩,n1,h1,k1,w1,m1⟩,_⟩:=I.list hH;obtain⟨vs,rv,⟨⟨c2,d2,f2,g2⟩,n2,h2,k2,w2,m2⟩,_⟩:=I.list hB;have k1:c1=.type "list":=k1;have m1:f1=.seq us.toArray n1:=m1;have k2:c2=.type "list":=k2;have m2:f2=.seq vs.toArray n2:=m2;subst k1 m1 k2 m2;have l1:=ru.length;have l2:=rv.length;have ea:us.toArray++vs.toArray=(us++vs).toArray:=by simp
 refine fN ⟨_,h1,rfl⟩ ⟨_,h2,rfl⟩ noFill_list_add seq_list_add PySem.F.slot_list_add PySem.F.entry_list_add (PySem.F.args_list_add_2 _ _)
  (list_addW l b us.toArray vs.toArray n1 n2 d1 d2 g1 g2 (by rw[xu,xu,<-l1,<-l2];exact hz)) ⟨h1,h2,?_⟩
 rw[ea];exact⟨.ref _,_,I.lnew (t':=s.toks) (ru.append rv) (by rw[Xe];exact hz),rfl,q _ I.fresh⟩
theorem DO.catM(ha:DM X ρ a a6 ds)(hb:DM X ρ b a6 ds')(hl:ds.length+ds'.length<=ak):DO X ρ (.BinOp a .Add b pos) (ds++ds'):=λσ H Q R q =>
 (Y9 jbw peS peS).to (ha σ H _ R λl xs H1 g1 s1 e1=>hb σ H1 _ (R.grow g1) λl' ys H2 g2 s2 e2 =>
  ⟨l,l',xs,ys,rfl,rfl,g2.seq (Yt s1),Yt s2,by rw[e1.length,e2.length];exact hl,λp hp=>q p _ _ ((g1.trans g2).trans (j8 hp)) ((g1.trans g2).free hp) jq (Um hp ((e1.mono (jf g2)).append e2))⟩)
theorem DE.catTM(ha:DM X ρ a a5 ds)(hb:DM X ρ b a5 ds')(hl:ds.length+ds'.length<=ak):DE X ρ (.BinOp a .Add b pos) (.tup (ds++ds')):=λσ H Q R q =>
 (Y9 j7e peS peS).to (ha σ H _ R λt xs H1 g1 sq l=>hb σ H1 _ (R.grow g1) λt' ys H2 g2 sq' l'=>by
  have l2:=l.mono (jf g2)
  have enT:∀{t:ae}{xs:List V}{ds:List D},SqT X.K H2 t xs->j5 X.K (del H2 (owns ρ)) ds xs->Enc X.K (del H2 (owns ρ)) (.tup ds) (.ref t):=λ{t xs ds} sq l=>by
   refine⟨t,xs,rfl,?_,l⟩
   have ow:=(R.grow (g1.trans g2)).owned
   have out:∀{o:HO},H2 t=a4 o->(∀zs,o≠.lst zs)->del H2 (owns ρ) t=a4 o:=λ{o} h z=>by
    rw[j7];exact h
    intro y;obtain⟨zs,e'⟩:=ow t y;rw[h]at e';cases e';exact z zs rfl
   rcases sq with (h|⟨o,h⟩)|h
   .exact .inl (.inl (out h λ_ z=>by cases z))
   .exact .inl (.inr ⟨o,out h λ_ z=>by cases z⟩)
   .exact .inr h
  refine⟨t,t',xs,ys,rfl,rfl,g2.seqT (Jz sq),Jz sq',by rw[l.length,l'.length];exact hl,λh=>?_,λh h'=>?_,λh h' p hp=>?_⟩
  .subst h
   cases ds with
   |nil=>exact q _ H2 (g1.trans g2) (enT (Jz sq') l')
   |cons _ _=>have:=l.length;cases this
  .subst h'
   cases ds' with
   |nil=>exact q _ H2 (g1.trans g2) (by rw[Xx];exact enT (g2.seqT (Jz sq)) l2)
   |cons _ _=>have:=l'.length;cases this
  .have np:p∉owns ρ:=(R.grow (g1.trans g2)).fresh hp
   exact q _ _ ((g1.trans g2).trans (j8 hp)) ⟨p,xs++ys,rfl,.inl (.inl (by rw[j7 np];exact jq)),(l2.append l').mono (jf (j8 hp))⟩)
theorem DE.ixM(ha:DM X ρ a s ds)(hb:DT X ρ b (.int i))(h:L2.atI ds i=a4 d)(hs:Ro b):DE X ρ (.Subscript a b pos) d:=by
 cases s with
 |true=>exact λσ H Q R q=>(Lx jc6 peS peS hs).to (ha σ H _ R λl xs H1 g1 sq en=>hb σ H1 _ (R.grow g1) λu H2 g2 e2=>by
   obtain⟨y,hy,ey⟩:=en.atI h
   exact⟨l,xs,i,y,rfl,e2,g2.seq (Yt sq),hy,q y H2 (g1.trans g2) (ey.mono (jf g2))⟩)
 |false=>exact λσ H Q R q=>(Lx j58 peS peS hs).to (ha σ H _ R λl xs H1 g1 sq en=>hb σ H1 _ (R.grow g1) λu H2 g2 e2=>by
   obtain⟨y,hy,ey⟩:=en.atI h
   exact⟨l,xs,i,y,rfl,e2,g2.seqT (Jz sq),hy,q y H2 (g1.trans g2) (ey.mono (jf g2))⟩)
variable{lo hi:Option ai}{l u:Option Int}
theorem DO.sliceM(ha:DM X ρ a a6 ds)(hl:DP X ρ lo l)(hu:DP X ρ hi u):DO X ρ (.Subscript a (.Slice lo hi a7 p2) pos) (cutD ds l u):=λσ H Q R q =>
 (Mj jb5 peS poS poS).to (ha σ H _ R λt xs H1 g1 sq en=>hl σ H1 _ (R.grow g1) λH2 g2=>hu σ H2 _ (R.grow (g1.trans g2)) λH3 g3=>⟨t,xs,rfl,(g2.trans g3).seq (Yt sq),λp hp =>
  q p _ _ ((g1.trans (g2.trans g3)).trans (j8 hp)) ((g1.trans (g2.trans g3)).free hp) jq (Um hp ((en.mono (jf (g2.trans g3))).cut l u))⟩)
theorem DE.sliceM(ha:DM X ρ a a5 ds)(hl:DP X ρ lo l)(hu:DP X ρ hi u)(hw:¬(HT.sIx ds.length 0 l=0/\HT.sIx ds.length ds.length u=ds.length)):DE X ρ (.Subscript a (.Slice lo hi a7 p2) pos) (.tup (cutD ds l u)):=λσ H Q R q =>
 (Mj jdy peS poS poS).to (ha σ H _ R λt xs H1 g1 sq en=>hl σ H1 _ (R.grow g1) λH2 g2=>hu σ H2 _ (R.grow (g1.trans g2)) λH3 g3=>⟨t,xs,rfl,(g2.trans g3).seqT (Jz sq),by rw[en.length];exact hw,λp hp =>
  q _ _ ((g1.trans (g2.trans g3)).trans (j8 hp)) ⟨p,_,rfl,.inl (.inl (by rw[j7 ((R.grow (g1.trans (g2.trans g3))).fresh hp)];exact jq)),((en.mono (jf (g2.trans g3))).cut l u).mono (jf (j8 hp))⟩⟩)
theorem DE.tupM (ha:DM X ρ a s ds) (hm:X.mg "tuple" = a7) (hg:Gl X "tuple") (hs:a8 [a] X.env=[(a5,az a X.env)]):DE X ρ (.Call (.Name "tuple" p) [a] [] pos) (.tup ds):=λσ H Q R q =>
 (Yb Li hg hm boot_tuple (j9 peS jl hs) (by decide) (by decide) hs).to (ha σ H _ R λl xs H1 g1 sq en=>by
  cases s with
  |true =>
   refine⟨l,xs,rfl,.inl ⟨Yt sq,λt ht=>?_⟩⟩
   have nt:t∉owns ρ:=(R.grow g1).fresh ht
   exact q _ _ (g1.trans (j8 ht)) ⟨t,xs,rfl,.inl (.inl (by rw[j7 nt];exact jq)),en.mono (jf (j8 ht))⟩
  |false =>
   refine⟨l,xs,rfl,.inr ⟨Jz sq,?_⟩⟩
   refine q _ _ g1 ⟨l,xs,rfl,?_,en⟩
   have ow:=(R.grow g1).owned
   have out:∀{o:HO},H1 l=a4 o->(∀zs,o≠.lst zs)->del H1 (owns ρ) l=a4 o:=λ{o} h z=>by
    rw[j7];exact h
    intro y;obtain⟨zs,e'⟩:=ow l y;rw[h]at e';cases e';exact z zs rfl
   rcases Jz sq with (h|⟨o,h⟩)|h
   .exact .inl (.inl (out h λ_ z=>by cases z))
   .exact .inl (.inr ⟨o,out h λ_ z=>by cases z⟩)
   .exact .inr h)
theorem DO.listM (ha:DM X ρ a s ds) (hm:X.mg "list" = a7) (hg:Gl X "list") (hs:a8 [a] X.env=[(a5,az a X.env)]):DO X ρ (.Call (.Name "list" p) [a] [] pos) ds:=λσ H Q R q =>
 (Yb j08 hg hm boot_list (j9 peS jl hs) (by decide) (by decide) hs).to (ha σ H _ R λl xs H1 g1 sq en =>
  ⟨l,xs,rfl,(by cases s with|true=>exact .inl (Yt sq)|false=>exact .inr (Jz sq)),λp hp=>q p _ _ (g1.trans (j8 hp)) (g1.free hp) jq (Um hp en)⟩)
end
theorem Nt:fillsNumberSlot (.type "tuple") "mul" = pure a5 :=
 PySem.fillsNumberSlot_seq (id:="tuple.__mul__") (r:=a4 (.builtin "tuple.__rmul__")) PySem.F.slot_tuple_mul.lookup (by decide +kernel) PySem.F.slot_tuple_rmul.lookup (by decide +kernel)
theorem jbj:seqRepeat? (.type "tuple")=pure (a4 (.builtin "tuple.__mul__")):=by
 unfold seqRepeat?;rw[iC (T:="tuple") (name:="__mul__") (id:="tuple.__mul__") PySem.F.slot_tuple_mul.lookup (by decide +kernel),
  iC (T:="tuple") (name:="__rmul__") (id:="tuple.__rmul__") PySem.F.slot_tuple_rmul.lookup (by decide +kernel)]
 rfl
section
variable(a:Int)(t:jL)(l:ae)(its:Array aa)(n:Nat)(d1:Option ae)(sl:Array (Option aa))
theorem Ek:lE (dX.«int.__rmul__» ⟨[.int a t,.ref l],[]⟩) (λ_ R s=>s.heap.get? l=a4 ⟨.type "tuple",d1,.seq its n,sl⟩/\R (.ok (.ret Value.notImplemented)) s) :=
 .of_wp λ_ _ _ _ s h=>by
  obtain⟨_,_,_,_,_⟩:=s;obtain⟨hl,h⟩:=h
  wp_walk
  exact⟨_,rfl,h⟩
theorem j6l:lE (dX.«tuple.__mul__» ⟨[.ref l,.int 1 t],[]⟩) (λ_ R s=>s.heap.get? l=a4 ⟨.type "tuple",d1,.seq its n,sl⟩/\R (.ok (.ret (.ref l))) s) :=
 .of_wp λ_ _ _ _ s h=>by
  obtain⟨_,_,_,_,_⟩:=s;obtain⟨hl,h⟩:=h
  wp_walk
  exact⟨_,rfl,h⟩
theorem j6k(h0:its.isEmpty=a5)(h1:1<a)(h2:a<2^63)(hz:its.size*a.toNat<=ak) :
  lE (dX.«tuple.__mul__» ⟨[.ref l,.int a t],[]⟩) (λ_ R s=>s.heap.get? l=a4 ⟨.type "tuple",d1,.seq its n,sl⟩ /\
   R (.ok (.ret (.ref s.heap.objs.size))) { s with heap:=s.heap.push { cls:=.type "tuple",data:=.seq (cU (λx y=>x++y) #[] (ao a.toNat its)) } }) :=
 .of_wp λ_ _ _ _ s h=>by
  obtain⟨_,_,_,_,_⟩:=s;obtain⟨hl,h⟩:=h;have c1:(decide (a < -2^63) || decide (a>=2^63))=a5:=by rw[decide_eq_false nofun,decide_eq_false nofun];rfl
  have c2:(its.isEmpty || a==1)=a5:=by rw[h0,beq_eq_false_iff_ne.mpr nofun];rfl
  have c3:(decide (a<=0) || its.isEmpty)=a5:=by rw[h0,decide_eq_false nofun];rfl
  have ea:((its.size*a.toNat:Nat):Int)=(its.size:Int)*a:=by rw[Int.natCast_mul,eG nofun]
  have hz':(its.size:Int)*a<=(ak:Int):=by rw[<-ea];exact Int.ofNat_le.mpr hz
  have c4:¬(its.size:Int)*a>(2^63-1)/8:=by
   have:(ak:Int)<=(2^63-1)/8:=by decide
   omega
  have c5:eC ((its.size:Int)*a)=a5:=by unfold eC;exact decide_eq_false nofun
  have c6:(cU (λx y=>x++y) #[] (ao a.toNat its)).size<=ak:=by rw[AutoListH.size_joined,Array.size_empty,Td,eX];exact hz
  wp_walk
  rw[c1]
  wp_walk
  rw[c2]
  wp_walk
  rw[c3]
  wp_walk
  rw[if_neg c4]
  wp_walk
  exact⟨_,rfl,h⟩
end
theorem jbu{X:Cx}:OpR X (b7 .Mult) (λx y H Q=>∃a k xs,x=.ref a/\y=.int k/\SqT X.K H a xs/\xs≠[]/\1<=k/\k<2^63/\xs.length*k.toNat<=ak /\
  (k=1->Q (.ref a) H)/\(1<k->∀p,H p=a7->Q (.ref p) (upd H p (.tup (ao k.toNat xs).flatten)))):=by
 intro pins s σ H x y v u Q I rx ry h;obtain⟨a,k,xs,e1,e2,sq,hne,h1,h2,hz,q1,q2⟩:=h;subst e1 e2;cases rx;obtain⟨t,e⟩:=ry;subst e;obtain⟨us,ru,⟨⟨c1,d1,f1,g1⟩,p1,k1,n1,m1⟩,_⟩:=I.tuple sq;have k1:c1=.type "tuple":=k1;have m1:f1=.seq us.toArray n1:=m1;subst k1 m1;have lu:=ru.length;have hne':us.toArray.isEmpty=a5:=by
  cases us with
  |nil=>cases ru;exact absurd rfl hne
  |cons _ _=>simp
 refine hR (T:="tuple") (U:="int") (by decide) ⟨_,p1,rfl⟩ (λs'=>fq s' k t) Nt jT dR jbj F.slot_int_index.lookup
  (bB dR (fq s k t) jF (jv _ _) (Ek k t a us.toArray n1 d1 g1) ⟨p1,rfl,⟨_,p1,rfl⟩,?_⟩)
 by_cases hk:k=1
 .subst hk;exact bB jE ⟨_,p1,rfl⟩ ja (iS _ _) (j6l t a us.toArray n1 d1 g1) ⟨p1,⟨.ref a,H,I,rfl,q1 rfl⟩⟩
 .have hz':us.toArray.size*k.toNat<=ak:=by rw[xu,<-lu];exact hz
  refine bB jE ⟨_,p1,rfl⟩ ja (iS _ _) (j6k k t a us.toArray n1 d1 g1 hne' nofun h2 hz') ⟨p1,?_⟩;have hnew:cU (λx1 x2=>x1++x2) #[] (ao k.toNat us.toArray)=(ao k.toNat us).flatten.toArray:=by have:=foldl_rep us k.toNat [];rw[fB]at this;exact this
  rw[hnew];refine⟨.ref _,_,I.laid (t':=s.toks) (λb o e=>X8 _ e) (X7 _) ?_,rfl,q2 nofun _ I.fresh⟩;exact⟨by rw[len_rep,eX];exact hz,_,ru.rep k.toNat,IsTup.new _ _,Zq.new _ _⟩
theorem DE.repT{X:Cx}{ρ:Rho}{a b:ai}{ds:List D}{k:Int}{pos:aK}(ha:DM X ρ a a5 ds)(hb:DT X ρ b (.int k))(hne:ds≠[])(h1:1<=k)(h2:k<2^63)(hl:ds.length*k.toNat<=ak) :
  DE X ρ (.BinOp a .Mult b pos) (.tup (ao k.toNat ds).flatten):=λσ H Q R q =>
 (Y9 jbu peS peS).to (ha σ H _ R λt xs H1 g1 sq l=>hb σ H1 _ (R.grow g1) λu H2 g2 e2=>by
  have l2:=l.mono (jf g2)
  refine⟨t,k,xs,rfl,e2,g2.seqT (Jz sq),?_,h1,h2,by rw[l.length];exact hl,λh=>?_,λh p hp=>?_⟩
  .intro z;subst z
   cases ds with
   |nil=>exact hne rfl
   |cons _ _=>have:=l.length;cases this
  .subst h
   have e:(ao (1:Int).toNat ds).flatten=ds:=by simp
   rw[e]at q
   refine q _ H2 (g1.trans g2) ⟨t,xs,rfl,?_,l2⟩
   have ow:=(R.grow (g1.trans g2)).owned
   have out:∀{o:HO},H2 t=a4 o->(∀zs,o≠.lst zs)->del H2 (owns ρ) t=a4 o:=λ{o} h z=>by
    rw[j7];exact h
    intro y;obtain⟨zs,e'⟩:=ow t y;rw[h]at e';cases e';exact z zs rfl
   rcases g2.seqT (Jz sq)with (h|⟨o,h⟩)|h
   .exact .inl (.inl (out h λ_ z=>by cases z))
   .exact .inl (.inr ⟨o,out h λ_ z=>by cases z⟩)
   .exact .inr h
  .have np:p∉owns ρ:=(R.grow (g1.trans g2)).fresh hp
   exact q _ _ ((g1.trans g2).trans (j8 hp)) ⟨p,_,rfl,.inl (.inl (by rw[j7 np];exact jq)),(l2.rep k.toNat).mono (jf (j8 hp))⟩)
end L2
end
section
namespace L2
open PySem PySem.Spec PyProof.Rows
noncomputable def Sl.abs:Sl->Sv
 |.un=>.un
 |.val d=>.val d
 |.own _ l=>.own l
 |.raw _ _ x=>.exc x
noncomputable def j6(ρ:Rho):En:=ρ.map Sl.abs
theorem Ux{ρ:Rho}{i:Nat}:(j6 ρ)[i]?=(ρ[i]?).map Sl.abs:=xx ..
theorem O1{ρ:Rho}{i:Nat}{d:D}(h:(j6 ρ)[i]?=a4 (.val d)):ρ[i]?=a4 (.val d):=by
 rw[Ux]at h;cases e:ρ[i]? with
 |none=>rw[e]at h;cases h
 |some s=>rw[e]at h;cases s<;>cases h;rfl
theorem jdc{ρ:Rho}{i:Nat}(h:(j6 ρ)[i]?=a4 .un):ρ[i]?=a4 .un:=by
 rw[Ux]at h;cases e:ρ[i]? with
 |none=>rw[e]at h;cases h
 |some s=>rw[e]at h;cases s<;>cases h;rfl
theorem J6{ρ:Rho}{i:Nat}{l:List D}(h:(j6 ρ)[i]?=a4 (.own l)):∃a,ρ[i]?=a4 (.own a l):=by
 rw[Ux]at h;cases e:ρ[i]? with
 |none=>rw[e]at h;cases h
 |some s=>rw[e]at h;cases s<;>cases h;exact⟨_,rfl⟩
theorem O2{ρ:Rho}{i:Nat}{x:af}(h:(j6 ρ)[i]?=a4 (.exc x)):∃a o,ρ[i]?=a4 (.raw a o x):=by
 rw[Ux]at h;cases e:ρ[i]? with
 |none=>rw[e]at h;cases h
 |some s=>rw[e]at h;cases s<;>cases h;exact⟨_,_,rfl⟩
theorem jd{ρ:Rho}{i:Nat}{s:Sl}:j6 (ρ.set i s)=(j6 ρ).set i s.abs:=eT ..
noncomputable def Bop.op:Bop->iX
 |.add=>.Add
 |.sub=>.Sub
 |.mul=>.Mult
 |.fdiv=>.FloorDiv
 |.mod=>.Mod
 |.pow=>.Pow
 |.shl=>.LShift
 |.shr=>.RShift
 |.band=>.BitAnd
 |.bxor=>.BitXor
noncomputable def Cop.op:Cop->fQ
 |.lt=>.Lt
 |.le=>.LtE
 |.gt=>.Gt
 |.ge=>.GtE
 |.eq=>.Eq
 |.ne=>.NotEq
 |.isin=>.In
 |.notin=>.NotIn
noncomputable def Bf.name:Bf->af
 |.len=>"len"
 |.min=>"min"
 |.max=>"max"
 |.all=>"all"
 |.tuple=>"tuple"
 |.list=>"list"
 |.sum=>"sum"
 |.int=>"int"
 |.any=>"any"
 |.sorted=>"sorted"
noncomputable def Z5:List af:=["len","min","max","all","tuple","list","sum","int","any","sorted","isinstance","bool","str","range","zip","enumerate","reversed","ValueError","set","dict"]
noncomputable def V2(x:af):Bool:=x.cps.toList.head?==a4 33 || x.cps.toList.head?==a4 63
inductive Nd where
 |e (x:ai)
 |b (x:ai)
 |w (x:ai)
 |a (xs:List ai)
 |i (tg it:ai)
 |o (x:Option ai)
 |c (xs:List ai)
 |p (xs:List ai)
structure Cok(X:Cx)(G:af->Option D):Prop where
 un':X.A.units+100<aU
 un:X.calm=a6->X.A.units+150<aU
 dp:X.calm=a6->X.A.depth+4<bD
 bt:∀x∈Z5,X.mg x=a7
 gl:∀x d,V2 x=a5->G x=a4 d->∃u v,X.mg x=a4 u/\RelV v u/\∀H,Enc X.K H d v
 nd:X.N.Nodup
 po:dP (ay X.prog X.w) X.A X.env X.xe
 ea:Jv X.K=a6
 ec:∀x d,G (bang x)=a4 d->x∈jt/\∃o,W.nsIn X.K aq x=a4 (a4 o)
 el:G "?" = a4 (.bl a6)->∀c∈jt,∃v,W.nsIn X.K aq c=a4 (a4 v)
 kin:X.K.In X.base
 ns:X.base.Ns aq X.mg
 kd:∀x l,G (bang x)=a4 (.lst l)->Kinds X "_law_kinds" x l
 fn:∀f d,G (qm f)=a4 d->∃fa,X.mg f=a4 (.ref fa)/\W.keepIn X.K (.ref fa)=a6
 pl:∀d,G (qm "_law_plan")=a4 d->Cal X "_law_plan" (jdw X.K j9s)
 pc:∀d,G (qm "Pieces")=a4 d->∃C,X.mg "Pieces" = a4 (.ref C)/\PcX X C
 gd:X.calm=a6->X.A.guards=a4 []
 fr:∃(env0:cu)(out0:List cu)(L:ae),X.stack=env0::out0/\env0.frame=a4 L/\X.env.frame=a4 L
 lm:∀x∈Zg,X.env.qual=x ++ ".<locals>."->∃c P,X.env.code=.ref c/\W.codeHdIn X.K c P=a6/\W.tabIn X.K x=a4 (c,P)
structure CalG(X:Cx)(x:af)(sp:Sp):Prop where
 ex:∃(k:Nat)(f:ae)(fd:aG)(ps:List af),FnOk X.prog X.w X.K X.mg X.base CX0 k f fd ps sp/\Room (k+1) X.A/\X.mg x=a4 (.ref f)/\W.keepIn X.K (.ref f)=a6/\Binds X.K fd ps []
def Gok(X:Cx)(Γ:af->List D->Rc):Prop:=∀f ds,match Γ f ds with
 |.val d=>Cal X f (spP X.K λds' d'=>ds'=ds/\d'=d)
 |.fresh l=>Cal X f (spF X.K λds' l'=>ds'=ds/\l'=l)
 |.err x=>CalX X f (spX X.K X.mg λds' y=>ds'=ds/\y=x)
 |.lval d=>∀x,f=zc x->∃k,Room k X.A/\j3j X.prog X.w X.K X.mg X.base k x λds' d'=>ds'=ds/\d'=d
 |.mval d k'=>∀g ls (k:Nat) ds',f=mq g->ds=.lst (ls.map D.str)::.int (k:Int)::ds'->∀C,X.mg "Pieces" = a4 (.ref C)->CalM X g C λls2 k2 ds2 d2 k2'=>ls2=ls/\k2=k/\ds2=ds'/\d2=d/\k2'=k'
 |.merr x=>∀g ls (k:Nat) ds',f=mq g->ds=.lst (ls.map D.str)::.int (k:Int)::ds'->∀C,X.mg "Pieces" = a4 (.ref C)->CalMX X g C λls2 k2 ds2 x2=>ls2=ls/\k2=k/\ds2=ds'/\x2=x
 |.dval d ks' ns'=>∀g ks ns ds',f=dq g->ds=.dct ks (ns.map D.int)::ds'->CalD X g λks2 ns2 ds2 d2 ks2' ns2'=>ks2=ks/\ns2=ns/\ds2=ds'/\d2=d/\ks2'=ks'/\ns2'=ns'
 |.hnd sp=>∀g,f=gq g->CalG X g (sp X.K X.mg)
 |.no=>True
theorem Cok.comp{X:Cx}{G:af->Option D}{scope:b8}{C:ae}{s:ah}{H:Hp}{fp:List ae}{pn:k7z}(h:Cok X G):Cok (cCx X scope C s H fp pn) G:=⟨h.un',h.un,h.dp,h.bt,h.gl,h.nd,Pq,h.ea,h.ec,h.el,h.kin,h.ns,h.kd,h.fn,λd e=>Cal.comp (h.pl d e),λd e=>let ⟨C,h1,h2⟩:=h.pc d e;⟨C,h1,⟨h2.ex⟩⟩,h.gd,h.fr,h.lm⟩
theorem Gok.comp{X:Cx}{Γ:af->List D->Rc}{scope:b8}{C:ae}{s:ah}{H:Hp}{fp:List ae}{pn:k7z}(h:Gok X Γ):Gok (cCx X scope C s H fp pn) Γ:=λf ds=>by
 have q:=h f ds;cases e:Γ f ds with
 |val d=>rw[e]at q;exact Cal.comp q
 |fresh l=>rw[e]at q;exact Cal.comp q
 |err x=>rw[e]at q;exact⟨q.ex⟩
 |lval d=>rw[e]at q;exact q
 |mval d k=>rw[e]at q;exact λg ls k ds' h1 h2 C h3=>⟨(q g ls k ds' h1 h2 C h3).ex⟩
 |merr x=>rw[e]at q;exact λg ls k ds' h1 h2 C h3=>⟨(q g ls k ds' h1 h2 C h3).ex⟩
 |dval d ks ns=>rw[e]at q;exact λg ks ns ds' h1 h2=>⟨(q g ks ns ds' h1 h2).ex⟩
 |hnd sp=>rw[e]at q;exact λg h1=>⟨(q g h1).ex⟩
 |no=>trivial
inductive HasA(X:Cx)(ρ:Rho):List ai->List Rk->Prop where
 |nil:HasA X ρ [] []
 |cons {a:ai} {es:List ai} {r:Rk} {rs:List Rk} (hs:a8 (a::es) X.env=(a5,az a X.env)::a8 es X.env):Has X ρ a r->HasA X ρ es rs->HasA X ρ (a::es) (r::rs)
section
variable{X:Cx}{ρ:Rho}{es:List ai}{rs:List Rk}
theorem HasA.toA:∀{es:List ai}{rs:List Rk}{ds:List D},HasA X ρ es rs->zu rs=a4 ds->DA X ρ es ds
 |_,_,_,.nil,q=>by cases q;exact DA.nil
 |_,_,ds,.cons (r:=r) (rs:=rs) hs h t,q=>by
  unfold zu at q;cases e1:r.st with
  |none=>rw[e1]at q;cases q
  |some d =>
   cases e2:zu rs with
   |none=>rw[e1,e2]at q;cases q
   |some ds'=>rw[e1,e2]at q;cases q;exact DA.cons (h.toE e1) (t.toA e2) hs
theorem HasA.toT:∀{es:List ai}{rs:List Rk},HasA X ρ es rs->DTA X ρ es (rs.map Rk.d)
 |_,_,.nil=>DTA.nil
 |_,_,.cons hs h t=>DTA.cons h.toT t.toT hs
theorem DO.unfrz{e:ai}{i:Nat}{a:ae}{l ds:List D}(hk:ρ[i]?=a4 (.own a l))(h:DO X (ρ.set i (.val (.lst l))) e ds)(hn:qb ds=a6):DO X ρ e ds:=λσ H Q R q =>
 h σ H Q (R.freeze hk) λb xs H' g n m en=>q b xs H' g n m ((en.mono q8).hide (λc hc=>by
  rcases xn.mp hc with z|z
  .rw[z];exact .inl ⟨xs,m⟩
  .exact .inl ((R.grow g).owned c z)) hn)
end
theorem Bs{f:D->Option (Option D)}:∀{ds l:List D},Jj f ds=a4 l ->
  l=(ds.filter (λd=>(f d).join.isSome)).map (λd=>(f d).join.getD .non)/\∀d∈ds,∃o,f d=a4 o
 |[],l,h=>by cases h;exact⟨rfl,λd hd=>nomatch hd⟩
 |d::ds,l,h=>by
  unfold Jj at h;cases e1:f d with
  |none=>rw[e1]at h;cases h
  |some o =>
   cases e2:Jj f ds with
   |none=>rw[e1,e2]at h;cases o<;>cases h
   |some xs =>
    rw[e1,e2]at h;obtain⟨q1,q2⟩:=Bs e2;have mem:∀d'∈d::ds,∃o,f d'=a4 o:=λd' hd=>by
     rcases xn.mp hd with z|z
     .subst z;exact⟨o,e1⟩
     .exact q2 d' z
    cases o with
    |none=>cases h;exact⟨by rw[gu (by rw[e1];simp)];exact q1,mem⟩
    |some x=>cases h;exact⟨by rw[gr (by rw[e1];rfl),X3,<-q1,e1];rfl,mem⟩
section
variable{X:Cx}{ρ:Rho}{a b:ai}{d da db:D}{ds ds':List D}{pos:aK}{k:Bool}
theorem j5b {t c:String} (h:qt t c=a4 k):t ≠ "function":=λz=>by unfold qt at h;rw[if_pos z]at h;cases h
theorem j1m{K:k7x}{c:String}(h:qt d.ty c=a4 k):W.kitOne K (.type d.ty) (.type c)=a4 k:=by
 have nf:d.ty ≠ "function":=j5b h;unfold qt at h;rw[if_neg nf]at h;by_cases h1:c = "int"
 .subst h1;cases d<;>first|exact absurd rfl nf|(simp[D.ty]at h;subst h;kernel_rfl)
 rw[if_neg h1]at h;by_cases h2:c = "bool"
 .subst h2;cases d<;>first|exact absurd rfl nf|(simp[D.ty]at h;subst h;kernel_rfl)
 rw[if_neg h2]at h;by_cases h3:c = "str"
 .subst h3;cases d<;>first|exact absurd rfl nf|(simp[D.ty]at h;subst h;kernel_rfl)
 rw[if_neg h3]at h;by_cases h4:c = "list"
 .subst h4;cases d<;>first|exact absurd rfl nf|(simp[D.ty]at h;subst h;kernel_rfl)
 rw[if_neg h4]at h;by_cases h5:c = "tuple"
 .subst h5;cases d<;>first|exact absurd rfl nf|(simp[D.ty]at h;subst h;kernel_rfl)
 rw[if_neg h5]at h;cases h
theorem j1q {c:String} {cs:List String} (h:q9 d (c::cs)=a4 k):d.ty ≠ "function":=by
 unfold q9 at h;split at h
 .rename_i e _;exact j5b e
 .cases h
theorem Ed{K:k7x}:∀{cs:List String}{k:Bool},q9 d cs=a4 k->W.kitAny K (.type d.ty) (cs.map dr)=a4 k
 |[],k,h=>by cases h;rfl
 |c::cs,k,h=>by
  unfold q9 at h;cases e1:qt d.ty c with
  |none=>rw[e1]at h;cases h
  |some x =>
   cases e2:q9 d cs with
   |none=>rw[e1,e2]at h;cases h
   |some y =>
    rw[e1,e2]at h;cases h;rw[X3,W.kitAny,j1m e1];cases x with
    |true=>simp
    |false=>simp;exact Ed e2
theorem DE.neD(s:Bool)(hu:X.A.units+100<aU)(ha:DT X ρ a (D.seq s ds))(hb:DT X ρ b (D.seq s ds'))(hd:D.depL ds<=98)(nd:D.depL ds'<10000):DE X ρ (.Compare a [.NotEq] [b] pos) (.bl (!qx ds ds')):=λσ H Q R q =>(Jr (j4m hu) peS peS (zg _)).to (ha σ H _ R λv H1 g1 e1=>hb σ H1 _ (R.grow g1) λu H2 g2 e2=>⟨ds,ds',s,e1.mono g2,e2,hd,nd,q _ H2 (g1.trans g2) rfl⟩)
theorem DE.notIn(s:Bool)(hu:X.A.units+100<aU)(ha:DT X ρ a d)(hb:DT X ρ b (D.seq s ds))(hd:D.depL ds<=98)(nd:d.dep<10000)(hm:aL .NotIn b=a5):DE X ρ (.Compare a [.NotIn] [b] pos) (.bl (!ds.any λe=>deq e d)):=λσ H Q R q =>(Jr (Dg hu) peS peS hm).to (ha σ H _ R λv H1 g1 e1=>hb σ H1 _ (R.grow g1) λu H2 g2 e2=>⟨d,ds,s,e1.mono g2,e2,hd,nd,q _ H2 (g1.trans g2) rfl⟩)
theorem DE.in(s:Bool)(hu:X.A.units+100<aU)(ha:DT X ρ a d)(hb:DT X ρ b (D.seq s ds))(hd:D.depL ds<=98)(nd:d.dep<10000)(hm:aL .In b=a5):DE X ρ (.Compare a [.In] [b] pos) (.bl (ds.any λe=>deq e d)):=λσ H Q R q =>(Jr (j4n hu) peS peS hm).to (ha σ H _ R λv H1 g1 e1=>hb σ H1 _ (R.grow g1) λu H2 g2 e2=>⟨d,ds,s,e1.mono g2,e2,hd,nd,q _ H2 (g1.trans g2) rfl⟩)
theorem jb4:∀{b:D}{s:Bool}{l:List D},b.sqv=a4 (s,l)->b=D.seq s l
 |.lst _,_,_,h=>by cases h;rfl
 |.dct _ _,_,_,h=>by cases h
 |.sct _,_,_,h=>by cases h
 |.fn _ _,_,_,h=>by cases h
 |.tup _,_,_,h=>by cases h;rfl
 |.non,_,_,h=>by cases h
 |.bl _,_,_,h=>by cases h
 |.int _,_,_,h=>by cases h
 |.str _,_,_,h=>by cases h
theorem j38{op:Cop}{i j:Int}(h:cmpI op i j=a4 k)(ha:DT X ρ a (.int i))(hb:DT X ρ b (.int j)):DE X ρ (.Compare a [op.op] [b] pos) (.bl k)/\DB X ρ (.Compare a [op.op] [b] pos) k:=by
 cases op<;>(first|(cases h;done)|skip)
 .cases h;exact⟨DE.lt ha hb,DB.lt ha hb⟩
 .cases h;exact⟨DE.le ha hb,DB.le ha hb⟩
 .cases h;exact⟨DE.gt ha hb,DB.gt ha hb⟩
 .cases h;exact⟨DE.ge ha hb,DB.ge ha hb⟩
 .cases h;exact⟨DE.eqI ha hb,DB.eqI ha hb⟩
 .cases h;exact⟨DE.neI ha hb,DB.neI ha hb⟩
theorem Ce{op:Cop}(hu:X.A.units+100<aU)(h:vg op da db=a4 k)(ha:DT X ρ a da)(hb:DT X ρ b db)(hm:aL op.op b=a5) :
  DE X ρ (.Compare a [op.op] [b] pos) (.bl k)/\DB X ρ (.Compare a [op.op] [b] pos) k:=by
 have inn:∀{r:Bool->Bool},(match db.sqv with|some (_,l)=>if D.depL l<=90/\da.dep<=90 then a4 (r (l.any λe=>deq e da))else a7|none=>a7)=a4 k->∃s l,DT X ρ b (D.seq s l)/\D.depL l<=98/\da.dep<10000/\k=r (l.any λe=>deq e da):=λ{r} h=>by
  cases e:db.sqv with
  |none=>rw[e]at h;cases h
  |some p =>
   obtain⟨s,l⟩:=p;rw[e]at h;have h:(if D.depL l<=90/\da.dep<=90 then a4 (r (l.any λe=>deq e da))else a7)=a4 k:=h;by_cases z:D.depL l<=90/\da.dep<=90
   .rw[if_pos z]at h;cases h;exact⟨s,l,jb4 e▸hb,by omega,by omega,rfl⟩
   .rw[if_neg z]at h;cases h
 unfold vg at h;split at h
 .exact j38 h ha hb
 .by_cases z:da.dep<=90/\db.dep<=90
  .rw[if_pos z]at h;cases h;exact⟨DE.eqD hu ha hb nofun nofun,DB.eqD hu ha hb nofun nofun⟩
  .rw[if_neg z]at h;cases h
 .cases h;exact⟨DE.neB ha hb,DB.neB ha hb⟩
 .cases h;exact⟨(DE.neS ha hb).eq (by rw[Ez]),(DB.neS ha hb).eq (by rw[Ez])⟩
 .cases h;exact⟨(DE.neS ha hb).eq (by simp),(DB.neS ha hb).eq (by simp)⟩
 .rename_i l m;by_cases z:D.depL l<=90/\D.depL m<=90
  .rw[if_pos z]at h;cases h;exact⟨DE.neD a6 hu ha hb nofun nofun,DB.neD a6 hu ha hb nofun nofun⟩
  .rw[if_neg z]at h;cases h
 .rename_i l m;by_cases z:D.depL l<=90/\D.depL m<=90
  .rw[if_pos z]at h;cases h;exact⟨DE.neD a5 hu ha hb nofun nofun,DB.neD a5 hu ha hb nofun nofun⟩
  .rw[if_neg z]at h;cases h
 .cases h;exact⟨DE.inS ha hb hm,DB.inS ha hb hm⟩
 .cases h;exact⟨DE.ltS ha hb,DB.ltS ha hb⟩
 .cases h;exact⟨DE.gtS ha hb,DB.gtS ha hb⟩
 .obtain⟨s,l,hb,hd,nd,e⟩:=inn (r:=id) h;subst e;exact⟨DE.in s hu ha hb hd nd hm,DB.in s hu ha hb hd nd hm⟩
 .obtain⟨s,l,hb,hd,nd,e⟩:=inn (r:=(!·)) h;subst e;exact⟨DE.notIn s hu ha hb hd nd hm,DB.notIn s hu ha hb hd nd hm⟩
 .cases h
theorem DE.shr{i j:Int}(ha:DT X ρ a (.int i))(hb:DT X ρ b (.int j))(h:0<=j):DE X ρ (.BinOp a .RShift b pos) (.int (i/2^j.toNat)):=DE.arI (g:=λi j=>i/2^j.toNat) jf2 ha hb h
theorem jy{α:Type}{c:Prop}[Decidable c]{x y:α}(h:(if c then a4 x else a7)=a4 y):c/\x=y:=by
 by_cases z:c
 .rw[if_pos z]at h;exact⟨z,aw h⟩
 .rw[if_neg z]at h;cases h
theorem j3c{op:Bop}{i j n:Int}(h:binI op i j=a4 n)(ha:DT X ρ a (.int i))(hb:DT X ρ b (.int j)):DE X ρ (.BinOp a op.op b pos) (.int n):=by
 cases op
 .cases h;exact DE.add ha hb
 .cases h;exact DE.sub ha hb
 .obtain⟨z,e⟩:=jy h;subst e;exact DE.mul ha hb z
 .obtain⟨z,e⟩:=jy h;subst e;exact DE.fdivB ha hb z
 .obtain⟨z,e⟩:=jy h;subst e;exact DE.mod ha hb z
 .obtain⟨z,e⟩:=jy h;subst e;exact DE.pow ha hb z
 .obtain⟨z,e⟩:=jy h;subst e;exact DE.shl ha hb z
 .obtain⟨z,e⟩:=jy h;subst e;exact DE.shr ha hb z
 .cases h;exact DE.arI0 jf8 ha hb
 .cases h;exact DE.arI0 jf0 ha hb
theorem za{n:Nat}(h:jj n=a6):n<=ak:=of_decide_eq_true h
end
section
variable{X:Cx}{ρ:Rho}{a b e:ai}{es:List ai}{d:D}{pos p:aK}
theorem Has.lw:∀{r:Rk}{l:List D},Has X ρ a r->r.lw=a4 l->DL X ρ a l
 |.o l,_,h,q=>by cases q;exact DO.toL h
 |.w l,_,h,q=>by cases q;exact h
 |.e _,_,_,q=>by cases q
 |.t _,_,_,q=>by cases q
theorem j67{op:Bop}{x y r:Rk}(h:Uu op x y=a4 r)(ha:Has X ρ a x)(hb:Has X ρ b y):Has X ρ (.BinOp a op.op b pos) r:=by
 unfold Uu at h;split at h
 .rename_i i j e1 e2;cases z:binI op i j with
  |none=>rw[z]at h;cases h
  |some n=>rw[z]at h;cases h;exact j3c z (e1▸ha.toT) (e2▸hb.toT)
 .rename_i y z e1 e2;split at h
  .obtain⟨q,e⟩:=jy h;subst e;exact DE.catS (e1▸ha.toT) (e2▸hb.toT) (za q)
  .cases h
 .rename_i y k e1 e2;split at h
  .obtain⟨q,e⟩:=jy h;subst e;exact DE.mulS (e1▸ha.toT) (e2▸hb.toT) q.1 q.2
  .cases h
 .split at h
  .rename_i l m _ e1 e2;obtain⟨z,q⟩:=jy h;subst q;exact DO.catM (ha.toM e1) (hb.toM e2) (za z)
  .rename_i l m _ e1 e2;obtain⟨z,q⟩:=jy h;subst q;exact DE.catTM (ha.toM e1) (hb.toM e2) (za z)
  .rename_i l k _ _ e1 e3;obtain⟨z,q⟩:=jy h;subst q;exact DE.repT (ha.toM e1) (e3▸hb.toT) (λe=>by subst e;exact absurd z.2.2.1 (by simp)) z.1 z.2.1 (za z.2.2.2)
  .rename_i k _ _ _ e3 _;cases e:x.lw with
   |none=>rw[e]at h;cases h
   |some l =>rw[e]at h;obtain⟨z,q⟩:=jy h;subst q;exact DO.rep (ha.lw e) (e3▸hb.toT) z.1 z.2.1 (za z.2.2)
  .cases h
theorem Us:∀{l:List D}{bs:List Bool},boolsOf l=a4 bs->l=bs.map D.bl
 |[],_,h=>by cases h;rfl
 |.bl b::r,bs,h=>by
  unfold boolsOf at h;cases e:boolsOf r with
  |none=>rw[e]at h;cases h
  |some q=>rw[e]at h;cases h;rw[Us e];rfl
 |.non::_,_,h=>by cases h
 |.int _::_,_,h=>by cases h
 |.str _::_,_,h=>by cases h
 |.tup _::_,_,h=>by cases h
 |.lst _::_,_,h=>by cases h
 |.dct _ _::_,_,h=>by cases h
 |.sct _::_,_,h=>by cases h
 |.fn _ _::_,_,h=>by cases h
theorem Qn:∀{l:List D}{bs:List Int},intsOf l=a4 bs->l=bs.map D.int
 |[],_,h=>by cases h;rfl
 |.int b::r,bs,h=>by
  unfold intsOf at h;cases e:intsOf r with
  |none=>rw[e]at h;cases h
  |some q=>rw[e]at h;cases h;rw[Qn e];rfl
 |.non::_,_,h=>by cases h
 |.bl _::_,_,h=>by cases h
 |.str _::_,_,h=>by cases h
 |.tup _::_,_,h=>by cases h
 |.lst _::_,_,h=>by cases h
 |.dct _ _::_,_,h=>by cases h
 |.sct _::_,_,h=>by cases h
 |.fn _ _::_,_,h=>by cases h
theorem Y7:∀{l:List D}{bs:List af},strsOf l=a4 bs->l=bs.map D.str
 |[],_,h=>by cases h;rfl
 |.str b::r,bs,h=>by
  unfold strsOf at h;cases e:strsOf r with
  |none=>rw[e]at h;cases h
  |some q=>rw[e]at h;cases h;rw[Y7 e];rfl
 |.non::_,_,h=>by cases h
 |.bl _::_,_,h=>by cases h
 |.int _::_,_,h=>by cases h
 |.tup _::_,_,h=>by cases h
 |.lst _::_,_,h=>by cases h
 |.dct _ _::_,_,h=>by cases h
 |.sct _::_,_,h=>by cases h
 |.fn _ _::_,_,h=>by cases h
theorem Jg{w:Option W}{k:Bool}(h:truth w=a4 k):∃r,w=a4 (.v r)/\r.d=.bl k:=by
 unfold truth at h;split at h
 .rename_i r;split at h
  .rename_i q e;cases h;exact⟨r,rfl,e⟩
  .cases h
 .cases h
def j0e(X:Cx)(ρ:Rho):List ai->List Rk->Prop
 |[],[]=>True
 |e::es,r::rs=>(∀y,Ji r.d=a4 y->DE X ρ e (.str y))/\j0e X ρ es rs
 |_,_=>False
theorem j0e.all{X:Cx}{ρ:Rho}:∀{es:List ai}{rs:List Rk}{ys:List af},j0e X ρ es rs->Jk rs=a4 ys->DPs X ρ es ys/\ys.length=rs.length
 |[],[],ys,_,q=>by cases q;exact⟨trivial,rfl⟩
 |e::es,r::rs,ys,h,q=>by
  unfold Jk at q;cases e1:Ji r.d with
  |none=>rw[e1]at q;cases q
  |some y =>
   cases e2:Jk rs with
   |none=>rw[e1,e2]at q;cases q
   |some ys' =>rw[e1,e2]at q;cases q;obtain⟨z1,z2⟩:=j0e.all h.2 e2;exact⟨⟨h.1 y e1,z1⟩,by rw[X4,X4,z2]⟩
 |[],_::_,_,h,_=>h.elim
 |_::_,[],_,h,_=>h.elim
theorem log2_small{i:Int}(h:-18446744073709551616<i/\i<18446744073709551616):i.natAbs.log2<1920:=by
 by_cases z:i.natAbs=0
 .rw[z];decide
 .have e:(2:Nat)^64=18446744073709551616:=by decide
  have:i.natAbs.log2<64:=(l6 z).mpr (by rw[e];omega);omega
theorem j42{d:D}{y:af}(h:Ji d=a4 y):y.length<=10000:=by
 cases d with
 |int i =>
  simp only[Ji]at h;split at h
  .rename_i q;cases h;have:=int_text_length_le (k:=1920) (by decide) (log2_small q);rw[PySem.ofString_length];omega
  .cases h
 |str z =>
  simp only[Ji]at h;split at h
  .rename_i q;cases h;exact q
  .cases h
 |tup l =>
  simp only[Ji]at h;split at h
  .split at h
   .rename_i q;cases h;exact q.2
   .cases h
  .cases h
 |_=>cases h
theorem Rp:∀{rs:List Rk}{ys:List af},Jk rs=a4 ys->∀y∈ys,y.length<=10000
 |[],_,q=>by cases q;exact λy hy=>nomatch hy
 |r::rs,ys,q=>by
  unfold Jk at q;cases e1:Ji r.d with
  |none=>rw[e1]at q;cases q
  |some y =>
   cases e2:Jk rs with
   |none=>rw[e1,e2]at q;cases q
   |some ys' =>
    rw[e1,e2]at q;cases q;intro z hz;rcases xn.mp hz with rfl|hz
    .exact j42 e1
    .exact Rp e2 z hz
theorem DE.fmt{X:Cx}{ρ:Rho}{a:ai}{d:D}{y:af}{pos:aK}(hg:X.A.guards=a4 [])(hu:X.A.units+100<aU)(ha:DT X ρ a d)(h:Ji d=a4 y):DE X ρ (.FormattedValue a (-1) a7 pos) (.str y):=by
 cases d with
 |int i =>
  simp only[Ji]at h;split at h
  .rename_i q;cases h;exact DE.fmtI ha (log2_small q)
  .cases h
 |str z =>
  simp only[Ji]at h;split at h
  .rename_i q;cases h;exact DE.fmtS ha (by rw[br];omega)
  .cases h
 |tup l =>
  simp only[Ji]at h;split at h
  .rename_i is ei;split at h
   .rename_i q;cases h;have e:=Qn ei;subst e;exact DE.fmtT hg hu ha (λi hi=>log2_small (q.1 i hi)) (by rw[br];omega)
   .cases h
  .cases h
 |_=>cases h
def jhz(Γ:af->List D->Rc)(G:af->Option D)(X:Cx)(t:Ex):Nd->Prop
 |.e e=>∀ρ r,ev Γ G t (j6 ρ)=a4 (.v r)->Has X ρ e r
 |.b e=>∀ρ k,truth (ev Γ G t (j6 ρ))=a4 k->DB X ρ e k
 |.w e=>∀ρ k,truth (ev Γ G t (j6 ρ))=a4 k->DW X ρ e k
 |.a es=>∀ρ rs,ev Γ G t (j6 ρ)=a4 (.a rs)->HasA X ρ es rs
 |.i tg it=>∀ρ ds,ev Γ G t (j6 ρ)=a4 (.i ds)->DI X ρ tg it ds
 |.o e=>∀ρ o,Q5 (ev Γ G t (j6 ρ))=a4 o->DP X ρ e o
 |.p es=>∀ρ rs,ev Γ G t (j6 ρ)=a4 (.a rs)->j0e X ρ es rs
 |.c ifs=>∀ρ,(ev Γ G t (j6 ρ)=a4 (.a [])->DTs X ρ ifs a6)/\∀y k,ev Γ G t (j6 ρ)=a4 (.a [y])->y.d=.bl k->DTs X ρ ifs k
end
section
variable{Γ:af->List D->Rc}{G:af->Option D}{X:Cx}
theorem Rz{is:List Nat}{elt' it' c':Ex}{elt it tg:ai}{ifs:List ai}{scope:b8}{ρ:Rho}{r:Rk}
  (hit:∀ρ ds,ev Γ G it' (j6 ρ)=a4 (.i ds)->DI X ρ tg it ds)
  (hb:∀ρ d ρ2,qz is d (j6 ρ)=a4 ρ2->(∀j∈is,ρ[j]?=a4 .un)->∃ρ',j6 ρ'=ρ2/\Wk ρ' ρ/\owns ρ'=owns ρ/\∀C s H fp pn,DG (cCx X scope C s H fp pn) ρ tg d ρ')
  (he:∀C s H fp pn ρ r,ev Γ G elt' (j6 ρ)=a4 (.v r)->Has (cCx X scope C s H fp pn) ρ elt r)
  (hc:∀C s H fp pn ρ,(ev Γ G c' (j6 ρ)=a4 (.a [])->DTs (cCx X scope C s H fp pn) ρ ifs a6)/\∀y k,ev Γ G c' (j6 ρ)=a4 (.a [y])->y.d=.bl k->DTs (cCx X scope C s H fp pn) ρ ifs k)
  (h:ev Γ G (.comp is elt' it' c') (j6 ρ)=a4 (.v r)):∃(l:List D)(ρf:Rho)(ds:List D)(pr:D->Bool)(g:D->D),r=.o l/\l=(ds.filter pr).map g /\
   (ρf=ρ\/(qb l=a6/\∃(i:Nat)(a:ae)(l':List D),ρ[i]?=a4 (.own a l')/\ρf=ρ.set i (.val (.lst l'))))/\DI X ρf tg it ds/\(∀j∈is,ρf[j]?=a4 .un)/\ds.length<=ak /\
   (∀C s H fp pn,∀d∈ds,∃ρ2,DG (cCx X scope C s H fp pn) ρf tg d ρ2/\Wk ρ2 ρf/\owns ρ2=owns ρf/\DTs (cCx X scope C s H fp pn) ρ2 ifs (pr d)/\(pr d=a6->DE (cCx X scope C s H fp pn) ρ2 elt (g d))):=by
 have fr:∃ρf,j6 ρf=frz it' (j6 ρ)/\((Jc it' (j6 ρ)=a5/\ρf=ρ)\/(Jc it' (j6 ρ)=a6/\∃i a l,ρ[i]?=a4 (.own a l)/\ρf=ρ.set i (.val (.lst l)))):=by
  by_cases z:Jc it' (j6 ρ)=a6
  .unfold Jc at z;split at z
   .rename_i i ei;split at z
    .rename_i l e;obtain⟨a,q⟩:=J6 e;refine⟨ρ.set i (.val (.lst l)),?_,.inr ⟨?_,i,a,l,q,rfl⟩⟩
     .rw[jd];simp only[frz,ei,e,Sl.abs]
     .simp only[Jc,ei,e]
    .cases z
   .cases z
  .have z':Jc it' (j6 ρ)=a5:=by simpa using z
   refine⟨ρ,?_,.inl ⟨z',rfl⟩⟩;unfold frz;split
   .rename_i i ei;split
    .rename_i l e;simp only[Jc,ei,e]at z';cases z'
    .rfl
   .rfl
 obtain⟨ρf,ef,fr⟩:=fr;rw[jhq]at h;rw[<-ef]at h;split at h
 .rename_i ds hds;split at h
  .rename_i hz;obtain⟨hfree,hlen⟩:=hz;generalize hf:(λd=>_:D->Option (Option D))=f at h;cases hl:Jj f ds with
   |none=>rw[hl]at h;cases h
   |some l =>
    rw[hl]at h;have h:(if (Jc it' (j6 ρ) && !qb l)=a6 then a7 else a4 (W.v (.o l)))=a4 (.v r):=h;by_cases zz:(Jc it' (j6 ρ) && !qb l)=a6
    .rw[if_pos zz]at h;cases h
    .rw[if_neg zz]at h;cases h;obtain⟨el,hmem⟩:=Bs hl;have hun:∀j∈is,ρf[j]?=a4 .un:=λj hj=>by
      have:=Xy.mp hfree j hj;split at this
      .rename_i e;exact jdc e
      .cases this
     refine⟨l,ρf,ds,_,_,rfl,el,?_,hit ρf ds hds,hun,za hlen,λC s H fp pn d hd=>?_⟩
     .rcases fr with ⟨_,e⟩|⟨e1,i,a,l',hk,e⟩
      .exact .inl e
      .exact .inr ⟨by rw[e1]at zz;simpa using zz,i,a,l',hk,e⟩
     ·
      obtain⟨o,ho⟩:=hmem d hd;rw[<-hf]at ho ⊢;dsimp only at ho ⊢;cases hb2:qz is d (j6 ρf) with
      |none=>rw[hb2]at ho;cases ho
      |some ρ2 =>
       obtain⟨ρ',e',wk,ow,dg⟩:=hb ρf d ρ2 hb2 hun;subst e';refine⟨ρ',dg C s H fp pn,wk,ow,?_⟩;rw[hb2]at ho;dsimp only at ho ⊢;cases hcv:ev Γ G c' (j6 ρ') with
       |none=>rw[hcv]at ho;cases ho
       |some w =>
        rw[hcv]at ho;split at ho
        .rename_i hw;cases hw;cases hev:ev Γ G elt' (j6 ρ') with
         |none=>rw[hev]at ho;cases ho
         |some w =>
          rw[hev]at ho;cases w with
          |i _=>cases ho
          |a _=>cases ho
          |v x =>
           dsimp only at ho ⊢;cases hst:x.st with
           |none=>rw[hst]at ho;cases ho
           |some y =>simp only[hst,iH,il,eA,df];exact⟨((hc C s H fp pn ρ').1 hcv),λ_=>(he C s H fp pn ρ' x hev).toE hst⟩
        .rename_i y hw;cases hw;split at ho
         .rename_i e1;cases hev:ev Γ G elt' (j6 ρ') with
          |none=>rw[hev]at ho;cases ho
          |some w =>
           rw[hev]at ho;cases w with
           |i _=>cases ho
           |a _=>cases ho
           |v x =>
            dsimp only at ho ⊢;cases hst:x.st with
            |none=>rw[hst]at ho;cases ho
            |some z =>simp only[e1,hst,iH,il,eA,df];exact⟨(hc C s H fp pn ρ').2 y a6 hcv e1,λ_=>(he C s H fp pn ρ' x hev).toE hst⟩
         .rename_i e1;simp only[e1,Option.join,jN];exact⟨(hc C s H fp pn ρ').2 y a5 hcv e1,λz=>by cases z⟩
         .cases ho
        .cases ho
  .cases h
 .cases h
theorem Br{is:List Nat}{elt' it' c':Ex}{elt it tg:ai}{ifs:List ai}{scope:b8}{p:aK}{ρ:Rho}{r:Rk}(hq:X.calm=a6)(hX:Cok X G)
  (hit:∀ρ ds,ev Γ G it' (j6 ρ)=a4 (.i ds)->DI X ρ tg it ds) (hkind:scope.kind=.function) (hok:J5 scope X.env X.N is=a6) (hs:∀x,aH it X.env x=pure x)
  (hb:∀ρ d ρ2,qz is d (j6 ρ)=a4 ρ2->(∀j∈is,ρ[j]?=a4 .un)->∃ρ',j6 ρ'=ρ2/\Wk ρ' ρ/\owns ρ'=owns ρ/\∀C s H fp pn,DG (cCx X scope C s H fp pn) ρ tg d ρ')
  (he:∀C s H fp pn ρ r,ev Γ G elt' (j6 ρ)=a4 (.v r)->Has (cCx X scope C s H fp pn) ρ elt r)
  (hc:∀C s H fp pn ρ,(ev Γ G c' (j6 ρ)=a4 (.a [])->DTs (cCx X scope C s H fp pn) ρ ifs a6)/\∀y k,ev Γ G c' (j6 ρ)=a4 (.a [y])->y.d=.bl k->DTs (cCx X scope C s H fp pn) ρ ifs k)
  (h:ev Γ G (.comp is elt' it' c') (j6 ρ)=a4 (.v r)):∃l,r=.o l/\DO X ρ (.ListComp elt [⟨tg,it,ifs,0⟩] scope p) l:=by
 obtain⟨l,ρf,ds,pr,g,er,el,hf,hi,hun,hz,hb'⟩:=Rz hit hb he hc h;refine⟨l,er,?_⟩;have main:DO X ρf (.ListComp elt [⟨tg,it,ifs,0⟩] scope p) ((ds.filter pr).map g):=DO.comp is _ _ hi hb' hun hz hq hkind hok hs;rw[<-el]at main;rcases hf with e|⟨hn,i,a,l',hk,e⟩
 .subst e;exact main
 .subst e;exact DO.unfrz hk main hn
end
section
variable{X:Cx}{ρ:Rho}{a b e:ai}{es:List ai}{d:D}{pos p:aK}
theorem Has.map(h:∀σ H Q,Q0 X a σ H Q->Q0 X e σ H Q):∀{r:Rk},Has X ρ a r->Has X ρ e r
 |.e _,q=>λσ H Q R z=>h σ H Q (q σ H Q R z)
 |.o _,q=>λσ H Q R z=>h σ H Q (q σ H Q R z)
 |.w _,q=>λσ H Q R z=>h σ H Q (q σ H Q R z)
 |.t _,q=>λσ H Q R z=>h σ H Q (q σ H Q R z)
theorem Has.bl{r:Rk}{k:Bool}(h:Has X ρ a r)(e:r.d=.bl k):DE X ρ a (.bl k):=DT.toE (e▸h.toT)
theorem Je{f:Bf}{rs:List Rk}{r:Rk}{p2:aK}{G:af->Option D}(c:Cok X G)(hq:f=.min\/f=.all\/f=.sum\/f=.any\/f=.max->X.calm=a6)(hg:Gl X f.name)(h:Q6 f rs=a4 r)(ha:HasA X ρ es rs):Has X ρ (.Call (.Name f.name p) es [] p2) r:=by
 have one:∀{x:Rk},HasA X ρ es [x]->∃e,es=[e]/\Has X ρ e x/\a8 [e] X.env=[(a5,az e X.env)]:=λ{x} h=>by cases h with|cons hs h t=>cases t;exact⟨_,rfl,h,hs⟩
 have two:∀{x y:Rk},HasA X ρ es [x,y]->∃e f,es=[e,f]/\Has X ρ e x/\Has X ρ f y/\a8 [e,f] X.env=(a5,az e X.env)::a8 [f] X.env/\a8 [f] X.env=[(a5,az f X.env)]:=λ{x y} h=>by cases h with|cons hs h t=>cases t with|cons hs2 h2 t2=>cases t2;exact⟨_,_,rfl,h,h2,hs,hs2⟩
 unfold Q6 at h;split at h
 .rename_i x;obtain⟨e,ee,hx,hs⟩:=one ha;subst ee;split at h
  .rename_i l el;cases h;exact DE.lenL (el▸hx.toT) (c.bt _ (by decide)) hg hs
  .rename_i l el;cases h;exact DE.lenT (el▸hx.toT) (c.bt _ (by decide)) hg hs
  .rename_i y el;obtain⟨z,q⟩:=jy h;subst q;exact DE.lenS (el▸hx.toT) (za z) (c.bt _ (by decide)) hg hs
  .cases h
 .rename_i x y;obtain⟨e,f,ee,hx,hy,hs,hs2⟩:=two ha;subst ee;split at h
  .rename_i i j ei ej;cases h;exact DE.min (ei▸hx.toT) (ej▸hy.toT) (c.bt _ (by decide)) (hq (.inl rfl)) hg hs hs2 (by rw[hs2];rfl)
  .cases h
 .rename_i x y;obtain⟨e,f,ee,hx,hy,hs,hs2⟩:=two ha;subst ee;split at h
  .rename_i i j ei ej;cases h;exact DE.max2 (ei▸hx.toT) (ej▸hy.toT) (c.bt _ (by decide)) (hq (.inr (.inr (.inr (.inr rfl))))) hg hs hs2 (by rw[hs2];rfl)
  .cases h
 .rename_i x;obtain⟨e,ee,hx,hs⟩:=one ha;subst ee;split at h
  .rename_i l el;split at h
   .rename_i ns en;obtain⟨z,q⟩:=jy h;cases q;have:=Qn en;subst this;exact DE.maxL (el▸hx.toT) (λz'=>by subst z';simp at z) (c.bt _ (by decide)) (hq (.inr (.inr (.inr (.inr rfl))))) hg hs
   .cases h
  .cases h
 .rename_i x;obtain⟨e,ee,hx,hs⟩:=one ha;subst ee;split at h
  .rename_i l el;split at h
   .rename_i ns en;obtain⟨z,q⟩:=jy h;cases q;have:=Qn en;subst this;exact DE.minL (el▸hx.toT) (λz'=>by subst z';simp at z) (c.bt _ (by decide)) (hq (.inl rfl)) hg hs
   .cases h
  .cases h
 .rename_i x;obtain⟨e,ee,hx,hs⟩:=one ha;subst ee;split at h
  .rename_i l el;cases q:boolsOf l with
   |none=>rw[q]at h;cases h
   |some bs =>rw[q]at h;cases h;have:=Us q;subst this;exact DE.all (el▸hx.toT) (c.bt _ (by decide)) (hq (.inr (.inl rfl))) hg hs
  .cases h
 .rename_i x;obtain⟨e,ee,hx,hs⟩:=one ha;subst ee;split at h
  .rename_i l el;cases q:boolsOf l with
   |none=>rw[q]at h;cases h
   |some bs =>rw[q]at h;cases h;have:=Us q;subst this;exact DE.any (el▸hx.toT) (c.bt _ (by decide)) (hq (.inr (.inr (.inr (.inl rfl))))) hg hs
  .cases h
 .rename_i x;obtain⟨e,ee,hx,hs⟩:=one ha;subst ee;split at h
  .rename_i s l el;cases h;exact DE.tupM (hx.toM el) (c.bt _ (by decide)) hg hs
  .cases h
 .rename_i x;obtain⟨e,ee,hx,hs⟩:=one ha;subst ee;split at h
  .rename_i s l el;cases h;exact DO.listM (hx.toM el) (c.bt _ (by decide)) hg hs
  .cases h
 .rename_i x;obtain⟨e,ee,hx,hs⟩:=one ha;subst ee;split at h
  .rename_i l el;cases q:intsOf l with
   |none=>rw[q]at h;cases h
   |some ns =>rw[q]at h;cases h;have:=Qn q;subst this;exact DE.sum a6 (show DT X ρ e (.lst (ns.map D.int))from el▸hx.toT) (c.bt _ (by decide)) (hq (.inr (.inr (.inl rfl)))) hg hs
  .rename_i l el;cases q:intsOf l with
   |none=>rw[q]at h;cases h
   |some ns =>rw[q]at h;cases h;have:=Qn q;subst this;exact DE.sum a5 (show DT X ρ e (.tup (ns.map D.int))from el▸hx.toT) (c.bt _ (by decide)) (hq (.inr (.inr (.inl rfl)))) hg hs
  .cases h
 .rename_i x;obtain⟨e,ee,hx,hs⟩:=one ha;subst ee;split at h
  .rename_i k el;cases h;exact DE.int1 (el▸hx.toT) (c.bt _ (by decide)) hg hs
  .rename_i y el;split at h
   .rename_i hl;obtain⟨n,hn,rfl⟩:=T4.mp h;exact DE.intS (el▸hx.toT) hn hl (c.bt _ (by decide)) hg hs
   .cases h
  .cases h
 .cases h
end
section
variable{Γ:af->List D->Rc}{G:af->Option D}{X:Cx}
theorem j3b {ρ:Rho} {f:af} {e:ai} {es:List ai} {rs:List Rk} {r:Rk} {p p2:aK} (g:Gok X Γ) (hg:Gl X f) (hdb:(f==k81)=a5) (he:a8 (e::es) X.env=(a5,az e X.env)::a8 es X.env)
  (hpl:(aO p2 (a8 es X.env)).any (·.1)=a5) (ha:HasA X ρ (e::es) rs)
  (h:(match zu rs with|some ds=>(Γ f ds).rk.map W.v|none=>match Γ f (rs.map Rk.d)with|.val d=>a4 (.v (.t d))|.fresh l=>if qb l=a6 then a4 (.v (.o l))else a7|_=>a7)=a4 (.v r)):Has X ρ (.Call (.Name f p) (e::es) [] p2) r:=by
 split at h
 .rename_i ds hds;have q:=g f ds;cases z:Γ f ds with
  |val d=>rw[z]at h q;cases h;exact DE.call q (ha.toA hds) ⟨rfl,rfl⟩ hg hdb he hpl
  |fresh l=>rw[z]at h q;cases h;exact DO.call q (ha.toA hds) ⟨rfl,rfl⟩ hg hdb he hpl
  |err x=>rw[z]at h;cases h
  |lval d=>rw[z]at h;cases h
  |mval d k=>rw[z]at h;cases h
  |merr x=>rw[z]at h;cases h
  |dval d ks ns=>rw[z]at h;cases h
  |hnd sp=>rw[z]at h;cases h
  |no=>rw[z]at h;cases h
 .have q:=g f (rs.map Rk.d);split at h
  .rename_i d z;rw[z]at q;cases h;exact DT.call q ha.toT ⟨rfl,rfl⟩ hg hdb he hpl
  .rename_i l z;rw[z]at q;obtain⟨hn,e1⟩:=jy h;cases e1;exact DO.callT q ha.toT ⟨rfl,rfl⟩ hn hg hdb he hpl
  .cases h
theorem jea{a:Ex}{ρ:En}{r:Rk}(h:ev Γ G (.rpr a) ρ=a4 (.v r)):∃x y,ev Γ G a ρ=a4 (.v x)/\x.d=.str y/\(aI y).length<=2000/\r=.e (.str (aI y)):=by
 rw[jjv]at h;split at h
 .rename_i x ex;split at h
  .rename_i y ey;split at h
   .rename_i hl;cases h;exact⟨x,y,ex,ey,hl,rfl⟩
   .cases h
  .cases h
 .cases h
end
def XM(X:Cx)(ρ:Rho)(y:af):Nd->Prop
 |.e e=>DX X ρ e y
 |.a es=>DXA X ρ es y
 |_=>True
structure Tr(X:Cx)(t:Ex)(nd:Nd):Prop where
 m:∀(Γ:af->List D->Rc)(G:af->Option D),Cok X G->Gok X Γ->jhz Γ G X t nd
 x:∀(Γ:af->List D->Rc)(G:af->Option D),Cok X G->Gok X Γ->∀ρ y,er Γ G t (j6 ρ)=a4 y->XM X ρ y nd
theorem Tr.int:∀{X:Cx}{i:Int}{n:Nat}{p:aK},Tr X (.lit (.int i)) (.e (.Constant (.int i) n p)):=by intro _ _ _ _;refine⟨λΓ G=>?_,λ_ _ _ _ _ _ h=>nomatch h⟩;intro _ _ ρ r h;simp only[K8]at h;cases h;exact DE.int
theorem Tr.bl:∀{X:Cx}{b:Bool}{n:Nat}{p:aK},Tr X (.lit (.bl b)) (.e (.Constant (.bool b) n p)):=by intro _ _ _ _;refine⟨λΓ G=>?_,λ_ _ _ _ _ _ h=>nomatch h⟩;intro _ _ ρ r h;simp only[K8]at h;cases h;exact DE.bl
theorem Tr.str:∀{X:Cx}{y:af}{n:Nat}{p:aK},Tr X (.lit (.str y)) (.e (.Constant (.str y) n p)):=by intro _ _ _ _;refine⟨λΓ G=>?_,λ_ _ _ _ _ _ h=>nomatch h⟩;intro _ _ ρ r h;simp only[K8]at h;cases h;exact DE.str
theorem Tr.var:∀{X:Cx}{k:Nat}{x:af}{p:aK}(hN:X.N[k]?=a4 x) (hv:Vis X.env.scope x) (hd:(x==k81)=a5) (hcd:(x==k82)=a5),Tr X (.var k) (.e (.Name x p)):=by
 intro _ _ _ _ hN hv hd hcd;refine⟨λΓ G=>?_,λ_ _ _ _ _ _ h=>nomatch h⟩;intro _ _ ρ r h;simp only[jjq,N5]at h;split at h
 .rename_i e;cases h;exact DE.var _ (O1 e) hN hv hd hcd
 .rename_i e;cases h;obtain⟨a,q⟩:=J6 e;exact DL.var _ q hN hv hd hcd
 .cases h
theorem Tr.glob:∀{X:Cx}{x:af}{p:aK}(hg:Gl X x)(hd:(x==k81)=a5) (hb:V2 x=a5),Tr X (.glob x) (.e (.Name x p)):=by
 intro _ _ _ hg hd hb;refine⟨λΓ G=>?_,λ_ _ _ _ _ _ h=>nomatch h⟩;rename_i X x p;intro c _ ρ r h;simp only[jho]at h;cases e:G x with
 |none=>rw[e]at h;cases h
 |some d=>rw[e]at h;cases h;obtain⟨u,v,hm,r,q⟩:=c.gl x d hb e;exact DE.glob hg hm r q hd
theorem Tr.bin:∀{X:Cx}{op:Bop}{a' b':Ex}{a b:ai}{p:aK},Tr X a' (.e a)->Tr X b' (.e b)->Tr X (.bin op a' b') (.e (.BinOp a op.op b p)):=by
 intro _ _ _ _ _ _ _ q0 q1;refine⟨λΓ G=>?_,λ_ _ _ _ _ _ h=>nomatch h⟩;have iha:=q0.m Γ G;have ihb:=q1.m Γ G;intro c g ρ r h;simp only[jk1,Qi]at h;split at h
 .rename_i x y ex ey;cases e:Uu _ x y with
  |none=>rw[e]at h;cases h
  |some z=>rw[e]at h;cases h;exact j67 e (iha c g ρ x ex) (ihb c g ρ y ey)
 .cases h
theorem Tr.neg:∀{X:Cx}{a':Ex}{a:ai}{p:aK},Tr X a' (.e a)->Tr X (.neg a') (.e (.UnaryOp .USub a p)):=by
 intro _ _ _ _ q0;refine⟨λΓ G=>?_,λ_ _ _ _ _ _ h=>nomatch h⟩;have iha:=q0.m Γ G;intro c g ρ r h;simp only[jjx,Ip]at h;split at h
 .rename_i x ex;split at h
  .rename_i i e;cases h;exact DE.neg (e▸(iha c g ρ x ex).toT)
  .cases h
 .cases h
theorem Tr.cmp:∀{X:Cx}{op:Cop}{a' b':Ex}{a b:ai}{p:aK}(hm:aL op.op b=a5),Tr X a' (.e a)->Tr X b' (.e b)->Tr X (.cmp op a' b') (.e (.Compare a [op.op] [b] p)):=by
 intro _ _ _ _ _ _ _ hm q0 q1;refine⟨λΓ G=>?_,λ_ _ _ _ _ _ h=>nomatch h⟩;have iha:=q0.m Γ G;have ihb:=q1.m Γ G;intro c g ρ r h;simp only[jag,Fp]at h;split at h
 .rename_i x y ex ey;cases e:vg _ x.d y.d with
  |none=>rw[e]at h;cases h
  |some z=>rw[e]at h;cases h;exact(Ce c.un' e (iha c g ρ x ex).toT (ihb c g ρ y ey).toT hm).1
 .cases h
theorem Tr.bcmp:∀{X:Cx}{op:Cop}{a' b':Ex}{a b:ai}{p:aK}(hm:aL op.op b=a5),Tr X a' (.e a)->Tr X b' (.e b)->Tr X (.cmp op a' b') (.b (.Compare a [op.op] [b] p)):=by
 intro _ _ _ _ _ _ _ hm q0 q1;refine⟨λΓ G=>?_,λ_ _ _ _ _ _ _=>trivial⟩;have iha:=q0.m Γ G;have ihb:=q1.m Γ G;intro c g ρ k h;obtain⟨r,h,hk⟩:=Jg h;simp only[jag,Fp]at h;split at h
 .rename_i x y ex ey;cases e:vg _ x.d y.d with
  |none=>rw[e]at h;cases h
  |some z=>rw[e]at h;cases h;cases hk;exact(Ce c.un' e (iha c g ρ x ex).toT (ihb c g ρ y ey).toT hm).2
 .cases h
theorem Tr.isN:∀{X:Cx}{a':Ex}{a:ai}{n:Nat}{p p2:aK},Tr X a' (.e a)->Tr X (.isN a') (.e (.Compare a [.Is] [.Constant .none n p2] p)):=by
 intro _ _ _ _ _ _ q0;refine⟨λΓ G=>?_,λ_ _ _ _ _ _ h=>nomatch h⟩;have iha:=q0.m Γ G;intro c g ρ r h;simp only[jaf]at h;split at h
 .rename_i x ex;cases h;exact DE.isN (iha c g ρ x ex).toT
 .cases h
theorem Tr.bisN:∀{X:Cx}{a':Ex}{a:ai}{n:Nat}{p p2:aK},Tr X a' (.e a)->Tr X (.isN a') (.b (.Compare a [.Is] [.Constant .none n p2] p)):=by
 intro _ _ _ _ _ _ q0;refine⟨λΓ G=>?_,λ_ _ _ _ _ _ _=>trivial⟩;have iha:=q0.m Γ G;intro c g ρ k h;obtain⟨r,h,hk⟩:=Jg h;simp only[jaf]at h;split at h
 .rename_i x ex;cases h;cases hk;exact DB.isN (iha c g ρ x ex).toT
 .cases h
theorem Tr.one:∀{X:Cx}{a':Ex}{a:ai}{op:BoolOp}{p:aK},Tr X a' (.e a)->Tr X a' (.e (.BoolOp op [a] p)):=by intro _ _ _ _ _ q0;refine⟨λΓ G=>?_,λΓ G c g ρ y h σ H Q R k=>(j4i peS).to (q0.x Γ G c g ρ y h σ H Q R k)⟩;have iha:=q0.m Γ G;intro c g ρ r h;exact Has.map (λσ H Q q=>(j4i peS).to q) (iha c g ρ r h)
theorem Tr.and:∀{X:Cx}{a' t':Ex}{a b:ai}{rest:List ai}{p:aK},Tr X a' (.e a)->Tr X t' (.e (.BoolOp .And (b::rest) p))->Tr X (.and a' t') (.e (.BoolOp .And (a::b::rest) p)):=by
 intro _ _ _ _ _ _ _ q0 q1;refine⟨λΓ G=>?_,λ_ _ _ _ _ _ h=>nomatch h⟩;have iha:=q0.m Γ G;have ihb:=q1.m Γ G;intro c g ρ r h;simp only[jah]at h;split at h
 .rename_i e;cases h;obtain⟨x,ex,ed⟩:=Jg e;exact(DE.and (m:=a5) ((iha c g ρ x ex).bl ed).toT λz=>by cases z)
 .rename_i e;obtain⟨x,ex,ed⟩:=Jg e;cases e2:truth (ev Γ G _ (j6 ρ)) with
  |none=>rw[e2]at h;cases h
  |some k =>rw[e2]at h;cases h;obtain⟨y,ey,fd⟩:=Jg e2;exact(DE.and ((iha c g ρ x ex).bl ed).toT λ_=>(ihb c g ρ y ey).bl fd).eq (by simp)
 .cases h
theorem Tr.wand1:∀{X:Cx}{a':Ex}{a:ai}{p:aK},Tr X a' (.b a)->Tr X a' (.w (.BoolOp .And [a] p)):=by intro _ _ _ _ q0;refine⟨λΓ G=>?_,λ_ _ _ _ _ _ _=>trivial⟩;have iha:=q0.m Γ G;intro c g ρ k h;exact DW.and1 (iha c g ρ k h)
theorem Tr.wor1:∀{X:Cx}{a':Ex}{a:ai}{p:aK},Tr X a' (.b a)->Tr X a' (.w (.BoolOp .Or [a] p)):=by intro _ _ _ _ q0;refine⟨λΓ G=>?_,λ_ _ _ _ _ _ _=>trivial⟩;have iha:=q0.m Γ G;intro c g ρ k h;exact DW.or1 (iha c g ρ k h)
theorem Tr.wand:∀{X:Cx}{a' t':Ex}{a b:ai}{rest:List ai}{p:aK},Tr X a' (.b a)->Tr X t' (.w (.BoolOp .And (b::rest) p))->Tr X (.and a' t') (.w (.BoolOp .And (a::b::rest) p)):=by
 intro _ _ _ _ _ _ _ q0 q1;refine⟨λΓ G=>?_,λ_ _ _ _ _ _ _=>trivial⟩;have iha:=q0.m Γ G;have ihb:=q1.m Γ G;intro c g ρ k h;obtain⟨r,h,hk⟩:=Jg h;simp only[jah]at h;split at h
 .rename_i e;cases h;cases hk;exact DW.and (m:=a5) (iha c g ρ a5 e) λz=>by cases z
 .rename_i e;cases e2:truth (ev Γ G _ (j6 ρ)) with
  |none=>rw[e2]at h;cases h
  |some m =>rw[e2]at h;cases h;cases hk;have q:=DW.and (iha c g ρ a6 e) λ_=>ihb c g ρ _ e2;rw[jP]at q;exact q
 .cases h
theorem Tr.wor:∀{X:Cx}{a' t':Ex}{a b:ai}{rest:List ai}{p:aK},Tr X a' (.b a)->Tr X t' (.w (.BoolOp .Or (b::rest) p))->Tr X (.or a' t') (.w (.BoolOp .Or (a::b::rest) p)):=by
 intro _ _ _ _ _ _ _ q0 q1;refine⟨λΓ G=>?_,λ_ _ _ _ _ _ _=>trivial⟩;have iha:=q0.m Γ G;have ihb:=q1.m Γ G;intro c g ρ k h;obtain⟨r,h,hk⟩:=Jg h;simp only[jls]at h;split at h
 .rename_i e;cases h;cases hk;exact DW.or (m:=a5) (iha c g ρ a6 e) λz=>by cases z
 .rename_i e;cases e2:truth (ev Γ G _ (j6 ρ)) with
  |none=>rw[e2]at h;cases h
  |some m =>rw[e2]at h;cases h;cases hk;have q:=DW.or (iha c g ρ a5 e) λ_=>ihb c g ρ _ e2;rw[gc]at q;exact q
 .cases h
theorem Tr.bw:∀{X:Cx}{a':Ex}{op:BoolOp}{es:List ai}{p:aK},Tr X a' (.w (.BoolOp op es p))->Tr X a' (.b (.BoolOp op es p)):=by intro _ _ _ _ _ q0;refine⟨λΓ G=>?_,λ_ _ _ _ _ _ _=>trivial⟩;have iha:=q0.m Γ G;intro c g ρ k h;exact DW.toB (iha c g ρ k h)
theorem Tr.bnot:∀{X:Cx}{a':Ex}{a:ai}{p:aK},Tr X a' (.b a)->Tr X (.not a') (.b (.UnaryOp .Not a p)):=by
 intro _ _ _ _ q0;refine⟨λΓ G=>?_,λ_ _ _ _ _ _ _=>trivial⟩;have iha:=q0.m Γ G;intro c g ρ k h;obtain⟨r,h,hk⟩:=Jg h;simp only[jjw]at h;cases e:truth (ev Γ G _ (j6 ρ)) with
 |none=>rw[e]at h;cases h
 |some m=>rw[e]at h;cases h;cases hk;exact DB.not (iha c g ρ m e)
theorem Tr.bval:∀{X:Cx}{a':Ex}{a:ai}(he:∀whole,ft a X.env whole=(do let v <-whole;fK a.pos;c8 [v] (truthy v))),Tr X a' (.e a)->Tr X a' (.b a):=by intro _ _ _ he q0;refine⟨λΓ G=>?_,λ_ _ _ _ _ _ _=>trivial⟩;have iha:=q0.m Γ G;intro c g ρ k h;obtain⟨r,h,hk⟩:=Jg h;exact DB.val ((iha c g ρ r h).bl hk).toT he
theorem Tr.nil:∀{X:Cx},Tr X .nil (.a []):=by intro _;refine⟨λΓ G=>?_,λ_ _ _ _ _ _ h=>nomatch h⟩;intro c g ρ rs h;simp only[Uy]at h;cases h;exact .nil
theorem Tr.cons:∀{X:Cx}{a' b':Ex}{a:ai}{es:List ai}(hs:a8 (a::es) X.env=(a5,az a X.env)::a8 es X.env),Tr X a' (.e a)->Tr X b' (.a es)->Tr X (.cons a' b') (.a (a::es)):=by
 intro _ _ _ _ _ hs q0 q1;refine⟨λΓ G=>?_,λΓ G=>?_⟩
 .have iha:=q0.m Γ G;have ihb:=q1.m Γ G;intro c g ρ rs h;simp only[Y4,consW]at h;split at h
  .rename_i x xs ex exs;cases h;exact .cons hs (iha c g ρ x ex) (ihb c g ρ xs exs)
  .cases h
 .skip
  intro c g ρ y h;rw[er]at h;split at h
  .rename_i x ex;cases h;exact DXA.head (q0.x Γ G c g ρ _ ex) hs
  split at h
  .rename_i r ez;exact DXA.tail (q0.m Γ G c g ρ r ez).toT (q1.x Γ G c g ρ y h) hs
  .cases h
theorem Tr.tup:∀{X:Cx}{es':Ex}{es:List ai}{n:Nat}{p:aK},Tr X es' (.a es)->Tr X (.tup es') (.e (.Tuple es n p)):=by
 intro _ _ _ _ _ q0;refine⟨λΓ G=>?_,λ_ _ _ _ _ _ h=>nomatch h⟩;have iha:=q0.m Γ G;intro c g ρ r h;simp only[jjr,Yl]at h;split at h
 .rename_i rs ers;split at h
  .rename_i ds hds;obtain⟨z,q⟩:=jy h;cases q;exact DE.tup (n:=0) ((iha c g ρ rs ers).toA hds) (za z)
  .cases h
 .cases h
theorem Tr.lst:∀{X:Cx}{es':Ex}{es:List ai}{p:aK},Tr X es' (.a es)->Tr X (.lst es') (.e (.List es p)):=by
 intro _ _ _ _ q0;refine⟨λΓ G=>?_,λ_ _ _ _ _ _ h=>nomatch h⟩;have iha:=q0.m Γ G;intro c g ρ r h;simp only[jjy,Ze]at h;split at h
 .rename_i rs ers;split at h
  .rename_i ds hds;obtain⟨z,q⟩:=jy h;cases q;exact DO.lst ((iha c g ρ rs ers).toA hds) (za z)
  .cases h
 .cases h
theorem Tr.ix:∀{X:Cx}{a' b':Ex}{a b:ai}{p:aK}(hs:Ro b),Tr X a' (.e a)->Tr X b' (.e b)->Tr X (.ix a' b') (.e (.Subscript a b p)):=by
 intro _ _ _ _ _ _ hs q0 q1;refine⟨λΓ G=>?_,λΓ G c g ρ y h σ H Q R k=>(Lx j58 peS peS hs).to (q0.x Γ G c g ρ y (by rw[er]at h;exact h) σ H _ R k)⟩;have iha:=q0.m Γ G;have ihb:=q1.m Γ G;intro c g ρ r h;simp only[jlt,ixW]at h;split at h
 .rename_i x y ex ey;split at h
  .rename_i s l i hx hy;cases z:atI l i with
   |none=>rw[z]at h;cases h
   |some d=>rw[z]at h;cases h;exact DE.ixM ((iha c g ρ x ex).toM hx) (hy▸(ihb c g ρ y ey).toT) z hs
  .rename_i i hx hy;split at h
   .rename_i y' ed;split at h
    .rename_i hl;cases z:atI y'.cps.toList i with
     |none=>rw[z]at h;cases h
     |some d=>rw[z]at h;cases h;exact DE.ixC (ed▸(iha c g ρ x ex).toT) (hy▸(ihb c g ρ y ey).toT) (za hl) z hs
    .cases h
   .cases h
  .cases h
 .cases h
theorem Tr.oN:∀{X:Cx},Tr X .nil (.o a7):=by intro _;refine⟨λΓ G=>?_,λ_ _ _ _ _ _ _=>trivial⟩;intro c g ρ o h;simp only[Uy,Q5]at h;cases h;exact DP.none
theorem Tr.oS:∀{X:Cx}{a':Ex}{a:ai},Tr X a' (.e a)->Tr X (.cons a' .nil) (.o (a4 a)):=by
 intro _ _ _ q0;refine⟨λΓ G=>?_,λ_ _ _ _ _ _ _=>trivial⟩;have iha:=q0.m Γ G;intro c g ρ o h;simp only[Y4,Uy,consW]at h;split at h
 .rename_i x xs ex exs;cases exs;simp only[Q5]at h;split at h
  .rename_i i ei;cases h;exact DP.some (ei▸(iha c g ρ x ex).toT)
  .cases h
 .cases h
theorem Tr.sl:∀{X:Cx}{a' l' h':Ex}{a:ai}{lo hi:Option ai}{p p2:aK},Tr X a' (.e a)->Tr X l' (.o lo)->Tr X h' (.o hi)->Tr X (.sl a' l' h') (.e (.Subscript a (.Slice lo hi a7 p2) p)):=by
 intro _ _ _ _ _ _ _ _ _ q0 q1 q2;refine⟨λΓ G=>?_,λ_ _ _ _ _ _ h=>nomatch h⟩;have iha:=q0.m Γ G;have ihl:=q1.m Γ G;have ihh:=q2.m Γ G;intro c g ρ r h;simp only[jlr]at h;split at h
 .rename_i x l hh ex el eh;split at h
  .rename_i ds e;cases h;exact DO.sliceM ((iha c g ρ x ex).toM e) (ihl c g ρ l el) (ihh c g ρ hh eh)
  .rename_i ds e;split at h
   .cases h
   .rename_i z;cases h;exact DE.sliceM ((iha c g ρ x ex).toM e) (ihl c g ρ l el) (ihh c g ρ hh eh) z
  .split at h
   .rename_i y' ed;obtain⟨z,q⟩:=jy h;cases q;exact DE.sliceS (ed▸(iha c g ρ x ex).toT) (ihl c g ρ l el) (ihh c g ρ hh eh) (za z)
   .cases h
 .cases h
theorem Tr.call:∀{X:Cx}{f:af}{es':Ex}{e:ai}{es:List ai}{p p2:aK}(hg:Gl X f) (hdb:(f==k81)=a5) (he:a8 (e::es) X.env=(a5,az e X.env)::a8 es X.env) (hpl:(aO p2 (a8 es X.env)).any (·.1)=a5),Tr X es' (.a (e::es))->Tr X (.call f es') (.e (.Call (.Name f p) (e::es) [] p2)):=by
 intro _ f _ _ _ _ _ hg hdb he hpl q0;refine⟨λΓ G=>?_,λΓ G=>?_⟩
 .have iha:=q0.m Γ G;intro c g ρ r h;simp only[jhr,J8]at h;split at h
  .rename_i rs ers;exact j3b g hg hdb he hpl (iha c g ρ rs ers) h
  .cases h
 .skip
  intro c g ρ y h;rw[er]at h;split at h
  .rename_i x ex;split at h
   .rename_i hz;cases h;obtain⟨d,hd⟩:=Xr.mp hz;obtain⟨fa,hfa,hk⟩:=c.fn _ d hd;exact DX.args (q0.x Γ G c g ρ _ ex) hg hdb hfa hk he hpl
   .cases h
  split at h
  .rename_i rs ers;split at h
   .rename_i z ez;split at h
    .rename_i hz;cases h;have q:=g f (rs.map Rk.d);rw[ez]at q;obtain⟨d,hd⟩:=Xr.mp hz;obtain⟨_,o,ho⟩:=c.ec _ d hd;exact DX.call q (q0.m Γ G c g ρ rs ers).toT ⟨rfl,rfl⟩ (W.mg_of c.kin c.ns ho) hg hdb he hpl
    .cases h
   .cases h
  .cases h
theorem Tr.bchn:∀{X:Cx}{a' b' c':Ex}{a b c:ai}{p:aK}(hm:kz [.Lt,.Lt] [b,c]=a5),Tr X a' (.e a)->Tr X b' (.e b)->Tr X c' (.e c)->Tr X (.chn a' b' c') (.b (.Compare a [.Lt,.Lt] [b,c] p)):=by
 intro _ _ _ _ _ _ _ _ hm q0 q1 q2;refine⟨λΓ G=>?_,λ_ _ _ _ _ _ _=>trivial⟩;have iha:=q0.m Γ G;have ihb:=q1.m Γ G;have ihc:=q2.m Γ G;intro c g ρ k h;obtain⟨r,h,hk⟩:=Jg h;simp only[jk0,j05]at h;split at h
 .rename_i x y z ex ey ez;split at h
  .rename_i i j k ei ej ek;cases h;cases hk;exact DB.chn (ei▸(iha c g ρ x ex).toT) (ej▸(ihb c g ρ y ey).toT) (ek▸(ihc c g ρ z ez).toT) hm
  .cases h
 .cases h
theorem Tr.max1:∀{X:Cx}{es':Ex}{e:ai}{p p2:aK}(hq:X.calm=a6)(hg:Gl X "max"),Tr X es' (.a [e])->Tr X (.blt .max es') (.e (.Call (.Name "max" p) [e] [] p2)):=by
 intro _ _ _ _ _ hq hg q0;refine⟨λΓ G=>?_,λ_ _ _ _ _ _ h=>nomatch h⟩;have iha:=q0.m Γ G;intro c g ρ r h;simp only[Vf,qy]at h;split at h
 .rename_i rs ers;cases e:Q6 _ rs with
  |none=>rw[e]at h;cases h
  |some x=>rw[e]at h;cases h;exact Je (f:=.max) c (λ_=>hq) hg e (iha c g ρ rs ers)
 .cases h
theorem Tr.max:∀{X:Cx}{es':Ex}{e f:ai}{p p2:aK}(hq:X.calm=a6)(hg:Gl X "max"),Tr X es' (.a [e,f])->Tr X (.blt .max es') (.e (.Call (.Name "max" p) [e,f] [] p2)):=by
 intro _ _ _ _ _ _ hq hg q0;refine⟨λΓ G=>?_,λ_ _ _ _ _ _ h=>nomatch h⟩;have iha:=q0.m Γ G;intro c g ρ r h;simp only[Vf,qy]at h;split at h
 .rename_i rs ers;cases e:Q6 _ rs with
  |none=>rw[e]at h;cases h
  |some x=>rw[e]at h;cases h;exact Je (f:=.max) c (λ_=>hq) hg e (iha c g ρ rs ers)
 .cases h
theorem Tr.len:∀{X:Cx}{es':Ex}{e:ai}{p p2:aK}(hg:Gl X "len"),Tr X es' (.a [e])->Tr X (.blt .len es') (.e (.Call (.Name "len" p) [e] [] p2)):=by
 intro _ _ _ _ _ hg q0;refine⟨λΓ G=>?_,λ_ _ _ _ _ _ h=>nomatch h⟩;have iha:=q0.m Γ G;intro c g ρ r h;simp only[Vf,qy]at h;split at h
 .rename_i rs ers;cases e:Q6 _ rs with
  |none=>rw[e]at h;cases h
  |some x=>rw[e]at h;cases h;exact Je (f:=.len) c (λz=>by rcases z with z|z|z|z|z<;>cases z) hg e (iha c g ρ rs ers)
 .cases h
theorem Tr.tuple:∀{X:Cx}{es':Ex}{e:ai}{p p2:aK}(hg:Gl X "tuple"),Tr X es' (.a [e])->Tr X (.blt .tuple es') (.e (.Call (.Name "tuple" p) [e] [] p2)):=by
 intro _ _ _ _ _ hg q0;refine⟨λΓ G=>?_,λ_ _ _ _ _ _ h=>nomatch h⟩;have iha:=q0.m Γ G;intro c g ρ r h;simp only[Vf,qy]at h;split at h
 .rename_i rs ers;cases e:Q6 _ rs with
  |none=>rw[e]at h;cases h
  |some x=>rw[e]at h;cases h;exact Je (f:=.tuple) c (λz=>by rcases z with z|z|z|z|z<;>cases z) hg e (iha c g ρ rs ers)
 .cases h
theorem Tr.list:∀{X:Cx}{es':Ex}{e:ai}{p p2:aK}(hg:Gl X "list"),Tr X es' (.a [e])->Tr X (.blt .list es') (.e (.Call (.Name "list" p) [e] [] p2)):=by
 intro _ _ _ _ _ hg q0;refine⟨λΓ G=>?_,λ_ _ _ _ _ _ h=>nomatch h⟩;have iha:=q0.m Γ G;intro c g ρ r h;simp only[Vf,qy]at h;split at h
 .rename_i rs ers;cases e:Q6 _ rs with
  |none=>rw[e]at h;cases h
  |some x=>rw[e]at h;cases h;exact Je (f:=.list) c (λz=>by rcases z with z|z|z|z|z<;>cases z) hg e (iha c g ρ rs ers)
 .cases h
theorem Tr.min:∀{X:Cx}{es':Ex}{e f:ai}{p p2:aK}(hq:X.calm=a6)(hg:Gl X "min"),Tr X es' (.a [e,f])->Tr X (.blt .min es') (.e (.Call (.Name "min" p) [e,f] [] p2)):=by
 intro _ _ _ _ _ _ hq hg q0;refine⟨λΓ G=>?_,λ_ _ _ _ _ _ h=>nomatch h⟩;have iha:=q0.m Γ G;intro c g ρ r h;simp only[Vf,qy]at h;split at h
 .rename_i rs ers;cases e:Q6 _ rs with
  |none=>rw[e]at h;cases h
  |some x=>rw[e]at h;cases h;exact Je (f:=.min) c (λ_=>hq) hg e (iha c g ρ rs ers)
 .cases h
theorem Tr.sum:∀{X:Cx}{es':Ex}{e:ai}{p p2:aK}(hq:X.calm=a6)(hg:Gl X "sum"),Tr X es' (.a [e])->Tr X (.blt .sum es') (.e (.Call (.Name "sum" p) [e] [] p2)):=by
 intro _ _ _ _ _ hq hg q0;refine⟨λΓ G=>?_,λ_ _ _ _ _ _ h=>nomatch h⟩;have iha:=q0.m Γ G;intro c g ρ r h;simp only[Vf,qy]at h;split at h
 .rename_i rs ers;cases e:Q6 _ rs with
  |none=>rw[e]at h;cases h
  |some x=>rw[e]at h;cases h;exact Je (f:=.sum) c (λ_=>hq) hg e (iha c g ρ rs ers)
 .cases h
theorem Tr.intc:∀{X:Cx}{es':Ex}{e:ai}{p p2:aK}(hg:Gl X "int"),Tr X es' (.a [e])->Tr X (.blt .int es') (.e (.Call (.Name "int" p) [e] [] p2)):=by
 intro _ _ _ _ _ hg q0;refine⟨λΓ G=>?_,λ_ _ _ _ _ _ h=>nomatch h⟩;have iha:=q0.m Γ G;intro c g ρ r h;simp only[Vf,qy]at h;split at h
 .rename_i rs ers;cases e:Q6 _ rs with
  |none=>rw[e]at h;cases h
  |some x=>rw[e]at h;cases h;exact Je (f:=.int) c (λz=>by rcases z with z|z|z|z|z<;>cases z) hg e (iha c g ρ rs ers)
 .cases h
theorem Tr.join:∀{X:Cx}{a':Ex}{a:ai}{sep:af}{n:Nat}{p0 p1 p2:aK}(hbase:aM (.Constant (.str sep) n p0) "join" X.env (az (.Constant (.str sep) n p0) X.env)=az (.Constant (.str sep) n p0) X.env) (hfew:((aO p2 (a8 [a] X.env)).all (λx=>!x.1)&&(bo p2 (aT [] X.env)).all (λx=>x.1.isSome)&&decide (([a]:List ai).length+([]:List aR).length+(if ([]:List aR).isEmpty then 0 else 1)<30))=a6) (hline:(p1.endLine==p2.line)=a6) (hs:a8 [a] X.env=(a5,az a X.env)::a8 [] X.env),Tr X a' (.e a)->Tr X (.join sep a') (.e (.Call (.Attribute (.Constant (.str sep) n p0) "join" p1) [a] [] p2)):=by
 intro _ _ _ _ _ _ _ _ hbase hfew hline hs q0;refine⟨λΓ G=>?_,λ_ _ _ _ _ _ h=>nomatch h⟩;have iha:=q0.m Γ G;intro c g ρ r h;simp only[jhn,Rh]at h;split at h
 .rename_i x ex;split at h
  .rename_i l el;split at h
   .rename_i ts et;obtain⟨z,q⟩:=jy h;cases q;have:=Y7 et;subst this;exact DE.join (el▸(iha c g ρ x ex).toT) z hfew hbase hline hs
   .cases h
  .cases h
 .cases h
theorem Tr.srt:∀{X:Cx}{a':Ex}{a:ai}{p pos:aK}(hg:Gl X "sorted") (hs:a8 [a] X.env=[(a5,az a X.env)]),Tr X a' (.e a)->Tr X (.srt a') (.e (.Call (.Name "sorted" p) [a] [] pos)):=by
 intro _ _ _ _ _ hg hs q0;refine⟨λΓ G=>?_,λ_ _ _ _ _ _ h=>nomatch h⟩;have iha:=q0.m Γ G;intro c g ρ r h;simp only[jjt,Nf]at h;split at h
 .rename_i x ex;have z:=(iha c g ρ x ex).toT;split at h
  .rename_i l el;rw[el]at z;split at h
   .rename_i ts et;split at h
    .rename_i hl;cases h;exact DO.sortedS (.inl (by rw[Y7 et])) hl (c.bt _ (by decide)) hg z hs
    .cases h
   .cases h
  .rename_i l el;rw[el]at z;split at h
   .rename_i ts et;split at h
    .rename_i hl;cases h;exact DO.sortedS (.inr (by rw[Y7 et])) hl (c.bt _ (by decide)) hg z hs
    .cases h
   .cases h
  .cases h
 .cases h
theorem Tr.tix:∀{X:Cx}{a' b':Ex}{a e:ai}{p1 p2:aK}(hbase:aM a "index" X.env (az a X.env)=az a X.env) (hfew:((aO p2 (a8 [e] X.env)).all (λx=>!x.1)&&(bo p2 (aT [] X.env)).all (λx=>x.1.isSome)&&decide (([e]:List ai).length+([]:List aR).length+(if ([]:List aR).isEmpty then 0 else 1)<30))=a6) (hline:(p1.endLine==p2.line)=a6) (hs:a8 [e] X.env=(a5,az e X.env)::a8 [] X.env),Tr X a' (.e a)->Tr X b' (.e e)->Tr X (.tix a' b') (.e (.Call (.Attribute a "index" p1) [e] [] p2)):=by
 intro _ _ _ _ _ _ _ hbase hfew hline hs q0 q1;refine⟨λΓ G=>?_,λ_ _ _ _ _ _ h=>nomatch h⟩;have iha:=q0.m Γ G;have ihb:=q1.m Γ G;intro c g ρ r h;simp only[jjs,Yn]at h;split at h
 .rename_i x y ex ey;split at h
  .rename_i l el;by_cases z:D.depL l<=90/\y.d.dep<=90
   .rw[if_pos z]at h;cases e:ixD y.d l with
    |none=>rw[e]at h;cases h
    |some k=>rw[e]at h;cases h;exact DE.indexT c.un' (el▸(iha c g ρ x ex).toT) (ihb c g ρ y ey).toT nofun nofun e hbase hfew hline hs
   .rw[if_neg z]at h;cases h
  .rename_i l el;by_cases z:D.depL l<=90/\y.d.dep<=90
   .rw[if_pos z]at h;cases e:ixD y.d l with
    |none=>rw[e]at h;cases h
    |some k=>rw[e]at h;cases h;exact DE.indexL c.un' (el▸(iha c g ρ x ex).toT) (ihb c g ρ y ey).toT nofun nofun e hbase hfew hline hs
   .rw[if_neg z]at h;cases h
  .cases h
 .cases h
theorem Tr.any:∀{X:Cx}{es':Ex}{e:ai}{p p2:aK}(hq:X.calm=a6)(hg:Gl X "any"),Tr X es' (.a [e])->Tr X (.blt .any es') (.e (.Call (.Name "any" p) [e] [] p2)):=by
 intro _ _ _ _ _ hq hg q0;refine⟨λΓ G=>?_,λ_ _ _ _ _ _ h=>nomatch h⟩;have iha:=q0.m Γ G;intro c g ρ r h;simp only[Vf,qy]at h;split at h
 .rename_i rs ers;cases e:Q6 _ rs with
  |none=>rw[e]at h;cases h
  |some x=>rw[e]at h;cases h;exact Je (f:=.any) c (λ_=>hq) hg e (iha c g ρ rs ers)
 .cases h
theorem Tr.enum:∀{X:Cx}{a':Ex}{a:ai}{es:List ai}{n:Nat}{p p2 pt:aK}(hg:Gl X "enumerate") (hs:a8 [a] X.env=[(a5,az a X.env)]),Tr X a' (.e a)->Tr X (.enum a') (.i (.Tuple es n pt) (.Call (.Name "enumerate" p) [a] [] p2)):=by
 intro _ _ _ _ _ _ _ _ hg hs q0;refine⟨λΓ G=>?_,λ_ _ _ _ _ _ _=>trivial⟩;have iha:=q0.m Γ G;intro c g ρ ds h;simp only[jhp,Bo]at h;split at h
 .rename_i x ex;have ha:=iha c g ρ x ex;split at h
  .rename_i l e1;cases h;exact DI.enum a6 (ha.toE e1) (c.bt _ (by decide)) hg hs
  .rename_i l e1;cases h;exact DI.enum a5 (ha.toE e1) (c.bt _ (by decide)) hg hs
  .cases h
 .cases h
theorem Tr.isi1:∀{X:Cx}{a':Ex}{a:ai}{T:af}{c:String}{p p1 p2:aK}(hT:T∈Z5) (hv:b0 T=a4 (.type c)) (hg:Gl X "isinstance") (hg2:Gl X T) (hn:T ≠ "__name__") (hd:(T==k81)=a5) (hs:a8 [a,.Name T p1] X.env=(a5,az a X.env)::a8 [.Name T p1] X.env),Tr X a' (.e a)->Tr X (.isi a' [c]) (.e (.Call (.Name "isinstance" p) [a,.Name T p1] [] p2)):=by
 intro _ _ _ _ _ _ _ _ hT hv hg hg2 hn hd hs q0;refine⟨λΓ G=>?_,λ_ _ _ _ _ _ h=>nomatch h⟩;have iha:=q0.m Γ G;intro c g ρ r h;simp only[jae,Ny]at h;split at h
 .rename_i x ex;cases e:q9 x.d _ with
  |none=>rw[e]at h;cases h
  |some k =>
   rw[e]at h;cases h;refine DE.isi1 (iha c g ρ x ex).toT (j1q e) (c.bt _ (by decide)) (c.bt _ hT) hv ?_ hg hg2 hn hd hs rfl rfl;simp only[q9]at e;split at e
   .rename_i k1 k2 e1 e2;cases e2;cases e;rw[gb];exact j1m e1
   .cases e
 .cases h
theorem Tr.isi2:∀{X:Cx}{a':Ex}{a:ai}{T U:af}{c d:String}{n:Nat}{p p1 p2 p3 p4:aK} (hT:T∈Z5) (hU:U∈Z5) (hv:b0 T=a4 (.type c)) (hw:b0 U=a4 (.type d)) (hg:Gl X "isinstance") (hg1:Gl X T) (hg2:Gl X U) (hn:T ≠ "__name__") (hd:(T==k81)=a5) (hn2:U ≠ "__name__") (hd2:(U==k81)=a5) (hs:a8 [a,.Tuple [.Name T p1,.Name U p3] n p4] X.env=(a5,az a X.env)::a8 [.Tuple [.Name T p1,.Name U p3] n p4] X.env),Tr X a' (.e a)->Tr X (.isi a' [c,d]) (.e (.Call (.Name "isinstance" p) [a,.Tuple [.Name T p1,.Name U p3] n p4] [] p2)):=by
 intro _ _ _ _ _ _ _ _ _ _ _ _ _ hT hU hv hw hg hg1 hg2 hn hd hn2 hd2 hs q0;refine⟨λΓ G=>?_,λ_ _ _ _ _ _ h=>nomatch h⟩;have iha:=q0.m Γ G;intro c g ρ r h;simp only[jae,Ny]at h;split at h
 .rename_i x ex;cases e:q9 x.d _ with
  |none=>rw[e]at h;cases h
  |some k =>rw[e]at h;cases h;exact DE.isi2 (iha c g ρ x ex).toT (j1q e) (c.bt _ (by decide)) (c.bt _ hT) (c.bt _ hU) hv hw (Ed e) hg hg1 hg2 hn hd hn2 hd2 hs rfl rfl rfl rfl
 .cases h
theorem Tr.c0:∀{X:Cx},Tr X .nil (.c []):=by intro _;refine⟨λΓ G=>?_,λ_ _ _ _ _ _ _=>trivial⟩;intro c g ρ;exact⟨λ_=>DTs.nil,λy k h=>by simp only[Uy]at h;cases h⟩
theorem Tr.c1:∀{X:Cx}{c':Ex}{c:ai},Tr X c' (.b c)->Tr X (.cons c' .nil) (.c [c]):=by
 intro _ _ _ q0;refine⟨λΓ G=>?_,λ_ _ _ _ _ _ _=>trivial⟩;have iha:=q0.m Γ G;intro c g ρ;refine⟨λh=>?_,λy k h hk=>DTs.one ?_⟩
 .simp only[Y4,Uy,consW]at h;split at h<;>cases h
 .simp only[Y4,Uy,consW]at h;split at h
  .rename_i x xs ex exs;cases exs;cases h;exact iha c g ρ k (by rw[ex];simp only[truth,hk])
  .cases h
theorem Tr.comp1:∀{X:Cx}{i:Nat}{y:af}{py p:aK}{elt' it' c':Ex}{elt it:ai}{ifs:List ai} {scope:b8} (hq:X.calm=a6) (hi:X.N[i]?=a4 y) (hl:V6 scope y=a6) (hkind:scope.kind=.function) (hok:J5 scope X.env X.N [i]=a6) (hs:∀x,aH it X.env x=pure x),Tr X it' (.i (.Name y py) it)->(∀C s H fp pn,Tr (cCx X scope C s H fp pn) elt' (.e elt))->(∀C s H fp pn,Tr (cCx X scope C s H fp pn) c' (.c ifs))->Tr X (.comp [i] elt' it' c') (.e (.ListComp elt [⟨.Name y py,it,ifs,0⟩] scope p)):=by
 intro _ _ _ _ _ _ _ _ _ _ _ _ hq hi hl hkind hok hs q0 q1 q2;refine⟨λΓ G=>?_,λ_ _ _ _ _ _ h=>nomatch h⟩;have ihi:=q0.m Γ G;have ihe:=λC s H fp pn=>(q1 C s H fp pn).m Γ G;have ihc:=λC s H fp pn=>(q2 C s H fp pn).m Γ G;intro c g ρ r h;obtain⟨l,e,q⟩:=Br hq c (λρ ds z=>ihi c g ρ ds z) hkind hok hs (λρ d ρ2 hb hun=>by
  simp only[qz]at hb
  cases hb
  have hu:=hun _ (X6.mpr rfl)
  exact⟨_,jd,Wk.set hu,Zr hu,λC s H fp pn=>DG.name _ c.nd hi (Wy hl) (O7 hl)⟩)
  (λC s H fp pn ρ r z=>ihe C s H fp pn c.comp g.comp ρ r z) (λC s H fp pn ρ=>ihc C s H fp pn c.comp g.comp ρ) h
 subst e;exact q
theorem Tr.comp2:∀{X:Cx}{i j:Nat}{x y:af}{px py pt p:aK}{n:Nat}{elt' it' c':Ex}{elt it:ai} {ifs:List ai} {scope:b8} (hq:X.calm=a6) (hij:i≠j) (hi:X.N[i]?=a4 x) (hj:X.N[j]?=a4 y) (hl:V6 scope x=a6) (hl':V6 scope y=a6) (hkind:scope.kind=.function) (hok:J5 scope X.env X.N [i,j]=a6) (hs:∀x,aH it X.env x=pure x),Tr X it' (.i (.Tuple [.Name x px,.Name y py] n pt) it)->(∀C s H fp pn,Tr (cCx X scope C s H fp pn) elt' (.e elt))->(∀C s H fp pn,Tr (cCx X scope C s H fp pn) c' (.c ifs))->Tr X (.comp [i,j] elt' it' c') (.e (.ListComp elt [⟨.Tuple [.Name x px,.Name y py] n pt,it,ifs,0⟩] scope p)):=by
 intro _ i j _ _ _ _ _ _ _ _ _ _ _ _ _ _ hq hij hi hj hl hl' hkind hok hs q0 q1 q2;refine⟨λΓ G=>?_,λ_ _ _ _ _ _ h=>nomatch h⟩;have ihi:=q0.m Γ G;have ihe:=λC s H fp pn=>(q1 C s H fp pn).m Γ G;have ihc:=λC s H fp pn=>(q2 C s H fp pn).m Γ G;intro c g ρ r h;obtain⟨l,e,q⟩:=Br hq c (λρ ds z=>ihi c g ρ ds z) hkind hok hs (λρ d ρ2 hb hun=>by
  simp only[qz]at hb
  split at hb
  .rename_i a b
   cases hb
   have hu:=hun _ (xq ..)
   have hu':=hun _ (xg _ (X6.mpr rfl))
   have h1:(ρ.set i (.val a))[j]?=a4 Sl.un:=by rw[qi hij];exact hu'
   exact⟨(ρ.set i (.val a)).set j (.val b),by rw[jd,jd];rfl,λK σ H R=>Wk.set hu K σ H (Wk.set h1 K σ H R),by rw[Zr h1,Zr hu],
    λC s H fp pn=>DG.pair _ _ hij c.nd hi hj (Wy hl) (Wy hl') (O7 hl) (O7 hl') hq⟩
  .cases hb)
  (λC s H fp pn ρ r z=>ihe C s H fp pn c.comp g.comp ρ r z) (λC s H fp pn ρ=>ihc C s H fp pn c.comp g.comp ρ) h
 subst e;exact q
theorem Tr.seq:∀{X:Cx}{a':Ex}{tg a:ai},Tr X a' (.e a)->Tr X (.seq a') (.i tg a):=by
 intro _ _ _ _ q0;refine⟨λΓ G=>?_,λ_ _ _ _ _ _ _=>trivial⟩;have iha:=q0.m Γ G;intro c g ρ ds h;simp only[jju,W5]at h;split at h
 .rename_i l e;cases h;exact DI.lst (iha c g ρ _ e)
 .rename_i l e;cases h;exact DI.tup (iha c g ρ _ e)
 .rename_i l e;cases h;exact DI.lst (DO.toE (iha c g ρ _ e))
 .rename_i y e;obtain⟨z,q⟩:=jy h;cases q;exact DI.str (iha c g ρ _ e).toT z
 .cases h
theorem Tr.range:∀{X:Cx}{es':Ex}{tg:ai}{es:List ai}{p p2:aK}(hg:Gl X "range"),Tr X es' (.a es)->Tr X (.range es') (.i tg (.Call (.Name "range" p) es [] p2)):=by
 intro _ _ _ _ _ _ hg q0;refine⟨λΓ G=>?_,λ_ _ _ _ _ _ _=>trivial⟩;have iha:=q0.m Γ G;intro c g ρ ds h;simp only[jdd,W8]at h;split at h
 .rename_i x ex;have q:=iha c g ρ _ ex;cases q with|cons hs hx t =>
  cases t;split at h
  .rename_i n en;obtain⟨z,q⟩:=jy h;cases q;exact DI.range1 (en▸hx.toT) (c.bt _ (by decide)) z.1 z.2 hg hs
  .cases h
 .rename_i x y ex;have q:=iha c g ρ _ ex;cases q with|cons hs hx t =>
  cases t with|cons hs2 hy t2 =>
  cases t2;split at h
  .rename_i m n em en;obtain⟨z,q⟩:=jy h;cases q;exact DI.range2 (em▸hx.toT) (en▸hy.toT) (c.bt _ (by decide)) z.1 z.2.1 z.2.2.1 z.2.2.2 hg (by rw[hs,hs2];rfl) hs2 hs
  .cases h
 .cases h
theorem Tr.p0:∀{X:Cx},Tr X .nil (.p []):=by intro _;refine⟨λΓ G=>?_,λ_ _ _ _ _ _ _=>trivial⟩;intro c g ρ rs h;simp only[Uy]at h;cases h;trivial
theorem Tr.pC:∀{X:Cx}{y:af}{n:Nat}{p:aK}{b':Ex}{es:List ai},Tr X b' (.p es)->Tr X (.cons (.lit (.str y)) b') (.p (.Constant (.str y) n p::es)):=by
 intro _ _ _ _ _ _ q0;refine⟨λΓ G=>?_,λ_ _ _ _ _ _ _=>trivial⟩;have ihb:=q0.m Γ G;intro c g ρ rs h;simp only[Y4,K8,consW]at h;split at h
 .rename_i x xs ex exs;cases h;cases ex;refine⟨λz hz=>?_,ihb c g ρ xs exs⟩;have hz:(if _ then a4 _ else a7)=a4 z:=hz;split at hz
  .cases hz;exact DE.str
  .cases hz
 .cases h
theorem Tr.pR:∀{X:Cx}{a' b':Ex}{a:ai}{p:aK}{es:List ai},Tr X a' (.e a)->Tr X b' (.p es)->Tr X (.cons (.rpr a') b') (.p (.FormattedValue a 114 a7 p::es)):=by
 intro _ a' b' _ _ _ q0 q1;refine⟨λΓ G=>?_,λ_ _ _ _ _ _ _=>trivial⟩;have iha:=q0.m Γ G;have ihb:=q1.m Γ G;intro c g ρ rs h;rw[Y4]at h;unfold consW at h;split at h
 .rename_i x xs ex exs;cases h;obtain⟨z,w,ez,ew,hl,rfl⟩:=jea ex;refine⟨λy hy=>?_,ihb c g ρ xs exs⟩;have hy:(if (aI w).length<=10000 then a4 (aI w)else a7)=a4 y:=hy;rw[if_pos (Xf hl (by decide))]at hy;cases hy;exact DE.fmtR (ew▸(iha c g ρ z ez).toT) (Xf hl (by decide))
 .cases h
theorem Tr.pF:∀{X:Cx}{a' b':Ex}{a:ai}{p:aK}{es:List ai}(hq:X.calm=a6),Tr X a' (.e a)->Tr X b' (.p es)->Tr X (.cons a' b') (.p (.FormattedValue a (-1) a7 p::es)):=by
 intro _ _ _ _ _ _ hq q0 q1;refine⟨λΓ G=>?_,λ_ _ _ _ _ _ _=>trivial⟩;have iha:=q0.m Γ G;have ihb:=q1.m Γ G;intro c g ρ rs h;simp only[Y4,consW]at h;split at h
 .rename_i x xs ex exs;cases h;exact⟨λy hy=>DE.fmt (c.gd hq) c.un' (iha c g ρ x ex).toT hy,ihb c g ρ xs exs⟩
 .cases h
theorem Tr.fst:∀{X:Cx}{es':Ex}{a b:ai}{es:List ai}{p:aK},Tr X es' (.p (a::b::es))->Tr X (.fst es') (.e (.JoinedStr (a::b::es) p)):=by
 intro _ _ _ _ _ _ q0;refine⟨λΓ G=>?_,λ_ _ _ _ _ _ h=>nomatch h⟩;have ih:=q0.m Γ G;intro c g ρ r h;simp only[jjz,Mt]at h;split at h
 .rename_i rs ers;split at h
  .rename_i hl;cases e:Jk rs with
   |none=>rw[e]at h;cases h
   |some ys =>rw[e]at h;cases h;obtain⟨z1,z2⟩:=(ih c g ρ rs ers).all e;exact DE.joined z1 (Rp e) (by rw[z2];exact hl)
  .cases h
 .cases h
theorem Tr.isxV:∀{X:Cx}{i:Nat}{y:af}{p p1 p2 pos:aK}(hN:X.N[i]?=a4 y) (hv:Vis X.env.scope y) (hd:(y==k81)=a5) (hcd:(y==k82)=a5) (hg:Gl X "isinstance") (hg2:Gl X "ValueError") (hs:a8 [.Name y p1,.Name "ValueError" p2] X.env=(a5,az (.Name y p1) X.env)::a8 [.Name "ValueError" p2] X.env),Tr X (.isx i ["ValueError"]) (.e (.Call (.Name "isinstance" p) [.Name y p1,.Name "ValueError" p2] [] pos)):=by
 intro _ _ _ _ _ _ _ hN hv hd hcd hg hg2 hs;refine⟨λΓ G=>?_,λ_ _ _ _ _ _ h=>nomatch h⟩;intro c g ρ r h;simp only[j3g]at h;split at h
 .rename_i x e1 e2;split at h
  .rename_i hx;cases h;obtain⟨a,o,q⟩:=O2 e1;exact DE.isxV c.ea (T8.mp hx) q (c.bt _ (by decide)) (c.bt _ (by decide)) hN hv hd hcd hg hg2 hs rfl rfl
  .cases h
 .cases h
theorem Tr.isx1:∀{X:Cx}{i:Nat}{y c:af}{p p1 p2 pos:aK}(hc:c∈jt)(hcV:(c==("ValueError":af))=a5) (hN:X.N[i]?=a4 y) (hv:Vis X.env.scope y) (hd:(y==k81)=a5) (hcd:(y==k82)=a5) (hg:Gl X "isinstance") (hg2:Gl X c) (hdb:(c==k81)=a5) (hs:a8 [.Name y p1,.Name c p2] X.env=(a5,az (.Name y p1) X.env)::a8 [.Name c p2] X.env),Tr X (.isx i [c]) (.e (.Call (.Name "isinstance" p) [.Name y p1,.Name c p2] [] pos)):=by
 intro _ _ _ _ _ _ _ _ hc hcV hN hv hd hcd hg hg2 hdb hs;refine⟨λΓ G=>?_,λ_ _ _ _ _ _ h=>nomatch h⟩;intro c g ρ r h;simp only[j3g]at h;split at h
 .rename_i x e1 e2;split at h
  .rename_i hx;cases h;obtain⟨a,o,q⟩:=O2 e1;obtain⟨v,hv1⟩:=c.el e2 _ hc;simp only[T5,List.any_nil,hcV,gc,gb];exact DE.isx1 c.ea (T8.mp hx) q (c.bt _ (by decide)) hc hv1 (W.mg_of c.kin c.ns hv1) hN hv hd hcd hg hg2 hdb hs rfl rfl
  .cases h
 .cases h
theorem Tr.isxN:∀{X:Cx}{i:Nat}{y:af}{cs:List af}{es:List ai}{m:Nat}{p p1 p4 pos:aK} (hcs:NmT X cs es) (hl:cs.length<=20) (hN:X.N[i]?=a4 y) (hv:Vis X.env.scope y) (hd:(y==k81)=a5) (hcd:(y==k82)=a5) (hg:Gl X "isinstance") (hs:a8 [.Name y p1,.Tuple es m p4] X.env=(a5,az (.Name y p1) X.env)::a8 [.Tuple es m p4] X.env),Tr X (.isx i cs) (.e (.Call (.Name "isinstance" p) [.Name y p1,.Tuple es m p4] [] pos)):=by
 intro _ _ _ _ _ _ _ _ _ _ hcs hl hN hv hd hcd hg hs;refine⟨λΓ G=>?_,λ_ _ _ _ _ _ h=>nomatch h⟩;intro c g ρ r h;simp only[j3g]at h;split at h
 .rename_i x e1 e2;split at h
  .rename_i hx;cases h;obtain⟨a,o,q⟩:=O2 e1;rw[j4s hcs];exact DE.isxN c.ea (T8.mp hx) q (c.bt _ (by decide)) (λz hz=>let ⟨v,hv1⟩:=c.el e2 z hz;⟨v,hv1,W.mg_of c.kin c.ns hv1⟩) hcs hl hN hv hd hcd hg hs rfl rfl
  .cases h
 .cases h
section
variable{Γ:af->List D->Rc}{G:af->Option D}{X:Cx}
theorem sound{t:Ex}{nd:Nd}(h:Tr X t nd):Cok X G->Gok X Γ->jhz Γ G X t nd:=h.m Γ G
theorem Ko{t:Ex}{nd:Nd}(h:Tr X t nd):Cok X G->Gok X Γ->∀ρ y,er Γ G t (j6 ρ)=a4 y->XM X ρ y nd:=h.x Γ G
end
inductive Px where
 |nop
inductive Dx where
 |fill (s t:Nat) (c:Ex) (f:af) (es:Ex)
 |minc (t j:Nat) (it:Ex) (f:af) (es:Ex)
 |maxc (t j:Nat) (it:Ex) (f:af) (es:Ex)
inductive So where
 |next (ρ:En)
 |ret (r:Rc)
 |brk (ρ:En)
 |cnt (ρ:En)
 |err (x:af) (ρ:En)
 |no
inductive Sx where
 |nop
 |seq (a b:Sx)
 |set (i:Nat) (e:Ex)
 |mov (i j:Nat)
 |expr (e:Ex)
 |ret (e:Ex)
 |retV (i:Nat)
 |ife (c:Ex) (a b:Sx)
 |loop (is:List Nat) (it:Ex) (body:Sx)
 |app (i:Nat) (e:Ex)
 |ext (i:Nat) (e:Ex)
 |put (i:Nat) (k e:Ex)
 |fgt (i:Nat)
 |keep (i:Nat)
 |unp (i j:Nat) (e:Ex)
 |apop (i w:Nat) (e:Ex)
 |px (p:Px)
 |dx (p:Dx)
 |lmk (x:Nat) (g:af) (es:Ex)
 |prm (g:Nat->(af->List D->Rc)->(af->Option D)->En->So)
 |raise (x:af) (e:Ex)
 |tryK (b:Sx) (i j:Nat)
 |fail
noncomputable def orE(o:So)(x:Option af)(ρ:En):So:=match o with
 |.no=>match x with
  |some y=>.err y ρ
  |none=>.no
 |o=>o
noncomputable def zr(f:D->En->So):List D->En->So
 |[],ρ=>.next ρ
 |d::ds,ρ=>match f d ρ with
  |.next ρ'=>zr f ds ρ'
  |.cnt ρ'=>zr f ds ρ'
  |.brk ρ'=>.next ρ'
  |.ret r=>.ret r
  |.err x ρ'=>.err x ρ'
  |.no=>.no
noncomputable def stOf:Option W->Option D
 |some (.v x)=>x.st
 |_=>a7
noncomputable def U9(i:Nat)(w:Option W)(ρ:En):So:=match w with
 |some (.v (.o l))=>.next (ρ.set i (.own l))
 |some (.v x)=>match x.st with
  |some d=>.next (ρ.set i (.val d))
  |none=>.no
 |_=>.no
noncomputable def retS(w:Option W):So:=match w with
 |some (.v (.o l))=>.ret (.fresh l)
 |some (.v x)=>.ret (.val x.d)
 |_=>.no
noncomputable def R8(s:Option Sv):So:=match s with
 |some (.own l)=>.ret (.fresh l)
 |some (.val d)=>.ret (.val d)
 |_=>.no
noncomputable def Ir(i j:Nat)(s:Option Sv)(ρ:En):So:=match s with
 |some (.own l)=>if i=j then .no else .next ((ρ.set j .un).set i (.own l))
 |some (.val d)=>.next (ρ.set i (.val d))
 |_=>.no
noncomputable def Fo(w:Option W)(ρ:En):So:=match w with
 |some (.v _)=>.next ρ
 |_=>.no
noncomputable def Y0(i:Nat)(s:Option Sv)(w:Option W)(ρ:En):So:=match s,w with
 |some (.own l),a4 (.v x)=>match x.st with
  |some d=>if l.length<ak then .next (ρ.set i (.own (l++[d])))else .no
  |none=>.no
 |_,_=>.no
noncomputable def Fj(i:Nat)(s:Option Sv)(w:Option W)(ρ:En):So:=match s,w with
 |some (.own l),a4 (.v (.o m))=>if jj (l.length+m.length)=a6 then .next (ρ.set i (.own (l++m)))else .no
 |_,_=>.no
noncomputable def Np(i:Nat)(s:Option Sv)(k w:Option W)(ρ:En):So:=match s,k,w with
 |some (.own l),a4 (.v y),a4 (.v x)=>match y.d,x.st with
  |.int j,a4 d=>match ixN l.length j with
   |some n=>.next (ρ.set i (.own (l.set n d)))
   |none=>.no
  |_,_=>.no
 |_,_,_=>.no
noncomputable def Nm(x:af)(w:Option W)(d:Option D)(ρ:En):So:=match w,d with
 |some (.v _),a4 _=>.err x ρ
 |_,_=>.no
noncomputable def N6(i j:Nat)(d:Option D)(ρ:En):So:=match d with
 |some (.tup [d,d'])=>if i=j then .no else .next ((ρ.set i (.val d)).set j (.val d'))
 |_=>.no
noncomputable def Ot(i:Nat)(v:Option Sv)(ρ:En):So:=match v with
 |some (.own l)=>.next (ρ.set i (.val (.lst l)))
 |some (.val _)=>.next ρ
 |_=>.no
noncomputable def Rm(i w:Nat)(s t:Option Sv)(x:Option W)(ρ:En):So:=match s,t,x with
 |some (.own l),a4 (.own m),a4 (.v y)=>match y.st with
  |some (.int z)=>match ixN m.length z with
   |some k=>match m[k]? with
    |some d=>if i≠w/\l.length<ak/\m.length<=1000000 then .next ((ρ.set w (.own (m.eraseIdx k))).set i (.own (l++[d])))else .no
    |none=>.no
   |none=>.no
  |_=>.no
 |_,_,_=>.no
noncomputable def Mz:Sx->List Nat
 |.seq a b=>Mz a++Mz b
 |.set i _=>[i]
 |.ife _ a b=>Mz a++Mz b
 |_=>[]
noncomputable def Nk(Γ:af->List D->Rc)(G:af->Option D):Sx->En->Option En
 |.nop,ρ=>a4 ρ
 |.seq a b,ρ=>match Nk Γ G a ρ with
  |some r=>Nk Γ G b r
  |none=>a7
 |.set i e,ρ=>match stOf (ev Γ G e ρ) with
  |some d=>a4 (ρ.set i (.val d))
  |none=>a7
 |.ife c a b,ρ=>match truth (ev Γ G c ρ) with
  |some a6=>Nk Γ G a ρ
  |some a5=>Nk Γ G b ρ
  |none=>a7
 |_,_=>a7
inductive Sm where
 |next (ρ:En) (k:Nat)
 |ret (d:D) (k:Nat)
 |err (x:af) (ρ:En)
 |no
noncomputable def Kw(fu:Nat)(Γ:af->List D->Rc)(G:af->Option D)(ls:List af):Px->En->Nat->Sm
 |.nop,ρ,k=>.next ρ k
noncomputable def pxS(l k:Option Sv)(r:List af->Nat->Sm):So:=match l,k with
 |some (.val (.lst l)),a4 (.val (.int k))=>match strsOf l with
  |some ls=>if 0<=k then match r ls k.toNat with
    |.ret d k'=>.ret (.mval d k')
    |.err x _=>.ret (.merr x)
    |_=>.no
   else .no
  |none=>.no
 |_,_=>.no
noncomputable def K4(Γ:af->List D->Rc)(f:af)(a:Option W)(ks:List (List Int))(ns:List Int):Option (D×List (List Int)×List Int):=match a with
 |some (.a rs)=>match zu rs with
  |some ds=>match Γ (dq f) (.dct ks (ns.map D.int)::ds) with
   |.dval d ks' ns'=>a4 (d,ks',ns')
   |_=>a7
  |none=>a7
 |_=>a7
noncomputable def j2u(f:D->List (List Int)->List Int->Option (D×List (List Int)×List Int)):List D->List (List Int)->List Int->Option (List D×List (List Int)×List Int)
 |[],ks,ns=>a4 ([],ks,ns)
 |d::l,ks,ns=>match f d ks ns with
  |none=>a7
  |some (r,ks1,ns1)=>match j2u f l ks1 ns1 with
   |none=>a7
   |some (rs,ks2,ns2)=>a4 (r::rs,ks2,ns2)
noncomputable def j4l:List D->List D->Option (List (List Int))
 |[],[]=>a4 []
 |.int n::rs,.int s::ds=>(j4l rs ds).map ([n,s] :: ·)
 |_,_=>a7
noncomputable def jlb(s:Option Sv):Bool:=match s with
 |some .un=>a6
 |_=>a5
noncomputable def lsD(t j:Nat)(w:Option W)(ρ:En):Option (List D×En):=match w with
 |some (.v (.o l))=>if l.length<=1000/\j≠0/\t≠0/\j≠t/\jlb ρ[j]?=a6/\t<ρ.length then a4 (l,ρ.set t (.val (.lst l)))else a7
 |_=>a7
noncomputable def jje(s t:Nat)(ρ:En)(ks:List (List Int))(ns:List Int)(c:Option W)(call:Option (D×List (List Int)×List Int)):Option (D×List (List Int)×List Int):=match ρ[s]? with
 |some (.val (.tup l))=>match intsOf l with
  |some k=>if t<ρ.length/\t≠0/\s≠t then(if ks.contains k=a6 then(j36 ks (ns.map D.int) k).map λd=>(d,ks,ns)else match c with
    |some (.v r)=>match r.st with
     |some (.bl a6)=>if ks.length<ak then a4 (.int 0,ks++[k],ns++[0])else a7
     |some (.bl a5)=>match call with
      |some (.tup (.int m::_),ks1,ns1)=>if ks1.contains k=a5/\ks1.length<ak then a4 (.int (1+m),ks1++[k],ns1++[1+m])else a7
      |_=>a7
     |_=>a7
    |_=>a7)else a7
  |none=>a7
 |_=>a7
noncomputable def jl4(l:List D)(r:Option (List D×List (List Int)×List Int)):Option (D×List (List Int)×List Int):=match r with
 |some (rs,ks',ns')=>match j4l rs l with
  |some ls=>(ls[argBest (ja1 ls) (ls.length-1)]?).map λk=>(.tup (k.map D.int),ks',ns')
  |none=>a7
 |none=>a7
noncomputable def jiv(r:Option (List D×List (List Int)×List Int)):Option (D×List (List Int)×List Int):=match r with
 |some (rs,ks',ns')=>match intsOf rs with
  |some ms=>if ms≠[]then a4 (.int (Yp ms),ks',ns')else a7
  |none=>a7
 |none=>a7
noncomputable def j9k(r:Option (List D×En))(f:List D->En->Option (D×List (List Int)×List Int)):Option (D×List (List Int)×List Int):=match r with
 |some (l,ρ3)=>f l ρ3
 |none=>a7
noncomputable def j2h(Γ:af->List D->Rc)(G:af->Option D):Dx->List (List Int)->List Int->En->Option (D×List (List Int)×List Int)
 |.fill s t c f es,ks,ns,ρ=>jje s t ρ ks ns (ev Γ G c ρ) (K4 Γ f (ev Γ G es (ρ.set t (.val (.bl a5)))) ks ns)
 |.minc t j it f es,ks,ns,ρ=>j9k (lsD t j (ev Γ G it ρ) ρ) λl ρ3=>jl4 l (j2u (λd ks ns=>K4 Γ f (ev Γ G es (ρ3.set j (.val d))) ks ns) l ks ns)
 |.maxc t j it f es,ks,ns,ρ=>j9k (lsD t j (ev Γ G it ρ) ρ) λl ρ3=>jiv (j2u (λd ks ns=>K4 Γ f (ev Γ G es (ρ3.set j (.val d))) ks ns) l ks ns)
noncomputable def dxS(l:Option Sv)(r:List (List Int)->List Int->Option (D×List (List Int)×List Int)):So:=match l with
 |some (.val (.dct ks ds))=>match intsOf ds with
  |some ns=>match r ks ns with
   |some (d,ks',ns')=>.ret (.dval d ks' ns')
   |none=>.no
  |none=>.no
 |_=>.no
noncomputable def jl5(b:Bool)(r:Option (D×List (List Int)×List Int)):So:=match b,r with
 |true,a4 (_,ks,ns)=>.ret (.val (.dct ks (ns.map D.int)))
 |_,_=>.no
noncomputable def run(fu:Nat)(Γ:af->List D->Rc)(G:af->Option D):Sx->En->So
 |.nop,ρ=>.next ρ
 |.seq a b,ρ=>match run fu Γ G a ρ with
  |.next ρ'=>run fu Γ G b ρ'
  |o=>o
 |.set i e,ρ=>orE (U9 i (ev Γ G e ρ) ρ) (er Γ G e ρ) ρ
 |.mov i j,ρ=>Ir i j ρ[j]? ρ
 |.expr e,ρ=>orE (Fo (ev Γ G e ρ) ρ) (er Γ G e ρ) ρ
 |.ret e,ρ=>orE (retS (ev Γ G e ρ)) (er Γ G e ρ) ρ
 |.retV i,ρ=>R8 ρ[i]?
 |.ife c a b,ρ=>match truth (ev Γ G c ρ) with
  |some a6=>run fu Γ G a ρ
  |some a5=>run fu Γ G b ρ
  |none=>.no
 |.loop is it body,ρ=>match ev Γ G it (frz it ρ) with
  |some (.i ds)=>zr (λd ρ=>match qz is d ρ with
   |some ρ2=>run fu Γ G body ρ2
   |none=>.no) ds (frz it ρ)
  |_=>.no
 |.app i e,ρ=>Y0 i ρ[i]? (ev Γ G e ρ) ρ
 |.ext i e,ρ=>Fj i ρ[i]? (ev Γ G e ρ) ρ
 |.put i k e,ρ=>Np i ρ[i]? (ev Γ G k ρ) (ev Γ G e ρ) ρ
 |.fgt i,ρ=>.next (ρ.set i .un)
 |.keep i,ρ=>Ot i ρ[i]? ρ
 |.dx p,ρ=>dxS ρ[0]? λks ns=>j2h Γ G p ks ns (ρ.set 0 (.exc rfN))
 |.lmk x g es,ρ=>jl5 (decide (x<ρ.length)&&noOwn ρ) (K4 Γ g (ev Γ G es (ρ.set x .un)) [] [])
 |.px p,ρ=>pxS ρ[0]? ρ[1]? λls k=>Kw fu Γ G ls p (.exc rfN::ρ.drop 2) k
 |.prm g,ρ=>g fu Γ G ρ
 |.unp i j e,ρ=>N6 i j (stOf (ev Γ G e ρ)) ρ
 |.apop i w e,ρ=>Rm i w ρ[i]? ρ[w]? (ev Γ G e ρ) ρ
 |.raise x e,ρ=>Nm x (ev Γ G e ρ) (G (bang x)) ρ
 |.tryK b i j,ρ=>match run fu Γ G b ρ with
  |.err x ρ'=>match G (bang x) with
   |some (.lst l)=>.next (((ρ'.set j (.exc x)).set i (.own l)).set j .un)
   |_=>.no
  |o=>o
 |.fail,_=>.no
section
variable{Γ:af->List D->Rc}{G:af->Option D}{ρ:En}{fu:Nat}
theorem j3h{a b}:run fu Γ G (.seq a b) ρ=(match run fu Γ G a ρ with
  |.next ρ'=>run fu Γ G b ρ'
  |o=>o):=(rfl)
theorem jai{i e}:run fu Γ G (.set i e) ρ=(orE (U9 i (ev Γ G e ρ) ρ) (er Γ G e ρ) ρ):=(rfl)
theorem jk4{i j}:run fu Γ G (.mov i j) ρ=(Ir i j ρ[j]? ρ):=(rfl)
theorem jhw{e}:run fu Γ G (.expr e) ρ=(orE (Fo (ev Γ G e ρ) ρ) (er Γ G e ρ) ρ):=(rfl)
theorem jaj{e}:run fu Γ G (.ret e) ρ=(orE (retS (ev Γ G e ρ)) (er Γ G e ρ) ρ):=(rfl)
theorem jht{i}:run fu Γ G (.retV i) ρ=(R8 ρ[i]?):=(rfl)
theorem jk5{c a b}:run fu Γ G (.ife c a b) ρ=(match truth (ev Γ G c ρ) with
  |some a6=>run fu Γ G a ρ
  |some a5=>run fu Γ G b ρ
  |none=>.no):=(rfl)
theorem jhu{is it body}:run fu Γ G (.loop is it body) ρ=(match ev Γ G it (frz it ρ) with
  |some (.i ds)=>zr (λd ρ=>match qz is d ρ with
   |some ρ2=>run fu Γ G body ρ2
   |none=>.no) ds (frz it ρ)
  |_=>.no):=(rfl)
theorem jk8{i e}:run fu Γ G (.app i e) ρ=(Y0 i ρ[i]? (ev Γ G e ρ) ρ):=(rfl)
theorem jk7{i e}:run fu Γ G (.ext i e) ρ=(Fj i ρ[i]? (ev Γ G e ρ) ρ):=(rfl)
theorem jk3{i k e}:run fu Γ G (.put i k e) ρ=(Np i ρ[i]? (ev Γ G k ρ) (ev Γ G e ρ) ρ):=(rfl)
theorem jk6{i}:run fu Γ G (.fgt i) ρ=(.next (ρ.set i .un)):=(rfl)
theorem jhv{i}:run fu Γ G (.keep i) ρ=(Ot i ρ[i]? ρ):=(rfl)
theorem jk2{i j e}:run fu Γ G (.unp i j e) ρ=(N6 i j (stOf (ev Γ G e ρ)) ρ):=(rfl)
theorem jhx{i w e}:run fu Γ G (.apop i w e) ρ=(Rm i w ρ[i]? ρ[w]? (ev Γ G e ρ) ρ):=(rfl)
theorem jde{x e}:run fu Γ G (.raise x e) ρ=(Nm x (ev Γ G e ρ) (G (bang x)) ρ):=(rfl)
theorem jhs{b i j}:run fu Γ G (.tryK b i j) ρ=(match run fu Γ G b ρ with
  |.err x ρ'=>match G (bang x) with
   |some (.lst l)=>.next (((ρ'.set j (.exc x)).set i (.own l)).set j .un)
   |_=>.no
  |o=>o):=(rfl)
end
inductive Ns where
 |s (st:aJ)
 |ss (sts:List aJ)
def TMs(X:Cx)(b:Sx)(ss:List aJ):Prop:=∀(Γ:af->List D->Rc)(G:af->Option D),Cok X G->Gok X Γ->∀(ρ:Rho)(r:En),Nk Γ G b (j6 ρ)=a4 r->∃ρ',j6 ρ'=r/\DMs X ρ ρ' (Mz b) ss/\Kp ρ ρ' (Mz b)
def TMt(X:Cx)(b:Sx)(full tl:List aJ):Prop:=∀(Γ:af->List D->Rc)(G:af->Option D),Cok X G->Gok X Γ->∀(ρ:Rho)(r:En),Nk Γ G b (j6 ρ)=a4 r->∃ρ',j6 ρ'=r/\DMt X ρ ρ' (Mz b) full tl
def jhl(pi:Nat)(o:Ob)(s:Sm)(P:Pm):Prop:=match s with
 |.next ρ' k=>∀ρ2,j6 ρ2=ρ'->(∃ob,ρ2[pi]?=a4 (.raw o.a ob rfN))->P.nx ρ2 k
 |.ret d k=>P.rt d k
 |.err x ρ'=>∀ρ2,j6 ρ2=ρ'->P.ex x ρ2
 |.no=>False
def MP(X:Cx)(pi:Nat)(p:Px)(sts:List aJ):Prop:=∀(fu:Nat)(Γ:af->List D->Rc)(G:af->Option D),Cok X G->Gok X Γ->∀C,X.mg "Pieces" = a4 (.ref C)->PcX X C->∀(o:Ob)(ls:List af)(ρ:Rho)(k:Nat)(P:Pm),
 (∃ob,ρ[pi]?=a4 (.raw o.a ob rfN))->jhl pi o (Kw fu Γ G ls p (j6 ρ) k) P->MSs X C o ls ρ k sts P
def MD(X:Cx)(p:Dx)(sts:List aJ):Prop:=∀(Γ:af->List D->Rc)(G:af->Option D),Cok X G->Gok X Γ->∀(ρ:Rho)(a:ae)(ks:List (List Int)) (ns:List Int) (d:D) (ks':List (List Int)) (ns':List Int),
 (∃ob,ρ[0]?=a4 (.raw a ob rfN))->owns ρ=[]->j2h Γ G p ks ns (j6 ρ)=a4 (d,ks',ns')->DDb X ρ sts a ks ns d ks' ns'
noncomputable def Rt.rc:Rt->Rc
 |.val d=>.val d
 |.fresh l=>.fresh l
def Ve(o:So)(P:Po):Prop:=match o with
 |.next ρ'=>∀ρ2,j6 ρ2=ρ'->P.nx ρ2
 |.ret r=>∀x:Rt,x.rc=r->P.rt x
 |.brk ρ'=>∀ρ2,j6 ρ2=ρ'->P.bk ρ2
 |.cnt ρ'=>∀ρ2,j6 ρ2=ρ'->P.ct ρ2
 |.err x ρ'=>∀ρ2,j6 ρ2=ρ'->P.ex x ρ2
 |.no=>False
theorem Y6{o:So}{x:Option af}{ρ:En}{P:Po}(h:Ve (orE o x ρ) P):Ve o P\/∃y,x=a4 y/\∀ρ2,j6 ρ2=ρ->P.ex y ρ2:=by
 cases o with
 |no =>
  cases x with
  |none=>exact h.elim
  |some y=>exact .inr ⟨y,rfl,h⟩
 |_=>exact .inl h
def jak(fu:Nat)(Γ:af->List D->Rc)(G:af->Option D)(X:Cx)(t:Sx):Ns->Prop
 |.s st=>∀ρ P,Ve (run fu Γ G t (j6 ρ)) P->DS X ρ st P
 |.ss sts=>∀ρ P,Ve (run fu Γ G t (j6 ρ)) P->DSs X ρ sts P
section
variable{K:k7x}{ρ:Rho}{σ:St}{H:Hp}{i j:Nat}{a:ae}{l:List D}
theorem Rep.move(R:Rep K ρ σ H)(hj:ρ[j]?=a4 (.own a l))(hij:i≠j):Rep K ((ρ.set j .un).set i (.own a l)) (σ.set i (a4 (.ref a))) H:=by
 have s1:(owns (ρ.set j .un)).Sublist (owns ρ):=jc rfl;have na:a∉owns (ρ.set j .un):=λz=>by
  obtain⟨k,l',q⟩:=Zt z;rcases getElem?_set_of q with ⟨_,z,_⟩|⟨n,q⟩
  .cases z
  .exact n (Vn R.nd hj q)
 obtain⟨nd,sub⟩:=J2 (ds:=l) (i:=i) (s1.nodup R.nd) na;have g:j4 (del H (owns ρ)) (del H (owns ((ρ.set j .un).set i (.own a l)))):=zy λb hb=>by
  rcases sub b hb with e|z
  .exact e▸Jh hj
  .exact s1.subset z
 refine⟨by simp[R.len],λk d' h=>?_,λk b ds' h=>?_,nd,λk b o x h=>?_,R.tb⟩
 .rcases getElem?_set_of h with ⟨rfl,z,_⟩|⟨n,h⟩
  .cases z
  .rcases getElem?_set_of h with ⟨rfl,z,_⟩|⟨n2,h⟩
   .cases z
   .obtain⟨u,q,e⟩:=R.val k d' h;exact⟨u,by rw[qi n];exact q,e.mono g⟩
 .rcases getElem?_set_of h with ⟨rfl,z,hl⟩|⟨n,h⟩
  .cases z;obtain⟨_,xs,hx,en⟩:=R.own j a l hj;exact⟨J1 (by rw[R.len];simpa using hl),xs,hx,en.mono g⟩
  .rcases getElem?_set_of h with ⟨rfl,z,_⟩|⟨n2,h⟩
   .cases z
   .obtain⟨q,xs,hx,en⟩:=R.own k b ds' h;exact⟨by rw[qi n];exact q,xs,hx,en.mono g⟩
 .rcases getElem?_set_of h with ⟨rfl,z,_⟩|⟨n,h⟩
  .cases z
  .rcases getElem?_set_of h with ⟨rfl,z,_⟩|⟨n2,h⟩
   .cases z
   .obtain⟨q,h⟩:=R.raw k b o x h;exact⟨by rw[qi n];exact q,h.mono g⟩
end
section
variable{X:Cx}{ρ:Rho}{e a b c:ai}{es:List ai}{st:aJ}{rest sa sb body:List aJ}{P:Po}{d:D}{ds ds':List D}{pos p p1 p2 p3:aK}{x y:af}{i j:Nat}
theorem DS.freeze(i:Nat){l:ae}(h:ρ[i]?=a4 (.own l ds))(h2:DS X (ρ.set i (.val (.lst ds))) st P):DS X ρ st P:=λσ H E R q =>h2 σ H E (R.freeze h) (q.step (.drop λb hb=>(jc rfl).subset hb))
theorem DS.mov{l:ae}(hk:ρ[j]?=a4 (.own l ds))(hij:i≠j)(h:P.nx ((ρ.set j .un).set i (.own l ds)))(hN:X.N.Nodup)(hi:X.N[i]?=a4 x)(hj:X.N[j]?=a4 y)(hx:Loc X.env.scope x)
  (hf:X.fn x=a6\/X.env.scope.names.lookup x=a4 .local) (hv:Vis X.env.scope y) (hd:(y==k81)=a5) (hcd:(y==k82)=a5):DS X ρ (.Assign [.Name x p] (.Name y p1) pos) P:=λσ H E R q=>by
 obtain⟨hs,xs,m,en⟩:=R.own j l ds hk;refine(Yu hN hi hx (v7 hj hv hd hcd) rfl hf).to ⟨_,hs,q.nx _ _ H h (R.move hk hij) (.drop λb hb=>?_)⟩;have s1:(owns (ρ.set j .un)).Sublist (owns ρ):=jc rfl;have na:l∉owns (ρ.set j .un):=λz=>by
  obtain⟨k,l',q⟩:=Zt z;rcases getElem?_set_of q with ⟨_,z,_⟩|⟨n,q⟩
  .cases z
  .exact n (Vn R.nd hk q)
 rcases(J2 (ds:=ds) (i:=i) (s1.nodup R.nd) na).2 b hb with z|z
 .exact z▸Jh hk
 .exact s1.subset z
theorem DS.setCf{ρf:Rho}{tg elt iter:ai}{ifs:List ai}{scope:b8}{spos:aK}(i:Nat)(cs:List Nat)(pr:D->Bool)(g:D->D)(hfr:∀K σ H,Rep K ρ σ H->Rep K ρf σ H)(hno:ρf=ρ\/qb ((ds.filter pr).map g)=a6)(hi:DI X ρf tg iter ds)
  (hb:∀C s H fp pn,∀d∈ds,∃ρ2,DG (cCx X scope C s H fp pn) ρf tg d ρ2/\Wk ρ2 ρf/\owns ρ2=owns ρf/\DTs (cCx X scope C s H fp pn) ρ2 ifs (pr d)/\(pr d=a6->DE (cCx X scope C s H fp pn) ρ2 elt (g d)))
  (h:∀l,P.nx (ρ.set i (.own l ((ds.filter pr).map g)))) (hN:X.N.Nodup) (hcs:∀j∈cs,ρf[j]?=a4 .un) (hsz:ds.length<=ak) (hX:X.N[i]?=a4 x) (hx:Loc X.env.scope x)
  (hf:X.fn x=a6\/X.env.scope.names.lookup x=a4 .local)
  (hsw:aP (.ListComp elt [⟨tg,iter,ifs,0⟩] scope pos) (a4 (.Name x p1)) spos.line X.env=pure a6)
  (hc:X.calm=a6) (hkind:scope.kind=.function) (hok:J5 scope X.env X.N cs=a6)
  (hs:∀x,aH iter X.env x=pure x):DS X ρ (.Assign [.Name x p1] (.ListComp elt [⟨tg,iter,ifs,0⟩] scope pos) spos) P:=λσ H E R q pins s I=>by
 have Rf:=hfr _ _ _ R;rw[exec_Assign_Name_used _ _ _ _ hsw];refine aj (fb (aj ?_));show ax _ X.A (do let _ <-comprehension (.ListComp elt [⟨tg,iter,ifs,0⟩] scope pos) scope X.env _ (newList []) a5 (az iter X.env) (a4 (cI (.Name x p1) X.env))) _ _ s;refine aj (aZ (i4 (use:=a4 (cI (.Name x p1) X.env)) (Q:=λ_ s'=>SP X pins E .next s') rfl hs (Bt (M3 hok)) hkind (Wq hok)
  (thn (hi σ H (λJ H'=>j4 H H'/\Uz X.K (del H' (owns ρf)) J ds) Rf (λJ H' g1 ok=>⟨g1,ok⟩) pins s I) λv s1 h1=>thn h1 λitv s2 h2=>?_)) (λ_ s' hq=>aC (aC hq)) λ_ _ e=>e)
 obtain⟨it,fp,tn,J,H2,e,I2,T,st2,f2,g2,ok⟩:=h2;subst e;refine Dz (RR:=λacc C=>compPost (ay X.prog X.w) X.A X.xe (a4 (cI (.Name x p1) X.env)) (λ_ s'=>SP X pins E .next s') acc C) I2 (Rf.grow g2) T st2 f2 ok hc hkind hok hcs hsz hb ?_;intro D C xs H' s' m I' gg n m' en hm L;show ax _ X.A (cI (.Name x p1) X.env (.ref D)) _ _ _;refine jV (W4 I' hN hX hx (v:=.ref D) rfl (λs'' I'' ⟨a,sb,ha⟩=>?_) hf);have hCa:C≠a:=by
  rcases ha with e|e
  .rw[e];exact L.loc
  .exact bF (L.cell x a e)
 have en':j5 X.K (del H' (D::owns ρ)) ((ds.filter pr).map g) xs:=by
  rcases hno with e|e
  .rw[e]at en;exact en
  .exact(en.mono q8).hide (λc hc=>by
    rcases xn.mp hc with z|z
    .rw[z];exact .inl ⟨xs,m'⟩
    .exact .inl ((R.grow (g2.trans gg)).owned c z)) e
 refine⟨m,hm.sameBut sb hCa,λh' sb'=>⟨σ.set i (a4 (.ref D)),H',I''.loose L sb',?_⟩⟩;exact q.nx _ _ H' (h D) (R.set_own (g2.trans gg) (g2.free n) m' en') (Fr0.new R (g2.trans gg) (g2.free n))
end
section
variable{fu:Nat}{Γ:af->List D->Rc}{G:af->Option D}{X:Cx}{P:Po}
theorem bind1{i:Nat}{y:af}{p:aK}(nd:X.N.Nodup)(hi:X.N[i]?=a4 y)(hx:Loc X.env.scope y)(hf:X.fn y=a6\/X.env.scope.names.lookup y=a4 .local) :
  ∀ρ d ρ2,qz [i] d (j6 ρ)=a4 ρ2->∃ρ',j6 ρ'=ρ2/\DG X ρ (.Name y p) d ρ':=λρ d ρ2 h=>by
 simp only[qz]at h;cases h;exact⟨_,jd,DG.name _ nd hi hx hf⟩
theorem jjn{i j:Nat}{x y:af}{n:Nat}{p q pt:aK}(hc:X.calm=a6)(hij:i≠j)(nd:X.N.Nodup)(hi:X.N[i]?=a4 x)(hj:X.N[j]?=a4 y)(hx:Loc X.env.scope x)(hy:Loc X.env.scope y)
  (hf:X.fn x=a6\/X.env.scope.names.lookup x=a4 .local) (hg:X.fn y=a6\/X.env.scope.names.lookup y=a4 .local) :
  ∀ρ d ρ2,qz [i,j] d (j6 ρ)=a4 ρ2->∃ρ',j6 ρ'=ρ2/\DG X ρ (.Tuple [.Name x p,.Name y q] n pt) d ρ':=λρ d ρ2 h=>by
 simp only[qz]at h;split at h
 .rename_i a b;cases h;exact⟨(ρ.set i (.val a)).set j (.val b),by rw[jd,jd];rfl,DG.pair _ _ hij nd hi hj hx hy hf hg hc⟩
 .cases h
theorem DS.setX{e:ai}{x y:af}{i:Nat}{p pos:aK}{ρ:Rho}(he:DX X ρ e y)(h:P.ex y ρ)(hN:X.N.Nodup)(hi:X.N[i]?=a4 x)(hx:Loc X.env.scope x)(hs:aP e (a4 (.Name x p)) pos.line X.env=pure a5)(hf:X.fn x=a6\/X.env.scope.names.lookup x=a4 .local) :
  DS X ρ (.Assign [.Name x p] e pos) P:=λσ H E R q=>(Yu hN hi hx peS hs hf).to (he σ H _ R (q.ex y ρ σ H h R (Fr0.refl _ _)))
theorem DS.exprX{e:ai}{y:af}{pos:aK}{ρ:Rho}(he:DX X ρ e y)(h:P.ex y ρ)(hs:aP e a7 pos.line X.env=pure a5):DS X ρ (.Expr e pos) P:=λσ H E R q =>(Zd peS hs).to (he σ H _ R (q.ex y ρ σ H h R (Fr0.refl _ _)))
theorem DS.retX{e:ai}{y:af}{pos:aK}{ρ:Rho}(he:DX X ρ e y)(h:P.ex y ρ):DS X ρ (.Return (a4 e) pos) P:=λσ H E R q =>(W9 peS).to (he σ H _ R (q.ex y ρ σ H h R (Fr0.refl _ _)))
theorem Oo{is:List Nat}{it':Ex}{b:Sx}{it tg:ai}{body:List aJ}{pos:aK}{ρ:Rho}(hq:X.calm=a6)(c:Cok X G)(hs:∀x,aH it X.env x=pure x)
  (hb:∀ρ d ρ2,qz is d (j6 ρ)=a4 ρ2->∃ρ',j6 ρ'=ρ2/\DG X ρ tg d ρ') (hi:∀ρ ds,ev Γ G it' (j6 ρ)=a4 (.i ds)->DI X ρ tg it ds)
  (ih:∀ρ P,Ve (run fu Γ G b (j6 ρ)) P->DSs X ρ body P) (h:Ve (run fu Γ G (.loop is it' b) (j6 ρ)) P):DS X ρ (.For tg it body [] pos) P:=by
 have main:∀ρf:Rho,j6 ρf=frz it' (j6 ρ)->DS X ρf (.For tg it body [] pos) P:=λρf ef=>by
  rw[jhu]at h;rw[<-ef]at h;split at h
  .rename_i ds hds;generalize hf:(λd ρ=>_:D->En->So)=f at h;refine DS.for (ds:=ds) (λi ρ'=>Ve (zr f (ds.drop i) (j6 ρ')) P) (hi ρf ds hds) (by rw[cg];exact h) (λi d ρ' hd w=>?_) (λρ' w=>?_) hq c.po hs
   .have hdr:ds.drop i=d::ds.drop (i+1):=by obtain⟨hlt,e⟩:=Xb.mp hd;rw[d6 hlt,e]
    rw[hdr,zr]at w;have ef2:f d (j6 ρ')=match qz is d (j6 ρ')with|some ρ2=>run fu Γ G b ρ2|none=>.no:=by rw[<-hf]<;>rfl
    rw[ef2]at w;cases hb2:qz is d (j6 ρ') with
    |none=>rw[hb2]at w;exact w.elim
    |some ρ2 =>
     rw[hb2]at w;obtain⟨ρ3,e3,dg⟩:=hb ρ' d ρ2 hb2;refine⟨ρ3,dg,ih ρ3 _ ?_⟩;rw[e3];dsimp only at w;cases ho:run fu Γ G b ρ2 with
     |next ρ4=>rw[ho]at w;exact λρ5 e=>by rw[<-e]at w;exact w
     |cnt ρ4=>rw[ho]at w;exact λρ5 e=>by rw[<-e]at w;exact w
     |brk ρ4=>rw[ho]at w;exact w
     |ret r=>rw[ho]at w;exact w
     |err x ρ4=>rw[ho]at w;exact w
     |no=>rw[ho]at w;exact w
   .rw[iP,zr]at w;exact w ρ' rfl
  .exact h.elim
 by_cases z:Jc it' (j6 ρ)=a6
 .unfold Jc at z;split at z
  .rename_i i ei;split at z
   .rename_i l e;obtain⟨a,q⟩:=J6 e;refine DS.freeze i q (main _ ?_);rw[jd];simp only[frz,ei,e,Sl.abs]
   .cases z
  .cases z
 .have z':Jc it' (j6 ρ)=a5:=by simpa using z
  refine main ρ ?_;unfold frz;split
  .rename_i i ei;split
   .rename_i l e;simp only[Jc,ei,e]at z';cases z'
   .rfl
  .rfl
theorem j2f{is:List Nat}{elt' it' c':Ex}{elt it tg:ai}{ifs:List ai}{scope:b8}{p p1 pos:aK}{k:Nat}{z:af}{ρ:Rho}(hq:X.calm=a6)(hX:Cok X G)
  (hk:X.N[k]?=a4 z) (hx:Loc X.env.scope z) (hf:X.fn z=a6\/X.env.scope.names.lookup z=a4 .local)
  (hsw:aP (.ListComp elt [⟨tg,it,ifs,0⟩] scope p) (a4 (.Name z p1)) pos.line X.env=pure a6)
  (hit:∀ρ ds,ev Γ G it' (j6 ρ)=a4 (.i ds)->DI X ρ tg it ds) (hkind:scope.kind=.function) (hok:J5 scope X.env X.N is=a6) (hs:∀x,aH it X.env x=pure x)
  (hb:∀ρ d ρ2,qz is d (j6 ρ)=a4 ρ2->(∀j∈is,ρ[j]?=a4 .un)->∃ρ',j6 ρ'=ρ2/\Wk ρ' ρ/\owns ρ'=owns ρ/\∀C s H fp pn,DG (cCx X scope C s H fp pn) ρ tg d ρ')
  (he:∀C s H fp pn ρ r,ev Γ G elt' (j6 ρ)=a4 (.v r)->Has (cCx X scope C s H fp pn) ρ elt r)
  (hc:∀C s H fp pn ρ,(ev Γ G c' (j6 ρ)=a4 (.a [])->DTs (cCx X scope C s H fp pn) ρ ifs a6)/\∀y k,ev Γ G c' (j6 ρ)=a4 (.a [y])->y.d=.bl k->DTs (cCx X scope C s H fp pn) ρ ifs k)
  (h:Ve (run fu Γ G (.set k (.comp is elt' it' c')) (j6 ρ)) P):DS X ρ (.Assign [.Name z p1] (.ListComp elt [⟨tg,it,ifs,0⟩] scope p) pos) P:=by
 rw[jai]at h;unfold U9 at h;have h:=(Y6 h).resolve_right λ⟨y,ey,_⟩=>by simp only[er]at ey;cases ey
 cases e:ev Γ G (.comp is elt' it' c') (j6 ρ) with
 |none=>rw[e]at h;exact h.elim
 |some w =>
  rw[e]at h;cases w with
  |a _=>exact h.elim
  |i _=>exact h.elim
  |v r =>
   obtain⟨l,ρf,ds,pr,g,er,el,hfz,hi,hun,hz,hb'⟩:=Rz hit hb he hc e;subst er;refine DS.setCf (ρf:=ρf) k is pr g ?_ ?_ hi hb' (λa=>?_) hX.nd hun hz hk hx hf hsw hq hkind hok hs
   .rcases hfz with e|⟨_,i,a,l',q,e⟩
    .subst e;exact λ_ _ _ R=>R
    .subst e;exact λ_ _ _ R=>R.freeze q
   .rcases hfz with e|⟨n,_⟩
    .exact .inl e
    .exact .inr (el▸n)
   .rw[<-el];exact h _ jd
theorem jb2{w:Option W}{d:D}(h:stOf w=a4 d):∃z,w=a4 (.v z)/\z.st=a4 d:=by
 unfold stOf at h;split at h
 .exact⟨_,rfl,h⟩
 .cases h
end
structure Ts(X:Cx)(t:Sx)(nd:Ns):Prop where
 m:∀(fu:Nat)(Γ:af->List D->Rc)(G:af->Option D),Cok X G->Gok X Γ->jak fu Γ G X t nd
theorem Ts.nil:∀{X:Cx},Ts X .nop (.ss []):=by intro _;refine⟨λfu Γ G=>?_⟩;intro c g ρ P h;exact DSs.nil (h ρ rfl)
theorem Ts.cons:∀{X:Cx}{a b:Sx}{st:aJ}{rest:List aJ},Ts X a (.s st)->Ts X b (.ss rest)->Ts X (.seq a b) (.ss (st::rest)):=by
 intro _ _ _ _ _ q0 q1;refine⟨λfu Γ G=>?_⟩;have iha:=q0.m fu Γ G;have ihb:=q1.m fu Γ G;intro c g ρ P h;rw[j3h]at h;split at h
 .rename_i ρ' e;exact DSs.cons (N:=λρ1=>j6 ρ1=ρ') (iha c g ρ _ (by rw[e];exact λρ2 z=>z)) λρ1 z=>ihb c g ρ1 P (by rw[z];exact h)
 .rename_i o hn;refine DSs.cons (N:=λ_=>False) (iha c g ρ _ ?_) λ_ z=>z.elim;cases e:run fu Γ G _ (j6 ρ) with
  |next ρ'=>exact absurd e (hn ρ')
  |ret r=>rw[e]at h;exact h
  |err x r=>rw[e]at h;exact h
  |brk r=>rw[e]at h;exact h
  |cnt r=>rw[e]at h;exact h
  |no=>rw[e]at h;exact h
theorem Ts.fgt:∀{X:Cx}{i:Nat}{b:Sx}{sts:List aJ},Ts X b (.ss sts)->Ts X (.seq (.fgt i) b) (.ss sts):=by intro _ _ _ _ q0;refine⟨λfu Γ G=>?_⟩;have ih:=q0.m fu Γ G;intro c g ρ P h;simp only[j3h,jk6]at h;exact DSs.forget _ (ih c g _ P (by rw[jd];exact h))
theorem Ts.prm:∀{X:Cx}{g:Nat->(af->List D->Rc)->(af->Option D)->En->So} {b:Sx} {rest full:List aJ} (hg:∀(fu:Nat)(Γ:af->List D->Rc)(G:af->Option D),Cok X G->Gok X Γ->∀(ρ:Rho)(P:Po)(N:Rho->Prop),Ve (g fu Γ G (j6 ρ)) { P with nx:=N }->(∀ρ',N ρ'->DSs X ρ' rest P)->DSs X ρ full P),Ts X b (.ss rest)->Ts X (.seq (.prm g) b) (.ss full):=by
 intro _ g0 b rest full hg q0;refine⟨λfu Γ G=>?_⟩;have ih:=q0.m fu Γ G;intro c g ρ P ht;have er:run fu Γ G (.seq (.prm g0) b) (j6 ρ)=(match g0 fu Γ G (j6 ρ) with
  |.next ρ'=>run fu Γ G b ρ'
  |o=>o):=(rfl)
 rw[er]at ht;cases z:g0 fu Γ G (j6 ρ) with
 |next ρ'=>rw[z]at ht;exact hg fu Γ G c g ρ P (λρ1=>j6 ρ1=ρ') (by rw[z];exact λρ2 y=>y) λρ1 y=>ih c g ρ1 P (by rw[y];exact ht)
 |no=>rw[z]at ht;exact ht.elim
 |ret r=>rw[z]at ht;exact hg fu Γ G c g ρ P (λ_=>False) (by rw[z];exact ht) λ_ y=>y.elim
 |brk r=>rw[z]at ht;exact hg fu Γ G c g ρ P (λ_=>False) (by rw[z];exact ht) λ_ y=>y.elim
 |cnt r=>rw[z]at ht;exact hg fu Γ G c g ρ P (λ_=>False) (by rw[z];exact ht) λ_ y=>y.elim
 |err x r=>rw[z]at ht;exact hg fu Γ G c g ρ P (λ_=>False) (by rw[z];exact ht) λ_ y=>y.elim
theorem Ts.keep:∀{X:Cx}{i:Nat}{b:Sx}{sts:List aJ},Ts X b (.ss sts)->Ts X (.seq (.keep i) b) (.ss sts):=by
 intro _ i _ _ q0;refine⟨λfu Γ G=>?_⟩;have ih:=q0.m fu Γ G;intro c g ρ P h;simp only[j3h,jhv,Ot]at h;cases e:(j6 ρ)[i]? with
 |none=>rw[e]at h;exact h.elim
 |some v =>
  rw[e]at h;cases v with
  |own l =>obtain⟨a,q⟩:=J6 e;exact DSs.freeze _ q (ih c g _ P (by rw[jd];exact h))
  |un=>exact h.elim
  |val d=>exact ih c g ρ P h
  |exc x=>exact h.elim
theorem Ts.set:∀{X:Cx}{i:Nat}{x:af}{e':Ex}{e:ai}{p pos:aK}(hi:X.N[i]?=a4 x) (hx:Loc X.env.scope x) (hs:aP e (a4 (.Name x p)) pos.line X.env=pure a5) (hf:X.fn x=a6\/X.env.scope.names.lookup x=a4 .local),Tr X e' (.e e)->Ts X (.set i e') (.s (.Assign [.Name x p] e pos)):=by
 intro _ _ _ _ _ _ _ hi hx hs hf he;refine⟨λfu Γ G=>?_⟩;intro c g ρ P h;have S:=sound he c g;rw[jai]at h;unfold U9 at h;rcases Y6 h with h|⟨y,ey,hP⟩
 rotate_left
 .exact DS.setX (Ko he c g ρ y ey) (hP ρ rfl) c.nd hi hx hs hf
 split at h
 .rename_i l e;exact DS.setO _ (S ρ _ e) (λa=>h _ jd) c.nd hi hx hs hf
 .rename_i r hn e;split at h
  .rename_i d hd;exact DS.set _ ((S ρ _ e).toE hd) (h _ jd) c.nd hi hx hs hf
  .exact h.elim
 .exact h.elim
theorem Ts.setC1:∀{X:Cx}{k i:Nat}{z y:af}{py p p1 pos:aK}{elt' it' c':Ex}{elt it:ai}{ifs:List ai} {scope:b8} (hq:X.calm=a6) (hk:X.N[k]?=a4 z) (hx:Loc X.env.scope z) (hf:X.fn z=a6\/X.env.scope.names.lookup z=a4 .local) (hsw:aP (.ListComp elt [⟨.Name y py,it,ifs,0⟩] scope p) (a4 (.Name z p1)) pos.line X.env=pure a6) (hi:X.N[i]?=a4 y) (hl:V6 scope y=a6) (hkind:scope.kind=.function) (hok:J5 scope X.env X.N [i]=a6) (hs:∀x,aH it X.env x=pure x),Tr X it' (.i (.Name y py) it)->(∀C s H fp pn,Tr (cCx X scope C s H fp pn) elt' (.e elt))->(∀C s H fp pn,Tr (cCx X scope C s H fp pn) c' (.c ifs))->Ts X (.set k (.comp [i] elt' it' c')) (.s (.Assign [.Name z p1] (.ListComp elt [⟨.Name y py,it,ifs,0⟩] scope p) pos)):=by
 intro _ _ _ _ _ _ _ _ _ _ _ _ _ _ _ _ hq hk hx hf hsw hi hl hkind hok hs hit he hc;refine⟨λfu Γ G=>?_⟩;intro c g ρ P h;exact j2f hq c hk hx hf hsw (λρ ds z=>sound hit c g ρ ds z) hkind hok hs (λρ d ρ2 hb hun=>by
  simp only[qz]at hb
  cases hb
  have hu:=hun _ (X6.mpr rfl)
  exact⟨_,jd,Wk.set hu,Zr hu,λC s H fp pn=>DG.name _ c.nd hi (Wy hl) (O7 hl)⟩)
  (λC s H fp pn ρ r z=>sound (he C s H fp pn) c.comp g.comp ρ r z) (λC s H fp pn ρ=>sound (hc C s H fp pn) c.comp g.comp ρ) h
theorem Ts.mov:∀{X:Cx}{i j:Nat}{x y:af}{p q pos:aK}(hi:X.N[i]?=a4 x) (hj:X.N[j]?=a4 y) (hx:Loc X.env.scope x) (hf:X.fn x=a6\/X.env.scope.names.lookup x=a4 .local) (hv:Vis X.env.scope y) (hd:(y==k81)=a5) (hcd:(y==k82)=a5),Ts X (.mov i j) (.s (.Assign [.Name x p] (.Name y q) pos)):=by
 intro _ _ _ _ _ _ _ _ hi hj hx hf hv hd hcd;refine⟨λfu Γ G=>?_⟩;intro c g ρ P h;rw[jk4]at h;unfold Ir at h;split at h
 .rename_i l e;obtain⟨a,q⟩:=J6 e;split at h
  .exact h.elim
  .rename_i hij;exact DS.mov q hij (h _ (by rw[jd,jd];rfl)) c.nd hi hj hx hf hv hd hcd
 .rename_i d e;exact DS.set _ (DE.var _ (O1 e) hj hv hd hcd) (h _ jd) c.nd hi hx rfl hf
 .exact h.elim
theorem Ts.expr:∀{X:Cx}{e':Ex}{e:ai}{pos:aK}(hs:aP e a7 pos.line X.env=pure a5),Tr X e' (.e e)->Ts X (.expr e') (.s (.Expr e pos)):=by
 intro _ _ _ _ hs he;refine⟨λfu Γ G=>?_⟩;intro c g ρ P h;rw[jhw]at h;unfold Fo at h;rcases Y6 h with h|⟨y,ey,hP⟩
 rotate_left
 .exact DS.exprX (Ko he c g ρ y ey) (hP ρ rfl) hs
 split at h
 .rename_i r e;exact DS.expr (sound he c g ρ r e).toT (h ρ rfl) hs
 .exact h.elim
theorem Ts.ret:∀{X:Cx}{e':Ex}{e:ai}{pos:aK},Tr X e' (.e e)->Ts X (.ret e') (.s (.Return (a4 e) pos)):=by
 intro _ _ _ _ he;refine⟨λfu Γ G=>?_⟩;intro c g ρ P h;rw[jaj]at h;unfold retS at h;rcases Y6 h with h|⟨y,ey,hP⟩
 rotate_left
 .exact DS.retX (Ko he c g ρ y ey) (hP ρ rfl)
 split at h
 .rename_i l e;exact DS.retO (sound he c g ρ _ e) (h _ rfl)
 .rename_i r hn e;exact DS.ret (sound he c g ρ _ e).toT (h _ rfl)
 .exact h.elim
theorem Ts.retV:∀{X:Cx}{i:Nat}{x:af}{p pos:aK}(hi:X.N[i]?=a4 x) (hv:Vis X.env.scope x) (hd:(x==k81)=a5) (hcd:(x==k82)=a5),Ts X (.retV i) (.s (.Return (a4 (.Name x p)) pos)):=by
 intro _ _ _ _ _ hi hv hd hcd;refine⟨λfu Γ G=>?_⟩;intro c g ρ P h;rw[jht]at h;unfold R8 at h;split at h
 .rename_i l e;obtain⟨a,q⟩:=J6 e;exact DS.retV _ q (h _ rfl) hi hv hd hcd
 .rename_i d e;exact DS.ret (DE.toT (DE.var _ (O1 e) hi hv hd hcd)) (h _ rfl)
 .exact h.elim
theorem Ts.ife:∀{X:Cx}{c':Ex}{a b:Sx}{c:ai}{sa sb:List aJ}{pos:aK},Tr X c' (.b c)->Ts X a (.ss sa)->Ts X b (.ss sb)->Ts X (.ife c' a b) (.s (.If c sa sb pos)):=by
 intro _ _ _ _ _ _ _ _ hc q1 q2;refine⟨λfu Γ G=>?_⟩;have iha:=q1.m fu Γ G;have ihb:=q2.m fu Γ G;intro c g ρ P h;rw[jk5]at h;split at h
 .rename_i e;exact DS.if (sound hc c g ρ a6 e) (λ_=>iha c g ρ P h) λz=>by cases z
 .rename_i e;exact DS.if (sound hc c g ρ a5 e) (λz=>by cases z) λ_=>ihb c g ρ P h
 .exact h.elim
theorem Ts.for1:∀{X:Cx}{i:Nat}{y:af}{it':Ex}{b:Sx}{it:ai}{body:List aJ} {p pos:aK} (hq:X.calm=a6) (hi:X.N[i]?=a4 y) (hx:Loc X.env.scope y) (hf:X.fn y=a6\/X.env.scope.names.lookup y=a4 .local) (hs:∀x,aH it X.env x=pure x),Tr X it' (.i (.Name y p) it)->Ts X b (.ss body)->Ts X (.loop [i] it' b) (.s (.For (.Name y p) it body [] pos)):=by intro _ _ _ _ _ _ _ _ _ hq hi hx hf hs hit q1;refine⟨λfu Γ G=>?_⟩;have ih:=q1.m fu Γ G;intro c g ρ P h;exact Oo hq c hs (bind1 c.nd hi hx hf) (λρ ds z=>sound hit c g ρ ds z) (ih c g) h
theorem Ts.for2:∀{X:Cx}{i j:Nat}{x y:af}{it':Ex}{b:Sx}{it:ai}{body:List aJ} {n:Nat} {p q pt pos:aK} (hq:X.calm=a6) (hij:i≠j) (hi:X.N[i]?=a4 x) (hj:X.N[j]?=a4 y) (hx:Loc X.env.scope x) (hy:Loc X.env.scope y) (hf:X.fn x=a6\/X.env.scope.names.lookup x=a4 .local) (hg:X.fn y=a6\/X.env.scope.names.lookup y=a4 .local) (hs:∀x,aH it X.env x=pure x),Tr X it' (.i (.Tuple [.Name x p,.Name y q] n pt) it)->Ts X b (.ss body)->Ts X (.loop [i,j] it' b) (.s (.For (.Tuple [.Name x p,.Name y q] n pt) it body [] pos)):=by intro _ _ _ _ _ _ _ _ _ _ _ _ _ _ hq hij hi hj hx hy hf hg hs hit q1;refine⟨λfu Γ G=>?_⟩;have ih:=q1.m fu Γ G;intro c g ρ P h;exact Oo hq c hs (jjn hq hij c.nd hi hj hx hy hf hg) (λρ ds z=>sound hit c g ρ ds z) (ih c g) h
theorem Ts.app:∀{X:Cx}{i:Nat}{x:af}{e':Ex}{e:ai}{p p1 p2 pos:aK}(hN:X.N[i]?=a4 x) (hv:Vis X.env.scope x) (hd:(x==k81)=a5) (hcd:(x==k82)=a5) (hst:a8 [e] X.env=[(a5,az e X.env)]) (hline:(p1.endLine==p2.line)=a6) (hbase:aM (.Name x p) "append" X.env (az (.Name x p) X.env)=az (.Name x p) X.env) (hfew:((aO p2 (a8 [e] X.env)).all (λx=>!x.1)&&(bo p2 (aT [] X.env)).all (λx=>x.1.isSome)&&decide (([e]:List ai).length+([]:List aR).length+(if ([]:List aR).isEmpty then 0 else 1)<30))=a6),Tr X e' (.e e)->Ts X (.app i e') (.s (.Expr (.Call (.Attribute (.Name x p) "append" p1) [e] [] p2) pos)):=by
 intro _ _ _ _ _ _ _ _ _ hN hv hd hcd hst hline hbase hfew he;refine⟨λfu Γ G=>?_⟩;intro c g ρ P h;rw[jk8]at h;unfold Y0 at h;split at h
 .rename_i l x el ex;obtain⟨a,q⟩:=J6 el;split at h
  .rename_i d hd';split at h
   .rename_i hz;exact DS.append _ q ((sound he c g ρ x ex).toE hd') hz (h _ jd) hN hv hd hcd hst hline hbase hfew rfl
   .exact h.elim
  .exact h.elim
 .exact h.elim
theorem Ts.ext:∀{X:Cx}{i:Nat}{x:af}{e':Ex}{e:ai}{p p1 p2 pos:aK}(hN:X.N[i]?=a4 x) (hv:Vis X.env.scope x) (hd:(x==k81)=a5) (hcd:(x==k82)=a5) (hst:a8 [e] X.env=[(a5,az e X.env)]) (hline:(p1.endLine==p2.line)=a6) (hbase:aM (.Name x p) "extend" X.env (az (.Name x p) X.env)=az (.Name x p) X.env) (hfew:((aO p2 (a8 [e] X.env)).all (λx=>!x.1)&&(bo p2 (aT [] X.env)).all (λx=>x.1.isSome)&&decide (([e]:List ai).length+([]:List aR).length+(if ([]:List aR).isEmpty then 0 else 1)<30))=a6),Tr X e' (.e e)->Ts X (.ext i e') (.s (.Expr (.Call (.Attribute (.Name x p) "extend" p1) [e] [] p2) pos)):=by
 intro _ _ _ _ _ _ _ _ _ hN hv hd hcd hst hline hbase hfew he;refine⟨λfu Γ G=>?_⟩;intro c g ρ P h;rw[jk7]at h;unfold Fj at h;split at h
 .rename_i l m el ex;obtain⟨a,q⟩:=J6 el;split at h
  .rename_i hz;exact DS.extend _ q (sound he c g ρ _ ex) (za hz) (h _ jd) hN hv hd hcd hst hline hbase hfew rfl
  .exact h.elim
 .exact h.elim
theorem Ts.put:∀{X:Cx}{i:Nat}{x:af}{k' e':Ex}{k e:ai}{p p1 pos:aK}(hN:X.N[i]?=a4 x) (hv:Vis X.env.scope x) (hd:(x==k81)=a5) (hcd:(x==k82)=a5) (ha:∀v,cI (.Subscript (.Name x p) k p1) X.env v=(do
    let ov <-c8 [v] (az (.Name x p) X.env)
    let iv <-c8 [v,ov] (az k X.env)
    fK p1
    c8 [v,ov,iv] (setItem ov iv v)
    release [v,ov,iv] [])) (hs:dC [.Subscript (.Name x p) k p1] e pos.line X.env=pure a5) (hw:dD [.Subscript (.Name x p) k p1] e X.env=pure a7),Tr X k' (.e k)->Tr X e' (.e e)->Ts X (.put i k' e') (.s (.Assign [.Subscript (.Name x p) k p1] e pos)):=by
 intro _ _ _ _ _ _ _ _ _ _ hN hv hd hcd ha hs hw hk he;refine⟨λfu Γ G=>?_⟩;intro c g ρ P h;rw[jk3]at h;unfold Np at h;split at h
 .rename_i l y x el ey ex;obtain⟨a,q⟩:=J6 el;split at h
  .rename_i j d ej ed;split at h
   .rename_i n en;exact DS.setItem _ q ((sound he c g ρ x ex).toE ed) (ej▸(sound hk c g ρ y ey).toT) en (h _ jd) hN hv hd hcd ha hs hw rfl
   .exact h.elim
  .exact h.elim
 .exact h.elim
theorem Ts.unp:∀{X:Cx}{i j:Nat}{x y:af}{e':Ex}{e:ai}{px py pt pos:aK}{n:Nat} (hq:X.calm=a6) (hi:X.N[i]?=a4 x) (hj:X.N[j]?=a4 y) (hx:Loc X.env.scope x) (hy:Loc X.env.scope y) (fx:X.fn x=a6\/X.env.scope.names.lookup x=a4 .local) (fy:X.fn y=a6\/X.env.scope.names.lookup y=a4 .local) (hs:dC [.Tuple [.Name x px,.Name y py] n pt] e pos.line X.env=pure a5) (hw:dD [.Tuple [.Name x px,.Name y py] n pt] e X.env=pure a7),Tr X e' (.e e)->Ts X (.unp i j e') (.s (.Assign [.Tuple [.Name x px,.Name y py] n pt] e pos)):=by
 intro _ _ _ _ _ _ _ _ _ _ _ _ hq hi hj hx hy fx fy hs hw he;refine⟨λfu Γ G=>?_⟩;intro c g ρ P h;rw[jk2]at h;unfold N6 at h;split at h
 .rename_i d d' ed;split at h
  .exact h.elim
  .rename_i hij;obtain⟨z,ez,ed⟩:=jb2 ed;exact DS.unp hij ((sound he c g ρ z ez).toE ed) (h _ (by rw[jd,jd];rfl)) hq c.nd hi hj hx hy fx fy hs hw
 .exact h.elim
theorem Ts.apop:∀{X:Cx}{i w:Nat}{x u:af}{e':Ex}{e:ai}{p1 p2 p3 p4 p5 p6 pos:aK}(hN:X.N[i]?=a4 x) (hv:Vis X.env.scope x) (hd:(x==k81)=a5) (hcd:(x==k82)=a5) (hN2:X.N[w]?=a4 u) (hv2:Vis X.env.scope u) (hd2:(u==k81)=a5) (hcd2:(u==k82)=a5) (hst:a8 [e] X.env=[(a5,az e X.env)]) (hst1:a8 [.Call (.Attribute (.Name u p4) "pop" p5) [e] [] p6] X.env=[(a5,az (.Call (.Attribute (.Name u p4) "pop" p5) [e] [] p6) X.env)]) (hline:(p2.endLine==p3.line)=a6) (hline2:(p5.endLine==p6.line)=a6) (hbase:aM (.Name x p1) "append" X.env (az (.Name x p1) X.env)=az (.Name x p1) X.env) (hbase2:aM (.Name u p4) "pop" X.env (az (.Name u p4) X.env)=az (.Name u p4) X.env) (hfew:((aO p3 (a8 [.Call (.Attribute (.Name u p4) "pop" p5) [e] [] p6] X.env)).all (λx=>!x.1)&&(bo p3 (aT [] X.env)).all (λx=>x.1.isSome)&&decide (([.Call (.Attribute (.Name u p4) "pop" p5) [e] [] p6]:List ai).length+([]:List aR).length+(if ([]:List aR).isEmpty then 0 else 1)<30))=a6) (hfew2:((aO p6 (a8 [e] X.env)).all (λx=>!x.1)&&(bo p6 (aT [] X.env)).all (λx=>x.1.isSome)&&decide (([e]:List ai).length+([]:List aR).length+(if ([]:List aR).isEmpty then 0 else 1)<30))=a6) (hs:aP (.Call (.Attribute (.Name x p1) "append" p2) [.Call (.Attribute (.Name u p4) "pop" p5) [e] [] p6] [] p3) a7 pos.line X.env=pure a5),Tr X e' (.e e)->Ts X (.apop i w e') (.s (.Expr (.Call (.Attribute (.Name x p1) "append" p2) [.Call (.Attribute (.Name u p4) "pop" p5) [e] [] p6] [] p3) pos)):=by
 intro _ _ _ _ _ _ _ _ _ _ _ _ _ _ hN hv hd hcd hN2 hv2 hd2 hcd2 hst hst1 hline hline2 hbase hbase2 hfew hfew2 hs he;refine⟨λfu Γ G=>?_⟩;intro c g ρ P h;rw[jhx]at h;unfold Rm at h;split at h
 .rename_i l m y el em ey;obtain⟨a,q⟩:=J6 el;obtain⟨b,q2⟩:=J6 em;split at h
  .rename_i z ez;split at h
   .rename_i k ek;split at h
    .rename_i d ed;split at h
     .rename_i hc;exact DS.apop q q2 hc.1 ((sound he c g ρ y ey).toE ez) ek ed hc.2.1 hc.2.2 (h _ (by rw[jd,jd];rfl)) hN hv hd hcd hN2 hv2 hd2 hcd2 hst hst1 hline hline2 hbase hbase2 hfew hfew2 hs
     .exact h.elim
    .exact h.elim
   .exact h.elim
  .exact h.elim
 .exact h.elim
theorem Ts.raise:∀{X:Cx}{x:af}{e':Ex}{e:ai}{np cpos pos:aK}(hq:X.calm=a6)(hg:Gl X x) (hdb:(x==k81)=a5) (hs:a8 [e] X.env=[(a5,az e X.env)]),Tr X e' (.e e)->Ts X (.raise x e') (.s (.Raise (a4 (.Call (.Name x np) [e] [] cpos)) a7 pos)):=by
 intro _ _ _ _ _ _ _ hq hg hdb hs he;refine⟨λfu Γ G=>?_⟩;intro c g ρ P h;rw[jde]at h;unfold Nm at h;split at h
 .rename_i r d er eg;obtain⟨hx,o,ho⟩:=c.ec _ _ eg;exact DS.raiseE c.ea hx ho (W.mg_of c.kin c.ns ho) c.kin hq (λσ H R=>(sound he c g ρ r er).toT σ H _ R λv H' g' _=>g') (h ρ rfl) hg hdb hs
 .exact h.elim
theorem Ts.tryK:∀{X:Cx}{b:Sx}{i j:Nat}{n k:af}{body:List aJ}{p p1 p2 p3 p4 p5 pos hpos:aK}(hq:X.calm=a6) (hst:X.stack=X.env::X.outer) (hfm:X.env.frame=a4 X.env.locals) (hgA:Gl X "AskError") (hg:Gl X "_law_kinds") (hN:X.N[j]?=a4 n) (hlo:X.env.scope.names.lookup n=a4 .local) (hd:(n==k81)=a5) (hcd:(n==k82)=a5) (hi:X.N[i]?=a4 k) (hxk:Loc X.env.scope k) (hfk:X.fn k=a6\/X.env.scope.names.lookup k=a4 .local) (hfn:X.fn n=a6\/X.env.scope.names.lookup n=a4 .local) (hs:aP (.Call (.Name "_law_kinds" p) [.Name n p1] [] p2) (a4 (.Name k p3)) p4.line X.env=pure a5) (he:a8 [.Name n p1] X.env=(a5,az (.Name n p1) X.env)::a8 [] X.env) (hpl:(aO p2 (a8 [] X.env)).any (·.1)=a5),(∀pn xe,Ts { X with pn:=pn,xe:=xe } b (.ss body))->Ts X (.tryK b i j) (.s (.Try body [.ExceptHandler (a4 (.Name "AskError" p5)) (a4 n) [.Assign [.Name k p3] (.Call (.Name "_law_kinds" p) [.Name n p1] [] p2) p4] hpos] [] [] pos)):=by
 intro _ _ _ _ _ _ _ _ _ _ _ _ _ _ _ hq hst hfm hgA hg hN hlo hd hcd hi hxk hfk hfn hs he hpl q0;refine⟨λfu Γ G=>?_⟩;have ih:=λpn xe=>(q0 pn xe).m fu Γ G;intro c g ρ P h;refine DS.tryK (λpn xe hpo=>?_) c.ea hst hfm (c.dp hq) (c.un hq) c.nd hgA hg (by decide) hN hlo hd hcd hi hxk hfk hfn hs he hpl;refine ih pn xe ⟨c.un',c.un,c.dp,c.bt,c.gl,c.nd,hpo,c.ea,c.ec,c.el,c.kin,c.ns,c.kd,c.fn,λd e=>⟨(c.pl d e).ex⟩,λd e=>let ⟨C,h1,h2⟩:=c.pc d e;⟨C,h1,⟨h2.ex⟩⟩,c.gd,c.fr,c.lm⟩ ?_ ρ _ ?_
 .intro f ds;have q:=g f ds;cases e:Γ f ds with
  |val d=>rw[e]at q;exact⟨q.ex⟩
  |fresh l=>rw[e]at q;exact⟨q.ex⟩
  |err x=>rw[e]at q;exact⟨q.ex⟩
  |lval d=>rw[e]at q;exact q
  |mval d k=>rw[e]at q;exact λg ls k ds' h1 h2 C h3=>⟨(q g ls k ds' h1 h2 C h3).ex⟩
  |merr x=>rw[e]at q;exact λg ls k ds' h1 h2 C h3=>⟨(q g ls k ds' h1 h2 C h3).ex⟩
  |dval d ks ns=>rw[e]at q;exact λg ks ns ds' h1 h2=>⟨(q g ks ns ds' h1 h2).ex⟩
  |hnd sp=>rw[e]at q;exact λg h1=>⟨(q g h1).ex⟩
  |no=>trivial
 .rw[jhs]at h;split at h
  .rename_i x ρ' e;rw[e];split at h
   .rename_i l eg;obtain⟨hx,o,ho⟩:=c.ec _ _ eg;intro ρ2 e2;exact⟨hx,⟨o,ho⟩,l,c.kd x l eg,λe' oe a=>h _ (by rw[jd,jd,jd,e2];rfl)⟩
   .exact h.elim
  .rename_i o hn;cases e:run fu Γ G _ (j6 ρ) with
   |err x ρ'=>exact absurd e (hn x ρ')
   |next ρ'=>rw[e]at h;exact h
   |ret r=>rw[e]at h;exact h
   |brk r=>rw[e]at h;exact h
   |cnt r=>rw[e]at h;exact h
   |no=>rw[e]at h;exact h
section
theorem Vl{fu:Nat}{Γ:af->List D->Rc}{G:af->Option D}{X:Cx}{t:Sx}{nd:Ns}(h:Ts X t nd):Cok X G->Gok X Γ->jak fu Γ G X t nd:=h.m fu Γ G
end
section
variable{X:Cx}{nx nw nt g y:af}{c:ai}{es:List ai}{c' es' it':Ex}{s t j:Nat}{st:aJ}{scope:b8}
def SetT(X:Cx)(t:Nat)(it':Ex)(st:aJ):Prop:=∀(Γ:af->List D->Rc)(G:af->Option D),Cok X G->Gok X Γ->∀(ρ:Rho)(l:List D)(P:Po),ev Γ G it' (j6 ρ)=a4 (.v (.o l))->(∀b,P.nx (ρ.set t (.own b l)))->DS X ρ st P
end
structure Fi where
 n:Nat
 nn:Nat
 body:Sx
 lam:Bool
noncomputable def jfv:Rc->Rc
 |.val d=>.lval d
 |_=>.no
noncomputable def fin:So->Rc
 |.ret r=>r
 |.next _=>.val .non
 |.err x _=>.err x
 |_=>.no
noncomputable def enter(F:Fi)(ds:List D):En:=ds.map Sv.val++ao (F.nn-F.n) Sv.un
noncomputable def evP(fu:Nat)(G:af->Option D)(T:af->Option Fi):Nat->af->List D->Rc
 |0,_,_=>.no
 |n+1,f,ds=>match T f with
  |none=>.no
  |some F=>if ds.length=F.n then(if F.lam=a6 then jfv (fin (run fu (evP fu G T n) G F.body (enter F ds)))else fin (run fu (evP fu G T n) G F.body (enter F ds)))else .no
structure Lk(P:ar)(w:aA)(K:k7x)(mg:k80)(base:aE)(x:af)(F:Fi):Prop where
 ex:∃(st:aJ)(f:ae)(fd:aG)(N ps:List af),Fun K x x st f fd/\FnScope N ps (j0 st)/\ps.length=F.n/\N.length=F.nn/\Binds K fd ps []/\Dfl K x fd ps/\mg x=a4 (.ref f) /\
  ∀(cdv:aa)(A:aD)(outer:List cu)(s:ah)(H:Hp)(E:XK)(xe:k7y),Ts ((jx CX0 P w K mg base N x (j0 st) f cdv A outer s H E).wish xe) F.body (.ss (jb st))
structure LkL(P:ar)(w:aA)(K:k7x)(mg:k80)(base:aE)(x:af)(F:Fi):Prop where
 ex:∃(tx:Tx)(N ps:List af)(e:Ex),j2y K x=a4 tx/\LamScope N ps tx.2.2/\N.length=F.n/\F.nn=F.n/\F.body=.ret e /\
  (∀(cl:List (af×ae)) (pm:aa) (c:ae) (ctv:aa) (us:List aa),us.length=ps.length->bZ (W.kla_fn "<lambda>" (zc x) tx.1 tx.2.1 tx.2.2 cl pm (.ref c) ctv) ⟨us,[]⟩=pure (ps.zip us)) /\
  ∀(a c:ae)(cl:List (af×ae)) (A:aD) (outer:List cu) (s:ah) (H:Hp),Tr (Yj P w K mg base N (zc x) tx.2.2 a (.ref c) cl A outer s H) e (.e tx.2.1)
def j3i(P:ar)(w:aA)(K:k7x)(mg:k80)(base:aE)(C:ae):Prop:=∃(fA fT fL fI:ae)(dA dT dL dI:aG),PcT K mg C fA fT fL fI/\(FnOk P w K mg base CX0 1 fA dA ["self"] (j16 C)/\Binds K dA ["self"] []) /\
  (FnOk P w K mg base CX0 2 fT dT ["self"] (j14 C)/\Binds K dT ["self"] [])/\(FnOk P w K mg base CX0 1 fL dL ["self"] (j9p C)/\Binds K dL ["self"] [])/\(FnOk P w K mg base CX0 1 fI dI ["self","text"] (j15 C)/\Binds K dI ["self","text"] [])
structure LkP(P:ar)(w:aA)(K:k7x)(mg:k80)(base:aE)(x:af)(F:Fi):Prop where
 ex:∃(g:af)(p:Px)(st:aJ)(f:ae)(fd:aG)(N ps:List af),x=mq g/\F.body=.px p/\Fun K g g st f fd/\FnScope N ps (j0 st)/\ps.length+1=F.n/\N.length+1=F.nn/\0<ps.length/\ps.length<=N.length/\Binds K fd ps []/\mg g=a4 (.ref f)/\(∃C,mg "Pieces" = a4 (.ref C)/\j3i P w K mg base C) /\
  ∀(cdv:aa)(A:aD)(outer:List cu)(s:ah)(H:Hp)(E:XK)(xe:k7y),MP ((jx CX0 P w K mg base N g (j0 st) f cdv A outer s H E).wish xe) 0 p (jb st)
structure LkD(P:ar)(w:aA)(K:k7x)(mg:k80)(base:aE)(x:af)(F:Fi):Prop where
 ex:∃(g:af)(p:Dx)(st:aJ)(f:ae)(fd:aG)(N ps:List af),x=dq g/\F.body=.dx p/\Fun K g g st f fd/\FnScope N ps (j0 st)/\ps.length=F.n/\N.length=F.nn/\0<ps.length/\ps.length<=N.length/\Binds K fd ps []/\mg g=a4 (.ref f) /\
  ∀(cdv:aa)(A:aD)(outer:List cu)(s:ah)(H:Hp)(E:XK)(xe:k7y),MD ((jx CX0 P w K mg base N g (j0 st) f cdv A outer s H E).wish xe) p (jb st)
def j6c(P:ar)(w:aA)(K:k7x)(mg:k80)(base:aE):Prop:=∃(f:ae)(fd:aG)(ps:List af),FnOk P w K mg base CX0 11 f fd ps (jdw K j9s)/\mg "_law_plan" = a4 (.ref f)/\W.keepIn K (.ref f)=a6/\Binds K fd ps []/\Dfl K "_law_plan" fd ps
structure Tb(P:ar)(w:aA)(K:k7x)(mg:k80)(base:aE)(G:af->Option D):Prop where
 bt:∀x∈Z5,mg x=a7
 gl:∀x d,V2 x=a5->G x=a4 d->∃u v,mg x=a4 u/\RelV v u/\∀H,Enc K H d v
 ea:Jv K=a6
 ec:∀x d,G (bang x)=a4 d->x∈jt/\∃o,W.nsIn K aq x=a4 (a4 o)
 el:G "?" = a4 (.bl a6)->∀c∈jt,∃v,W.nsIn K aq c=a4 (a4 v)
 kin:K.In base
 ns:base.Ns aq mg
 kd:∀x l,G (bang x)=a4 (.lst l)->KindsP P w K mg base "_law_kinds" x l
 fn:∀f d,G (qm f)=a4 d->∃fa,mg f=a4 (.ref fa)/\W.keepIn K (.ref fa)=a6
 pl:∀d,G (qm "_law_plan")=a4 d->j6c P w K mg base
 pc:∀d,G (qm "Pieces")=a4 d->∃C,mg "Pieces" = a4 (.ref C)/\j3i P w K mg base C
 lm:∀x∈Zg,∀f cdv,mg x=a4 (.ref f)->V5 K f cdv->∃c Pt,cdv=.ref c/\W.codeHdIn K c Pt=a6/\W.tabIn K x=a4 (c,Pt)
def jiq:Rc->Prop
 |.hnd _=>True
 |.no=>True
 |_=>False
structure LkG(P:ar)(w:aA)(K:k7x)(mg:k80)(base:aE)(x:af)(F:Fi):Prop where
 ex:∃(g:af)(f:ae)(fd:aG)(ps:List af),x=gq g/\mg g=a4 (.ref f)/\W.keepIn K (.ref f)=a6/\Binds K fd ps []/\(∀fu Γ G ds,jiq (fin (run fu Γ G F.body (enter F ds)))) /\
  ∀(fu:Nat)(Γ:af->List D->Rc)(G:af->Option D)(n:Nat),12<=n->Tb P w K mg base G->(∀{X:Cx},X.prog=P->X.w=w->X.K=K->X.mg=mg->X.base=base->Room n X.A->Gok X Γ) ->
   ∀(ds:List D)(sp:k7x->(af->Option aa)->Sp),ds.length=F.n->fin (run fu Γ G F.body (enter F ds))=.hnd sp->FnOk P w K mg base CX0 (n+1) f fd ps (sp K mg)
def LkF(P:ar)(w:aA)(K:k7x)(mg:k80)(base:aE)(f:af)(F:Fi):Prop:=(F.lam=a5->(Lk P w K mg base f F/\f.cps.toList.getLast?≠a4 62/\f.cps.toList.head?≠a4 64/\f.cps.toList.head?≠a4 35/\f.cps.toList.head?≠a4 38)\/LkP P w K mg base f F\/LkD P w K mg base f F\/LkG P w K mg base f F)/\(F.lam=a6->∃x,f=zc x/\LkL P w K mg base x F)
structure LkH(P:ar)(w:aA)(K:k7x)(mg:k80)(base:aE)(x:af)(F:Fi):Prop where
 ex:∃(st:aJ)(f:ae)(fd:aG)(N:List af)(p:af),Fun K x x st f fd/\FnScope N [p] (j0 st)/\1<=N.length/\N.length=F.nn/\Binds K fd [p] []/\mg x=a4 (.ref f) /\
  ∀(cdv:aa)(A:aD)(outer:List cu)(s:ah)(H:Hp),Ts { (jx CX0 P w K mg base N x (j0 st) f cdv A outer s H E0).nox with calm:=a5 } F.body (.ss (jb st))
section
variable{P:ar}{w:aA}{K:k7x}{mg:k80}{base:aE}{fu:Nat}{G:af->Option D}{T:af->Option Fi}
theorem Vd{N:List af}{ds:List D}{F:Fi}(h1:ds.length=F.n)(h2:N.length=F.nn):j6 (jm N ds)=enter F ds:=by unfold j6 jm enter;rw[Xp,Xg,cR,h1,h2];rfl
theorem Wt(y:af):(bang y).cps.toList.head?=a4 33:=by unfold bang;show(("!":af).cps++y.cps).toList.head?=a4 33;rw[T3];rfl
theorem j1f(y:af):(mq y).cps.toList.head?=a4 64:=by unfold mq;show(("@":af).cps++y.cps).toList.head?=a4 64;rw[T3];rfl
theorem jfe{x y:af}(h:mq x=mq y):x=y:=by unfold mq at h;have h:(⟨("@":af).cps++x.cps⟩:af)=⟨("@":af).cps++y.cps⟩:=h;have h:=congrArg fS h;have e:x.cps=y.cps:=Tg h rfl;cases x;cases y;cases e;rfl
theorem jcm(y:af):(gq y).cps.toList.head?=a4 38:=by unfold gq;show(("&":af).cps++y.cps).toList.head?=a4 38;rw[T3];rfl
theorem jgc{x y:af}(h:gq x=gq y):x=y:=by unfold gq at h;have h:(⟨("&":af).cps++x.cps⟩:af)=⟨("&":af).cps++y.cps⟩:=h;have h:=congrArg fS h;have e:x.cps=y.cps:=Tg h rfl;cases x;cases y;cases e;rfl
theorem jcw(y:af):(dq y).cps.toList.head?=a4 35:=by unfold dq;show(("#":af).cps++y.cps).toList.head?=a4 35;rw[T3];rfl
theorem jh2{x y:af}(h:dq x=dq y):x=y:=by unfold dq at h;have h:(⟨("#":af).cps++x.cps⟩:af)=⟨("#":af).cps++y.cps⟩:=h;have h:=congrArg fS h;have e:x.cps=y.cps:=Tg h rfl;cases x;cases y;cases e;rfl
theorem j13:∀ls:List af,strsOf (ls.map D.str)=a4 ls
 |[]=>rfl
 |_::l=>by rw[X3,strsOf,j13 l];rfl
theorem j0w{N:List af}{a:ae}{ds:List D}{F:Fi}{ls:List D}{k:Int}(h1:ds.length+2=F.n)(h2:N.length+1=F.nn):j6 (startM N a ds)=.exc rfN::(enter F (.lst ls::.int k::ds)).drop 2:=by
 have e:N.length-(ds.length+1)=F.nn-F.n:=by omega
 unfold startM;rw[jd];unfold j6 jm enter;rw[Xp,Xg,cR];simp only[X3,cz,Th,List.drop_succ_cons,cg,X4,e];rfl
theorem j0x{N:List af}{a:ae}{ds:List D}{F:Fi}{d:D}(h1:ds.length+1=F.n)(h2:N.length=F.nn):j6 (startM N a ds)=(enter F (d::ds)).set 0 (.exc rfN):=by
 have e:N.length-(ds.length+1)=F.nn-F.n:=by omega
 unfold startM;rw[jd];unfold j6 jm enter;rw[Xp,Xg,cR];simp only[X3,cz,Th,X4,e];rfl
theorem j24 (y:af):bang y ≠ "?":=λh=>by have:=Wt y;rw[h]at this;exact absurd this (by decide)
theorem j1b(y:af):(qm y).cps.toList.head?=a4 63:=by unfold qm;show(("??":af).cps++y.cps).toList.head?=a4 63;rw[T3];rfl
theorem Ls (y:af):qm y ≠ "?":=λh=>by
 have e:((qm y).cps.toList.drop 1).head?=a4 63:=by unfold qm;show((("??":af).cps++y.cps).toList.drop 1).head?=a4 63;rw[T3];rfl
 rw[h]at e;exact absurd e (by decide)
theorem jel{x y:af}(h:qm x=qm y):x=y:=by unfold qm at h;have h:(⟨("??":af).cps++x.cps⟩:af)=⟨("??":af).cps++y.cps⟩:=h;have h:=congrArg fS h;have e:x.cps=y.cps:=Tg h rfl;cases x;cases y;cases e;rfl
theorem j23(x y:af):bang x≠qm y:=λh=>by have:=Wt x;rw[h,j1b]at this;exact absurd this (by decide)
theorem U6{x y z:af}(h:x++z=y++z):x=y:=by have h:(⟨x.cps++z.cps⟩:af)=⟨y.cps++z.cps⟩:=h;have h:=congrArg fS h;have e:x.cps=y.cps:=Array.append_inj_left' h rfl;cases x;cases y;cases e;rfl
theorem j7q{x y:af}(h:zc x=zc y):x=y:=U6 (U6 h)
theorem Dp(x:af):(zc x).cps.toList.getLast?=a4 62:=by unfold zc;show(((x ++ ".<locals>.").cps)++("<lambda>":af).cps).toList.getLast?=a4 62;rw[T3,List.getLast?_append];rfl
theorem j2x(x:af):zc x∉Zg:=λh=>by
 have e:=Dp x
 revert e
 unfold Zg at h;rcases xn.mp h with h|h
 .rw[h];decide
 rcases xn.mp h with h|h
 .rw[h];decide
 rcases xn.mp h with h|h
 .rw[h];decide
 .rw[X6.mp h];decide
theorem j0k (z:af) (hz:z∈Zg) (hq:("_law_kinds":af) ++ ".<locals>." = z ++ ".<locals>."):False:=by have e:=U6 hq;subst e;exact absurd hz (by decide)
noncomputable def G0(x:af):Option D:=if x = "?" then a4 (.bl a6)else a7
theorem j0j {F:Fi} (L:LkH P w K mg base "_law_kinds" F) (bt:∀x∈Z5,mg x=a7) (ea:Jv K=a6) (el:∀c∈jt,∃v,W.nsIn K aq c=a4 (a4 v)) (kin:K.In base) (ns:base.Ns aq mg) {x:af} {l:List D} (hnl:qb l=a6)
  (hr:run fu (λ_ _=>.no) G0 F.body (.exc x::ao (F.nn-1) .un)=.ret (.fresh l)):KindsP P w K mg base "_law_kinds" x l:=by
 obtain⟨st,f,fd,N,p,hfun,hsc,h1,hN,hb,hm,hts⟩:=L.ex;refine kinds_of hfun hsc hb hm h1 hnl λcdv A outer s H e o hdp hun=>?_;have nob:∀y,G0 (bang y)=a7:=λy=>if_neg (j24 y);have c:Cok { (jx CX0 P w K mg base N "_law_kinds" (j0 st) f cdv A outer s H E0).nox with calm:=a5 } G0:=by
  refine⟨?_,(λz=>by cases z),(λz=>by cases z),bt,λy d hb q=>?_,hsc.nd,Pq,ea,λy d q=>?_,λ_=>el,kin,ns,λy l' q=>?_,λf d q=>?_,λd q=>?_,λd q=>?_,(λz=>by cases z),⟨_,_,_,rfl,rfl,rfl⟩,λz hz hq=>(j0k z hz hq).elim⟩
  .show A.units+3+100<aU;omega
  .unfold G0 at q;split at q
   .rename_i z;subst z;cases hb
   .cases q
  .rw[nob]at q;cases q
  .rw[nob]at q;cases q
  .rw[show G0 (qm f)=a7 from if_neg (Ls f)]at q;cases q
  .rw[show G0 (qm "_law_plan")=a7 from if_neg (Ls _)]at q;cases q
  .rw[show G0 (qm "Pieces")=a7 from if_neg (Ls _)]at q;cases q
 refine Vl (fu:=fu) (Γ:=λ_ _=>.no) (G:=G0) (hts cdv A outer s H) c (λ_ _=>trivial) _ _ ?_;have ab:j6 (.raw e o x::ao (N.length-1) .un)=.exc x::ao (F.nn-1) .un:=by unfold j6;rw[X3,cR,hN];rfl
 rw[ab,hr];intro y hy;cases y with
 |val d=>cases hy
 |fresh l=>cases hy;rfl
theorem jed{fu:Nat}{Γ:af->List D->Rc}{G:af->Option D}{e:Ex}{ρ:En}{d:D}(h:fin (run fu Γ G (.ret e) ρ)=.val d):∃r,ev Γ G e ρ=a4 (.v r)/\r.d=d:=by
 rw[jaj]at h;cases z:ev Γ G e ρ with
 |none=>rw[z]at h;cases y:er Γ G e ρ<;>(rw[y]at h;cases h)
 |some w =>
  cases w with
  |v r =>
   rw[z]at h;cases r with
   |o l=>cases h
   |e d=>cases h;exact⟨_,rfl,rfl⟩
   |w l=>cases h;exact⟨_,rfl,rfl⟩
   |t d=>cases h;exact⟨_,rfl,rfl⟩
  |a l=>rw[z]at h;cases y:er Γ G e ρ<;>(rw[y]at h;cases h)
  |i l=>rw[z]at h;cases y:er Γ G e ρ<;>(rw[y]at h;cases h)
theorem j2l{C:ae}(h:j3i P w K mg base C){X:Cx}{n:Nat}(h1:X.prog=P)(h2:X.w=w)(h3:X.K=K)(h4:X.mg=mg)(h5:X.base=base)(hn:12<=n)(hr:Room n X.A):PcX X C:=by subst h1 h2 h3 h4 h5;obtain⟨fA,fT,fL,fI,dA,dT,dL,dI,a,b,c,d,e⟩:=h;exact⟨fA,fT,fL,fI,dA,dT,dL,dI,a,b,c,d,e,hr.mono nofun⟩
theorem Q4 (t:Tb P w K mg base G) {X:Cx} {n:Nat} (h1:X.prog=P) (h2:X.w=w) (h3:X.K=K) (h4:X.mg=mg) (h5:X.base=base) (hn:12<=n) (hr:Room n X.A) (nd:X.N.Nodup) (po:dP (ay X.prog X.w) X.A X.env X.xe) (hlm:∀x∈Zg,X.env.qual=x ++ ".<locals>."->∃c P,X.env.code=.ref c/\W.codeHdIn K c P=a6/\W.tabIn K x=a4 (c,P)) (hfr:∃(env0:cu)(out0:List cu)(L:ae),X.stack=env0::out0/\env0.frame=a4 L/\X.env.frame=a4 L:=by exact⟨_,_,_,rfl,rfl,rfl⟩):Cok X G:=by subst h1 h2 h3 h4 h5;exact⟨by have:=hr.un;omega,(λ_=>by have:=hr.un;omega),(λ_=>by have:=hr.dp;omega),t.bt,t.gl,nd,po,t.ea,t.ec,t.el,t.kin,t.ns,t.kd,t.fn,λd e=>let ⟨f,fd,ps,F,h1,h2,h3,h4⟩:=t.pl d e;⟨11,f,fd,ps,F,hr.mono hn,h1,h2,h3,h4⟩,λd e=>let ⟨C,h1,h2⟩:=t.pc d e;⟨C,h1,j2l h2 rfl rfl rfl rfl rfl hn hr⟩,(λ_=>hr.gd),hfr,hlm⟩
theorem Zv (t:Tb P w K mg base G) {g:af} {f:ae} {cdv:aa} {env:cu} (hm:mg g=a4 (.ref f)) (hcv:V5 K f cdv) (hq:env.qual=g ++ ".<locals>.") (hc:env.code=cdv):∀x∈Zg,env.qual=x ++ ".<locals>."->∃c P,env.code=.ref c/\W.codeHdIn K c P=a6/\W.tabIn K x=a4 (c,P):=λx hx e=>by have eg:=U6 (hq.symm.trans e);subst eg;rw[hc];exact t.lm _ hx f cdv hm hcv
noncomputable def lv:Nat->Nat
 |0=>12
 |n+1=>lv n+2
theorem Ju:∀n,12<=lv n+1
 |0=>by decide
 |n+1=>by have:=Ju n;unfold lv;omega
theorem Rx:∀ns:List Int,intsOf (ns.map D.int)=a4 ns
 |[]=>rfl
 |n::ns=>by rw[X3,intsOf,Rx ns];rfl
theorem Oi(hT:∀x F,T x=a4 F->LkF P w K mg base x F)(t:Tb P w K mg base G):∀(n:Nat)(x:af)(ds:List D),
  ∃(f:ae)(fd:aG)(ps:List af),match evP fu G T n x ds with
   |.val d=>FnOk P w K mg base CX0 (lv n) f fd ps (spP K λds' d'=>ds'=ds/\d'=d)/\mg x=a4 (.ref f)/\W.keepIn K (.ref f)=a6/\Binds K fd ps []/\Dfl K x fd ps
   |.fresh l=>FnOk P w K mg base CX0 (lv n) f fd ps (spF K λds' l'=>ds'=ds/\l'=l)/\mg x=a4 (.ref f)/\W.keepIn K (.ref f)=a6/\Binds K fd ps []/\Dfl K x fd ps
   |.err y=>FnOk P w K mg base (CX1 P w) (lv n) f fd ps (spX K mg λds' z=>ds'=ds/\z=y)/\mg x=a4 (.ref f)/\W.keepIn K (.ref f)=a6/\Binds K fd ps []
   |.lval d=>∀y,x=zc y->j3j P w K mg base (lv n) y λds' d'=>ds'=ds/\d'=d
   |.mval d k'=>∀g ls (k:Nat) ds',x=mq g->ds=.lst (ls.map D.str)::.int (k:Int)::ds'->∀C,mg "Pieces" = a4 (.ref C)->FnOk P w K mg base CX0 (lv n) f fd ps (spM K C λls2 k2 ds2 d2 k2'=>ls2=ls/\k2=k/\ds2=ds'/\d2=d/\k2'=k')/\mg g=a4 (.ref f)/\W.keepIn K (.ref f)=a6/\Binds K fd ps []
   |.merr y=>∀g ls (k:Nat) ds',x=mq g->ds=.lst (ls.map D.str)::.int (k:Int)::ds'->∀C,mg "Pieces" = a4 (.ref C)->FnOk P w K mg base (CX1 P w) (lv n) f fd ps (j6t K mg C λls2 k2 ds2 x2=>ls2=ls/\k2=k/\ds2=ds'/\x2=y)/\mg g=a4 (.ref f)/\W.keepIn K (.ref f)=a6/\Binds K fd ps []
   |.dval d ks' ns'=>∀g ks ns ds',x=dq g->ds=.dct ks (ns.map D.int)::ds'->FnOk P w K mg base CX0 (lv n) f fd ps (spD K λks2 ns2 ds2 d2 ks2' ns2'=>ks2=ks/\ns2=ns/\ds2=ds'/\d2=d/\ks2'=ks'/\ns2'=ns')/\mg g=a4 (.ref f)/\W.keepIn K (.ref f)=a6/\Binds K fd ps []
   |.hnd sp=>∀g,x=gq g->FnOk P w K mg base CX0 (lv n) f fd ps (sp K mg)/\mg g=a4 (.ref f)/\W.keepIn K (.ref f)=a6/\Binds K fd ps []
   |.no=>True
 |0,x,ds=>⟨0,W.fnOf x x { posonlyargs:=[],args:=[],vararg:=a7,kwonlyargs:=[],kw_defaults:=[],kwarg:=a7,defaults:=[] } [] { kind:=.function,names:=[],isGenerator:=a5,isCoroutine:=a5 } .none .none .none .none a7 .none .none,[],trivial⟩
 |n+1,x,ds=>by
  have ih:=Oi hT t n;cases hF:T x with
  |none =>
   obtain⟨f,fd,ps,_⟩:=ih x ds;refine⟨f,fd,ps,?_⟩;have e:evP fu G T (n+1) x ds=.no:=by simp only[evP,hF]
   rw[e];trivial
  |some F =>
   have gok:∀{X:Cx},X.prog=P->X.w=w->X.K=K->X.mg=mg->X.base=base->Room (lv n+1) X.A->Gok X (evP fu G T n):=λ{X} h1 h2 h3 h4 h5 hr g ds'=>by
    subst h1 h2 h3 h4 h5;obtain⟨f',fd',ps',q⟩:=ih g ds';cases z:evP fu G T n g ds' with
    |val d=>rw[z]at q;exact⟨lv n,f',fd',ps',q.1,hr,q.2.1,q.2.2.1,q.2.2.2⟩
    |fresh l=>rw[z]at q;exact⟨lv n,f',fd',ps',q.1,hr,q.2.1,q.2.2.1,q.2.2.2⟩
    |err y=>rw[z]at q;exact⟨lv n,f',fd',ps',q.1,hr.mono (Pb _),q.2.1,q.2.2.1,q.2.2.2⟩
    |lval d=>rw[z]at q;exact λy hy=>⟨lv n,hr.mono (Pb _),q y hy⟩
    |mval d k=>rw[z]at q;exact λg' ls k ds'' h1 h2 C h3=>let ⟨a,b⟩:=q g' ls k ds'' h1 h2 C h3;⟨⟨lv n,f',fd',ps',a,hr.mono (Pb _),b⟩⟩
    |merr y=>rw[z]at q;exact λg' ls k ds'' h1 h2 C h3=>let ⟨a,b⟩:=q g' ls k ds'' h1 h2 C h3;⟨⟨lv n,f',fd',ps',a,hr.mono (Pb _),b⟩⟩
    |dval d ks ns=>rw[z]at q;exact λg' ks ns ds'' h1 h2=>let ⟨a,b⟩:=q g' ks ns ds'' h1 h2;⟨⟨lv n,f',fd',ps',a,hr,b⟩⟩
    |hnd sp=>rw[z]at q;exact λg' h1=>let ⟨a,b⟩:=q g' h1;⟨⟨lv n,f',fd',ps',a,hr,b⟩⟩
    |no=>trivial
   cases hlam:F.lam with
   |true =>
    obtain⟨f,fd,ps,_⟩:=ih x ds;refine⟨f,fd,ps,?_⟩;by_cases hl:ds.length=F.n
    .have e:evP fu G T (n+1) x ds=jfv (fin (run fu (evP fu G T n) G F.body (enter F ds))):=by simp only[evP,hF,if_pos hl,hlam,if_true]
     rw[e];obtain⟨y,ey,L⟩:=(hT x F hF).2 hlam;obtain⟨tx,N,ps,ex,htx,hsc,hN,hnn,hbd,hba,htr⟩:=L.ex;cases ho:fin (run fu (evP fu G T n) G F.body (enter F ds)) with
     |val d =>intro y' hy';have eyy:y=y':=j7q (ey.symm.trans hy');subst eyy;refine jft (k:=lv n+1) htx hsc (λds' d' h=>by rw[h.1,hl,hN]) hba λa c cl A outer s H hcl hr ds' d' ⟨e1,e2⟩=>?_;subst e1 e2;have ab:j6 (jm N ds')=enter F ds':=Vd hl (by rw[hN,hnn]);rw[hbd,<-ab]at ho;obtain⟨r,er,ed⟩:=jed ho;exact ed▸(sound (htr a c cl A outer s H) (Q4 t rfl rfl rfl rfl rfl (Ju _) hr hsc.nd Pq λz hz hq=>absurd (U6 hq▸hz) (j2x y)) (gok rfl rfl rfl rfl rfl hr) (jm N ds') r er).toT
     |fresh l=>trivial
     |err z=>trivial
     |lval z=>trivial
     |mval z k=>trivial
     |merr z=>trivial
     |dval z ks ns=>trivial
     |hnd sp=>trivial
     |no=>trivial
    .have e:evP fu G T (n+1) x ds=.no:=by simp only[evP,hF,if_neg hl]
     rw[e];trivial
   |false =>
   rcases(hT x F hF).1 hlam with ⟨L,hlast,hhead,hhead2,hhead3⟩|L|L|L
   rotate_left 3
   .obtain⟨g0,f,fd,ps,hxg,hm,hk,hb,hO,hH⟩:=L.ex;refine⟨f,fd,ps,?_⟩;by_cases hl:ds.length=F.n
    .have e:evP fu G T (n+1) x ds=fin (run fu (evP fu G T n) G F.body (enter F ds)):=by simp only[evP,hF,if_pos hl,hlam,Pr,if_false]
     have hh:=hH fu (evP fu G T n) G (lv n+1) (Ju _) t gok ds;have ho':=hO fu (evP fu G T n) G ds;rw[e];cases ho:fin (run fu (evP fu G T n) G F.body (enter F ds)) with
     |hnd sp=>exact λg hg=>⟨hh sp hl ho,jgc (hxg.symm.trans hg)▸hm,hk,hb⟩
     |val d=>rw[ho]at ho';exact ho'.elim
     |fresh l=>rw[ho]at ho';exact ho'.elim
     |err y=>rw[ho]at ho';exact ho'.elim
     |lval d=>rw[ho]at ho';exact ho'.elim
     |mval d k=>rw[ho]at ho';exact ho'.elim
     |merr y=>rw[ho]at ho';exact ho'.elim
     |dval d ks ns=>rw[ho]at ho';exact ho'.elim
     |no=>trivial
    .have e:evP fu G T (n+1) x ds=.no:=by simp only[evP,hF,if_neg hl]
     rw[e];trivial
   rotate_left 2
   .obtain⟨g0,p,st,f,fd,N,ps,hxg,hbody,hfun,hsc,hps,hN,hp0,hpN,hb,hm,hmd⟩:=L.ex;refine⟨f,fd,ps,?_⟩;by_cases hl:ds.length=F.n
    .have e:evP fu G T (n+1) x ds=fin (run fu (evP fu G T n) G F.body (enter F ds)):=by simp only[evP,hF,if_pos hl,hlam,Pr,if_false]
     rw[e,hbody,show run fu (evP fu G T n) G (.dx p) (enter F ds)=dxS (enter F ds)[0]? (λks ns=>j2h (evP fu G T n) G p ks ns ((enter F ds).set 0 (.exc rfN))) from rfl];cases ho:dxS (enter F ds)[0]? λks ns=>j2h (evP fu G T n) G p ks ns ((enter F ds).set 0 (.exc rfN)) with
     |next ρ' =>
      exfalso;unfold dxS at ho
      repeat' split at ho
      all_goals cases ho
     |brk _=>trivial
     |cnt _=>trivial
     |no=>trivial
     |err y ρ' =>
      exfalso;unfold dxS at ho
      repeat' split at ho
      all_goals cases ho
     |ret r =>
      have sh:∃d ks' ns',r=.dval d ks' ns':=by
       unfold dxS at ho
       repeat' split at ho
       all_goals (cases ho)
       exact⟨_,_,_,rfl⟩
      obtain⟨d,ks',ns',er⟩:=sh;subst er;intro g ks ns ds' h1 h2;have eg:g0=g:=jh2 (hxg.symm.trans h1);subst eg;have hl2:ds'.length+1=ps.length:=by rw[h2]at hl;simp only[X4]at hl;omega
      have z:j2h (evP fu G T n) G p ks ns ((enter F ds).set 0 (.exc rfN))=a4 (d,ks',ns'):=by
       have e0:(enter F ds)[0]?=a4 (.val (.dct ks (ns.map D.int))):=by rw[h2];rfl
       rw[e0]at ho;unfold dxS at ho;simp only[Rx]at ho;split at ho
       .rename_i d2 ks2 ns2 z;cases ho;exact z
       .cases ho
      refine⟨jlk (n:=lv n+1) hfun hsc (λks2 ns2 ds2 d2 ks2' ns2' h=>by rw[h.2.2.1,hl2]) λcdv A outer s H E hcv hr a ks2 ns2 ds2 d2 ks2' ns2' h=>?_,hm,hfun.kp,hb⟩;obtain⟨rfl,rfl,rfl,rfl,rfl,rfl⟩:=h;have ck:=Q4 t (X:=(jx CX0 P w K mg base N g0 (j0 st) f cdv A outer s H E).nox) rfl rfl rfl rfl rfl (Ju _) hr hsc.nd Pq (Zv t hm hcv rfl rfl);refine hmd cdv A outer s H E _ (evP fu G T n) G ck (gok rfl rfl rfl rfl rfl hr) _ a _ _ _ _ _ ⟨dOb,?_⟩ (Yo _ _ _) ?_
      .unfold startM;exact J1 (by unfold jm;rw[Xe,xj,X4];omega)
      .rw[j0x (F:=F) (d:=.dct ks2 (ns2.map D.int)) nofun hN,<-h2];exact z
    .have e:evP fu G T (n+1) x ds=.no:=by simp only[evP,hF,if_neg hl]
     rw[e];trivial
   rotate_left
   .obtain⟨g0,p,st,f,fd,N,ps,hxg,hbody,hfun,hsc,hps,hN,hp0,hpN,hb,hm,⟨C0,hC0,hPc⟩,hmp⟩:=L.ex;refine⟨f,fd,ps,?_⟩;by_cases hl:ds.length=F.n
    .have e:evP fu G T (n+1) x ds=fin (run fu (evP fu G T n) G F.body (enter F ds)):=by simp only[evP,hF,if_pos hl,hlam,Pr,if_false]
     rw[e,hbody,show run fu (evP fu G T n) G (.px p) (enter F ds)=pxS (enter F ds)[0]? (enter F ds)[1]? (λls k=>Kw fu (evP fu G T n) G ls p (.exc rfN::(enter F ds).drop 2) k) from rfl];cases ho:pxS (enter F ds)[0]? (enter F ds)[1]? λls k=>Kw fu (evP fu G T n) G ls p (.exc rfN::(enter F ds).drop 2) k with
     |next ρ' =>
      exfalso;unfold pxS at ho
      repeat' split at ho
      all_goals cases ho
     |brk _=>trivial
     |cnt _=>trivial
     |no=>trivial
     |err y ρ' =>
      exfalso;unfold pxS at ho
      repeat' split at ho
      all_goals cases ho
     |ret r =>
      have key:∀g ls (k:Nat) ds',x=mq g->ds=.lst (ls.map D.str)::.int (k:Int)::ds'->g0=g/\ds'.length+1=ps.length/\∀a:ae,
        (∀d k',r=.mval d k'->Kw fu (evP fu G T n) G ls p (j6 (startM N a ds')) k=.ret d k')/\(∀y,r=.merr y->∃ρ',Kw fu (evP fu G T n) G ls p (j6 (startM N a ds')) k=.err y ρ'):=λg ls k ds' h1 h2=>by
       refine⟨jfe (hxg.symm.trans h1),?_,λa=>?_⟩
       .rw[h2]at hl;simp only[X4]at hl;omega
       rw[j0w (F:=F) (ls:=ls.map D.str) (k:=(k:Int)) (by rw[h2]at hl;simp only[X4]at hl;omega) hN,<-h2];have e0:(enter F ds)[0]?=a4 (.val (.lst (ls.map D.str))):=by rw[h2];rfl
       have e1:(enter F ds)[1]?=a4 (.val (.int (k:Int))):=by rw[h2];rfl
       rw[e0,e1]at ho;unfold pxS at ho;simp only[j13,X5,iJ,if_true]at ho;split at ho
       .rename_i d k' z;cases ho;exact⟨λd2 k2 q=>(by cases q;exact z),λy q=>(by cases q)⟩
       .rename_i y ρ' z;cases ho;exact⟨λd2 k2 q=>(by cases q),λy q=>(by cases q;exact⟨_,z⟩)⟩
       .cases ho
      have sh:(∃d k',r=.mval d k')\/∃y,r=.merr y:=by
       unfold pxS at ho
       repeat' split at ho
       all_goals (cases ho)
       .exact .inl ⟨_,_,rfl⟩
       .exact .inr ⟨_,rfl⟩
      rcases sh with ⟨d,k',er⟩|⟨y,er⟩
      .subst er;intro g ls k ds' h1 h2 C hC;obtain⟨eg,hl2,kk⟩:=key g ls k ds' h1 h2;subst eg;cases hC0.symm.trans hC;refine⟨jli (n:=lv n+1) hfun hsc (λls2 k2 ds2 d2 k2' h=>by rw[h.2.2.1,hl2]) λcdv A outer s H E hcv hr o ls2 k2 ds2 d2 k2' h=>?_,hm,hfun.kp,hb⟩;obtain⟨rfl,rfl,rfl,rfl,rfl⟩:=h;have ck:=Q4 t (X:=(jx CX0 P w K mg base N g0 (j0 st) f cdv A outer s H E).nox) rfl rfl rfl rfl rfl (Ju _) hr hsc.nd Pq (Zv t hm hcv rfl rfl);refine hmp cdv A outer s H E _ fu (evP fu G T n) G ck (gok rfl rfl rfl rfl rfl hr) C0 hC0 (j2l hPc rfl rfl rfl rfl rfl (Ju _) hr) o _ _ _ _ ⟨dOb,?_⟩ ?_
       .unfold startM;exact J1 (by unfold jm;rw[Xe,xj,X4];omega)
       .rw[(kk o.a).1 _ _ rfl];exact⟨rfl,rfl⟩
      .subst er;intro g ls k ds' h1 h2 C hC;obtain⟨eg,hl2,kk⟩:=key g ls k ds' h1 h2;subst eg;cases hC0.symm.trans hC;refine⟨jjd (n:=lv n+1) hfun hsc (λls2 k2 ds2 y2 h=>by rw[h.2.2.1,hl2]) λcdv A outer s H E hcv hr o ls2 k2 ds2 y2 h=>?_,hm,hfun.kp,hb⟩;obtain⟨rfl,rfl,rfl,rfl⟩:=h;have ck:=Q4 t (X:=jx (CX1 P w) P w K mg base N g0 (j0 st) f cdv A outer s H E) rfl rfl rfl rfl rfl (Ju _) hr hsc.nd dW (Zv t hm hcv rfl rfl);refine hmp cdv A outer s H E (jx (CX1 P w) P w K mg base N g0 (j0 st) f cdv A outer s H E).xe fu (evP fu G T n) G ck (gok rfl rfl rfl rfl rfl hr) C0 hC0 (j2l hPc rfl rfl rfl rfl rfl (Ju _) hr) o _ _ _ _ ⟨dOb,?_⟩ ?_
       .unfold startM;exact J1 (by unfold jm;rw[Xe,xj,X4];omega)
       .obtain⟨ρ',z⟩:=(kk o.a).2 _ rfl;rw[z];exact λ_ _=>rfl
    .have e:evP fu G T (n+1) x ds=.no:=by simp only[evP,hF,if_neg hl]
     rw[e];trivial
   obtain⟨st,f,fd,N,ps,hfun,hsc,hps,hN,hb,hdf,hm,hts⟩:=L.ex;refine⟨f,fd,ps,?_⟩;by_cases hl:ds.length=F.n
   .have e:evP fu G T (n+1) x ds=fin (run fu (evP fu G T n) G F.body (enter F ds)):=by simp only[evP,hF,if_pos hl,hlam,Pr,if_false]
    have ab:j6 (jm N ds)=enter F ds:=Vd hl hN;cases ho:run fu (evP fu G T n) G F.body (enter F ds) with
    |next ρ' =>rw[e,ho];refine⟨Ff (k:=lv n+1) hfun hsc (λds' d' h=>by rw[h.1,hl,hps]) λcdv A outer s H E hcv hr ds' d' ⟨e1,e2⟩=>?_,hm,hfun.kp,hb,hdf⟩;subst e1 e2;refine Vl (fu:=fu) (hts cdv A outer s H E _) (Q4 t rfl rfl rfl rfl rfl (Ju _) hr hsc.nd Pq (Zv t hm hcv rfl rfl)) (gok rfl rfl rfl rfl rfl hr) (jm N ds') _ ?_;rw[ab,ho];exact λ_ _=>rfl
    |ret r =>
     rw[e,ho];cases r with
     |no=>trivial
     |lval d=>exact λy hy=>absurd (hy▸Dp y) hlast
     |mval d k=>exact λg _ _ _ hy=>absurd (hy▸j1f g) hhead
     |merr d=>exact λg _ _ _ hy=>absurd (hy▸j1f g) hhead
     |dval d ks ns=>exact λg _ _ _ hy=>absurd (hy▸jcw g) hhead2
     |hnd sp=>exact λg hy=>absurd (hy▸jcm g) hhead3
     |err y =>refine⟨j5f (k:=lv n+1) hfun hsc (λds' d' h=>by rw[h.1,hl,hps]) λcdv A outer s H E hcv hr ds' y' ⟨e1,e2⟩=>?_,hm,hfun.kp,hb⟩;subst e1 e2;refine Vl (X:=jx (CX1 P w) P w K mg base N x (j0 st) f cdv A outer s H E) (fu:=fu) (hts cdv A outer s H E (jx (CX1 P w) P w K mg base N x (j0 st) f cdv A outer s H E).xe) (Q4 t rfl rfl rfl rfl rfl (Ju _) hr hsc.nd dW (Zv t hm hcv rfl rfl)) (gok rfl rfl rfl rfl rfl hr) (jm N ds') _ ?_;rw[ab,ho];intro z hz;cases z<;>cases hz
     |val d =>
      refine⟨Ff (k:=lv n+1) hfun hsc (λds' d' h=>by rw[h.1,hl,hps]) λcdv A outer s H E hcv hr ds' d' ⟨e1,e2⟩=>?_,hm,hfun.kp,hb,hdf⟩;subst e1 e2;refine Vl (fu:=fu) (hts cdv A outer s H E _) (Q4 t rfl rfl rfl rfl rfl (Ju _) hr hsc.nd Pq (Zv t hm hcv rfl rfl)) (gok rfl rfl rfl rfl rfl hr) (jm N ds') _ ?_;rw[ab,ho];intro y hy;cases y with
      |val d=>cases hy;rfl
      |fresh l=>cases hy
     |fresh l =>
      refine⟨j8h (k:=lv n+1) hfun hsc (λds' d' h=>by rw[h.1,hl,hps]) λcdv A outer s H E hcv hr ds' d' ⟨e1,e2⟩=>?_,hm,hfun.kp,hb,hdf⟩;subst e1 e2;refine Vl (fu:=fu) (hts cdv A outer s H E _) (Q4 t rfl rfl rfl rfl rfl (Ju _) hr hsc.nd Pq (Zv t hm hcv rfl rfl)) (gok rfl rfl rfl rfl rfl hr) (jm N ds') _ ?_;rw[ab,ho];intro y hy;cases y with
      |val d=>cases hy
      |fresh l=>cases hy;rfl
    |err y ρ' =>rw[e,ho];refine⟨j5f (k:=lv n+1) hfun hsc (λds' d' h=>by rw[h.1,hl,hps]) λcdv A outer s H E hcv hr ds' y' ⟨e1,e2⟩=>?_,hm,hfun.kp,hb⟩;subst e1 e2;refine Vl (X:=jx (CX1 P w) P w K mg base N x (j0 st) f cdv A outer s H E) (fu:=fu) (hts cdv A outer s H E (jx (CX1 P w) P w K mg base N x (j0 st) f cdv A outer s H E).xe) (Q4 t rfl rfl rfl rfl rfl (Ju _) hr hsc.nd dW (Zv t hm hcv rfl rfl)) (gok rfl rfl rfl rfl rfl hr) (jm N ds') _ ?_;rw[ab,ho];exact λ_ _=>rfl
    |brk _=>rw[e,ho];trivial
    |cnt _=>rw[e,ho];trivial
    |no=>rw[e,ho];trivial
   .have e:evP fu G T (n+1) x ds=.no:=by simp only[evP,hF,if_neg hl]
    rw[e];trivial
end
noncomputable def Gof(gs:List (af×D))(q:Bool)(xs:List (af×List D))(fs:List af)(x:af):Option D :=
 if V2 x=a6 then(if x = "?" then(if q=a6 then a4 (.bl a6)else a7) else((xs.find? λp=>bang p.1==x).map λp=>.lst p.2).or (if (fs.any λf=>qm f==x)=a6 then a4 .non else a7))else gs.lookup x
theorem j9e{x y:af}(h:bang x=bang y):x=y:=by unfold bang at h;have h:(⟨("!":af).cps++x.cps⟩:af)=⟨("!":af).cps++y.cps⟩:=h;have h:=congrArg fS h;have e:x.cps=y.cps:=Tg h rfl;cases x;cases y;cases e;rfl
theorem j0u(x:af):V2 (bang x)=a6:=by unfold V2;rw[Wt];rfl
theorem j69(x:af):V2 (qm x)=a6:=by unfold V2;rw[j1b];rfl
theorem Ep{gs:List (af×D)}{q:Bool}{xs:List (af×List D)}{fs:List af}{x:af}{d:D}(h:Gof gs q xs fs (bang x)=a4 d):∃p∈xs,p.1=x/\d=.lst p.2:=by
 unfold Gof at h;rw[if_pos (j0u x),if_neg (j24 x)]at h;have hn:(fs.any λf=>qm f==bang x)=a5:=by rw[List.any_eq_false];intro f _ e;exact j23 x f (beq_iff_eq.mp e).symm
 rw[hn,if_neg (by decide),Option.or_none]at h;obtain⟨p,hp,rfl⟩:=T4.mp h;have z:=List.find?_some (p:=λp:af×List D=>bang p.1==bang x) hp;exact⟨p,List.mem_of_find?_eq_some hp,j9e (beq_iff_eq.mp z),rfl⟩
theorem Eo{gs:List (af×D)}{q:Bool}{xs:List (af×List D)}{fs:List af}{x:af}{d:D}(h:Gof gs q xs fs (qm x)=a4 d):x∈fs:=by
 unfold Gof at h;rw[if_pos (j69 x),if_neg (Ls x)]at h;have hn:(xs.find? λp=>bang p.1==qm x)=a7:=by rw[iq];intro p _ e;exact j23 p.1 x (beq_iff_eq.mp e)
 rw[hn,Option.map_none,Option.none_or]at h;split at h
 .rename_i z;obtain⟨f,hf,e⟩:=List.any_eq_true.mp z;exact jel (beq_iff_eq.mp e)▸hf
 .cases h
theorem ji3{P:ar}{w:aA}{K:k7x}{mg:k80}{base:aE}{gs:List (af×D)}{q:Bool}{xs:List (af×List D)}{fs:List af}(bt:∀x∈Z5,mg x=a7)
  (gl:∀x d,gs.lookup x=a4 d->∃u v,mg x=a4 u/\RelV v u/\∀H,Enc K H d v) (ea:Jv K=a6) (hx:∀p∈xs,p.1∈jt/\∃o,W.nsIn K aq p.1=a4 (a4 o))
  (el:q=a6->∀c∈jt,∃v,W.nsIn K aq c=a4 (a4 v)) (kin:K.In base) (ns:base.Ns aq mg) (fn:∀f∈fs,∃fa,mg f=a4 (.ref fa)/\W.keepIn K (.ref fa)=a6) (kd:∀p∈xs,KindsP P w K mg base "_law_kinds" p.1 p.2) (lm:∀x∈Zg,∀f cdv,mg x=a4 (.ref f)->V5 K f cdv->∃c Pt,cdv=.ref c/\W.codeHdIn K c Pt=a6/\W.tabIn K x=a4 (c,Pt)) (pl:("_law_plan":af)∈fs->j6c P w K mg base:=by exact λh=>absurd h (by decide)) (pc:("Pieces":af)∈fs->∃C,mg "Pieces" = a4 (.ref C)/\j3i P w K mg base C:=by exact λh=>absurd h (by decide)):Tb P w K mg base (Gof gs q xs fs):=by
 refine⟨bt,λx d hb h=>?_,ea,λx d h=>?_,λh=>el ?_,kin,ns,λx l h=>?_,λf d h=>fn f (Eo h),λd h=>pl (Eo h),λd h=>pc (Eo h),lm⟩
 .unfold Gof at h;rw[if_neg (by rw[hb];decide)]at h;exact gl x d h
 .obtain⟨p,hp,rfl,_⟩:=Ep h;exact hx p hp
 .unfold Gof at h;rw[if_pos (by decide),if_pos rfl]at h;split at h
  .rename_i z;exact z
  .cases h
 .obtain⟨p,hp,rfl,e⟩:=Ep h;cases e;exact kd p hp
def Lq(K:k7x):Sp:=λvs H Q _=>∃(a:ae)(ns:List Int),vs=[.ref a]/\TabOk K H/\SqL K H a (ns.map V.int)/\ns.length<=63/\∀H':Hp,j4 H H'->Q (.bl a6) H'
theorem j0o{K:k7x}{H:Hp}{a:ae}{ns:List Int}(h:SqL K H a (ns.map V.int)):j5 K H [.lst (ns.map D.int)] [.ref a] :=
 ⟨_,[],rfl,⟨a,_,rfl,h,j5.ints ns⟩,rfl⟩
theorem jfs{P:ar}{w:aA}{K:k7x}{mg:k80}{base:aE}{fu:Nat}{G:af->Option D}{T:af->Option Fi}{n:Nat}{x p:af}{fa:ae}{st:aJ}{F:Fi}
  (hT:∀x F,T x=a4 F->LkF P w K mg base x F) (t:Tb P w K mg base G)
  (hx:T x=a4 F) (hlam:F.lam=a5) (hm:mg x=a4 (.ref fa)) {fd:aG} (hfun:Fun K x x st fa fd) (N:List af) (hsc:FnScope N [p] (j0 st)) (h1:F.n=1) (hN:N.length=F.nn)
  (hts:∀(cdv:aa)(A:aD)(outer:List cu)(s:ah)(H:Hp)(E:XK)(xe:k7y),Ts ((jx CX0 P w K mg base N x (j0 st) fa cdv A outer s H E).wish xe) F.body (.ss (jb st)))
  (hlaw:∀ns:List Int,ns.length<=63->evP fu G T (n+1) x [.lst (ns.map D.int)]=.val (.bl a6)):FnOk P w K mg base CX0 (lv (n+1)) fa fd [p] (Lq K):=by
 have S:FnOk P w K mg base CX0 (lv (n+1)) fa fd [p] (spP K λds d=>∃ns:List Int,ns.length<=63/\ds=[.lst (ns.map D.int)]/\d=.bl a6):=by
  refine Ff (k:=lv n+1) hfun hsc (λds d ⟨ns,_,h,_⟩=>by rw[h];rfl) λcdv A outer s H E hcv hr ds d ⟨ns,hns,e1,e2⟩=>?_;subst e1 e2;have e:=hlaw ns hns;simp only[evP,hx,h1,hlam,Pr,if_false,X4,cD,if_true]at e;have ab:j6 (jm N [D.lst (ns.map D.int)])=enter F [D.lst (ns.map D.int)]:=Vd (by rw[h1];rfl) hN;have g:Gok (jx CX0 P w K mg base N x (j0 st) fa cdv A outer s H E).nox (evP fu G T n):=λg ds'=>by
   obtain⟨f',fd',ps',q⟩:=Oi (fu:=fu) hT t n g ds';cases z:evP fu G T n g ds' with
   |val d=>rw[z]at q;exact⟨lv n,f',fd',ps',q.1,hr,q.2.1,q.2.2.1,q.2.2.2⟩
   |fresh l=>rw[z]at q;exact⟨lv n,f',fd',ps',q.1,hr,q.2.1,q.2.2.1,q.2.2.2⟩
   |err y=>rw[z]at q;exact⟨lv n,f',fd',ps',q.1,hr.mono (Pb _),q.2.1,q.2.2.1,q.2.2.2⟩
   |lval d=>rw[z]at q;exact λy hy=>⟨lv n,hr.mono (Pb _),q y hy⟩
   |mval d k=>rw[z]at q;exact λg' ls k ds'' h1 h2 C h3=>let ⟨a,b⟩:=q g' ls k ds'' h1 h2 C h3;⟨⟨lv n,f',fd',ps',a,hr.mono (Pb _),b⟩⟩
   |merr y=>rw[z]at q;exact λg' ls k ds'' h1 h2 C h3=>let ⟨a,b⟩:=q g' ls k ds'' h1 h2 C h3;⟨⟨lv n,f',fd',ps',a,hr.mono (Pb _),b⟩⟩
   |dval d ks ns=>rw[z]at q;exact λg' ks ns ds'' h1 h2=>let ⟨a,b⟩:=q g' ks ns ds'' h1 h2;⟨⟨lv n,f',fd',ps',a,hr,b⟩⟩
   |hnd sp=>rw[z]at q;exact λg' h1=>let ⟨a,b⟩:=q g' h1;⟨⟨lv n,f',fd',ps',a,hr,b⟩⟩
   |no=>trivial
  refine Vl (fu:=fu) (hts cdv A outer s H E _) (Q4 t rfl rfl rfl rfl rfl (Ju _) hr hsc.nd Pq (Zv t hm hcv rfl rfl)) g (jm N _) _ ?_;rw[ab];cases ho:run fu (evP fu G T n) G F.body (enter F [D.lst (ns.map D.int)]) with
  |ret r =>
   rw[ho]at e;have e:r=.val (.bl a6):=e;subst e;intro y hy;cases y with
   |val d=>cases hy;rfl
   |fresh l=>cases hy
  |next ρ'=>rw[ho]at e;cases e
  |brk _=>rw[ho]at e;cases e
  |cnt _=>rw[ho]at e;cases e
  |err _ _=>rw[ho]at e;cases e
  |no=>rw[ho]at e;cases e
 refine S.imp λvs H Q E ⟨a,ns,hv,tb,hS,hl,k⟩=>?_;subst hv;exact⟨[],_,_,tb,(λa h=>nomatch h),by rw[v8];exact j0o hS,⟨ns,hl,rfl,rfl⟩,λv H' g e=>by cases(show v=.bl a6 from e);exact k H' g⟩
noncomputable def Lp(K:k7x):List (ae×af):=Zg.filterMap λx=>(W.tabIn K x).map λq=>(q.2,zc x)
noncomputable def tOk(K:k7x)(ts:List ae):Bool:=(Zg.all λx=>match W.nsIn K aq x with
  |some a7=>a6
  |_=>match W.tabIn K x with
   |some (c,P)=>W.codeHdIn K c P&&ts.contains P
   |none=>a5)&&W.noTabs K&&decide ((Lp K).map (·.1)).Nodup
theorem jay{K:k7x}{ts:List ae}{h:aE}(hk:tOk K ts=a6)(X:K.In h)(ht:∀P∈ts,h.get? P=a4 (W.tabObj #[])):j9i (Lp K) h:=by
 unfold tOk at hk;rw[Xd,Xd]at hk;refine⟨of_decide_eq_true hk.2,λt hm=>?_⟩;obtain⟨x,hx,e⟩:=t7.mp hm;obtain⟨⟨c,P⟩,e1,e2⟩:=T4.mp e;subst e2;have z:=Xy.mp hk.1.1 x hx;split at z
 .rename_i y;exfalso;unfold W.tabIn at e1;rw[y]at e1;cases e1
 .rw[e1]at z;have z:(W.codeHdIn K c P&&ts.contains P)=a6:=z;rw[Xd]at z;exact⟨⟨c,W.codeHd_of_K X z.1⟩,ht P (by simpa using z.2)⟩
theorem jiw{K:k7x}{ts:List ae}{h:aE}{mg:k80}(hk:tOk K ts=a6)(X:K.In h)(Gn:h.Ns aq mg):∀x∈Zg,∀f cdv,mg x=a4 (.ref f)->V5 K f cdv->∃c Pt,cdv=.ref c/\W.codeHdIn K c Pt=a6/\W.tabIn K x=a4 (c,Pt):=λx hx f cdv hm hcv=>by
 unfold tOk at hk;rw[Xd,Xd]at hk;have z:=Xy.mp hk.1.1 x hx;split at z
 .rename_i y;rw[W.mg_none_of X Gn y]at hm;cases hm
 .split at z
  .rename_i c P e;rw[Xd]at z;refine⟨c,P,?_,z.1,e⟩;obtain⟨oc,od,fd,sl,e3,e4⟩:=hcv;unfold W.tabIn at e;split at e
   .rename_i f' hf;have e5:=W.mg_of X Gn hf;rw[hm]at e5;cases e5;rw[e3]at e;dsimp only at e;split at e
    .rename_i c' hc;split at e
     .split at e
      .cases e;rw[<-e4];exact hc
      .cases e
     .cases e
    .cases e
   .cases e
  .cases z
theorem jdr{K:k7x}{H:Hp}(hO:Only (Lp K) H):TabOk K H:=λx hx c P e=>hO.2 (P,zc x) (t7.mpr ⟨x,hx,by rw[e];rfl⟩)
theorem j4q{K:k7x}{ts:List ae}(hk:tOk K ts=a6):W.noTabs K=a6:=by unfold tOk at hk;rw[Xd,Xd]at hk;exact hk.1.2
theorem walkL{l:d9}{q:ar}{loose:List af}{XP:(af->Option aa)->aE->Prop}{YP:aA->aE->Prop}{d:DefRec}{K:lD->k7x}{k:Nat}{x:af}{ts:List ae}(hk:k<=200)(hn:l.most=a4 63)(hdf:d.params.defaults=[])
  (hY:∀(w:aA)(h:aE),YP w h->(K w.params).In h/\∀P∈ts,h.get? P=a4 (W.tabObj #[])) (hK:∀w:aA,tOk (K w.params) ts=a6)
  (F:∀(w:aA)(mg:k80)(fa:ae)(h:aE),(K w.params).In h->h.Ns aq mg->mg d.name=a4 (.ref fa)->tOk (K w.params) ts=a6 ->
   ∃fd:aG,(∀(s:ah)(u:aa),fR s fd ⟨[u],[]⟩ [(x,u)])/\∀base:aE,(K w.params).In base->base.Ns aq mg->FnOk l.prog w (K w.params) mg base CX0 k fa fd [x] (Lq (K w.params))) :
  i3 q loose XP YP l.row.toRowW d [] (λf vs=>i6 f vs) :=
 L2.walk_of (n:=63) (k:=k) (x:=x) (CX:=λ_=>CX0) (sp:=λw=>Lq (K w.params)) (ts:=λw=>Lp (K w.params)) hn (by decide) hdf
  (Room.mono (k:=200) ⟨rfl,by decide,by decide,rfl⟩ hk) (λw h Y=>⟨(hY w h Y).1,jay (hK w) (hY w h Y).1 (hY w h Y).2⟩) (λw=>j4q (hK w)) (λw mg fa h X G m=>F w mg fa h X G m (hK w)) (λw H a ns hl hO hS=>⟨a,ns,rfl,jdr hO,hS,hl,λH' g=>⟨rfl,g⟩⟩) λ_ _ _ _ _ z=>z
def Lf(K:k7x)(x:af)(st:aJ):Prop:=∃(f:ae)(oc:aa)(od:Option ae)(kV dc pm:aa)(an:Option ae)(cd ct:aa)(sl:Array (Option aa)),W.nsIn K aq x=a4 (a4 (.ref f)) /\
 K.lookup f=a4 ⟨oc,od,.func (W.fnOf x x (ql st) (jb st) (j0 st) .none kV dc pm an cd ct),sl⟩/\W.codeIn K cd x=a6/\W.keepIn K (.ref f)=a6
def TrT(P:ar)(w:aA)(K:k7x)(mg:k80)(base:aE)(x:af)(N:List af)(st:aJ)(b:Sx):Prop :=
 ∀(f:ae)(cdv:aa)(A:aD)(outer:List cu)(s:ah)(H:Hp)(E:XK) (xe:k7y),Ts ((jx CX0 P w K mg base N x (j0 st) f cdv A outer s H E).wish xe) b (.ss (jb st))
def TrH(P:ar)(w:aA)(K:k7x)(mg:k80)(base:aE)(x:af)(N:List af)(st:aJ)(b:Sx):Prop :=
 ∀(f:ae)(cdv:aa)(A:aD)(outer:List cu)(s:ah)(H:Hp),Ts { (jx CX0 P w K mg base N x (j0 st) f cdv A outer s H E0).nox with calm:=a5 } b (.ss (jb st))
noncomputable def bOk(K:k7x):Bool:=Z5.all λx=>match W.nsIn K aq x with
 |some a7=>a6
 |_=>a5
noncomputable def xOk(K:k7x):Bool:=jt.all λx=>match W.nsIn K aq x with
 |some (a4 _)=>a6
 |_=>a5
section
variable{P:ar}{w:aA}{K:k7x}{mg:k80}{base h:aE}{x:af}{st:aJ}{N ps:List af}{F:Fi}
theorem jjl(X:K.In h)(Gn:h.Ns aq mg)(hb:bOk K=a6):∀x∈Z5,mg x=a7:=λx hx=>by
 have z:=Xy.mp hb x hx;split at z
 .rename_i e;exact W.mg_none_of X Gn e
 .cases z
theorem jji(hx:xOk K=a6):∀c∈jt,∃v,W.nsIn K aq c=a4 (a4 v):=λc hc=>by
 have z:=Xy.mp hx c hc;split at z
 .rename_i v e;exact⟨v,e⟩
 .cases z
theorem qp(L:Lf K x st)(X:K.In h)(Gn:h.Ns aq mg)(t:TrT P w K mg base x N st F.body)(ps:List af)(sc:FnScope N ps (j0 st))(h1:ps.length=F.n)(h2:N.length=F.nn)
  (hb:∀(kV doc pm:aa)(an:Option ae)(cdv ct:aa)(us:List aa),us.length=ps.length->bZ (W.fnOf x x (ql st) (jb st) (j0 st) .none kV doc pm an cdv ct) ⟨us,[]⟩=pure (ps.zip us)) (hd:x∉jh3):Lk P w K mg base x F:=by
 obtain⟨f,oc,od,kV,dc,pm,an,cd,ct,sl,a,l,c,k⟩:=L;exact⟨st,f,_,N,ps,Yy l c k,sc,h1,h2,(Yy l c k).binds hb,λz=>absurd z hd,W.mg_of X Gn a,t f⟩
theorem jfp{p:af}(L:Lf K x st)(X:K.In h)(Gn:h.Ns aq mg)(t:TrH P w K mg base x N st F.body)(sc:FnScope N [p] (j0 st))(h1:1<=N.length)(h2:N.length=F.nn)
  (hb:∀(kV doc pm:aa)(an:Option ae)(cdv ct:aa)(us:List aa),us.length=[p].length->bZ (W.fnOf x x (ql st) (jb st) (j0 st) .none kV doc pm an cdv ct) ⟨us,[]⟩=pure ([p].zip us)):LkH P w K mg base x F:=by
 obtain⟨f,oc,od,kV,dc,pm,an,cd,ct,sl,a,l,c,k⟩:=L;exact⟨st,f,_,N,p,Yy l c k,sc,h1,h2,(Yy l c k).binds hb,W.mg_of X Gn a,t f⟩
theorem lkF(L:Lk P w K mg base x F)(h:F.lam=a5)(hn:x.cps.toList.getLast?≠a4 62)(hh:x.cps.toList.head?≠a4 64)(hh2:x.cps.toList.head?≠a4 35:=by decide)(hh3:x.cps.toList.head?≠a4 38:=by decide):LkF P w K mg base x F:=⟨λ_=>.inl ⟨L,hn,hh,hh2,hh3⟩,λz=>by rw[h]at z;cases z⟩
theorem us1{us:List aa}(h:us.length=1):∃a,us=[a]:=by match us,h with|[a],_=>exact⟨a,rfl⟩
theorem us2{us:List aa}(h:us.length=2):∃a b,us=[a,b]:=by match us,h with|[a,b],_=>exact⟨a,b,rfl⟩
theorem us3{us:List aa}(h:us.length=3):∃a b c,us=[a,b,c]:=by match us,h with|[a,b,c],_=>exact⟨a,b,c,rfl⟩
theorem us4{us:List aa}(h:us.length=4):∃a b c d,us=[a,b,c,d]:=by match us,h with|[a,b,c,d],_=>exact⟨a,b,c,d,rfl⟩
end
theorem lf_mk{K:k7x}{x:af}{st:aJ}{f:ae}{oc:aa}{od:Option ae}{kV dc pm:aa}{an:Option ae}{cd ct:aa}{sl:Array (Option aa)}(a:W.nsIn K aq x=a4 (a4 (.ref f)))
  (l:K.lookup f=a4 ⟨oc,od,.func (W.fnOf x x (ql st) (jb st) (j0 st) .none kV dc pm an cd ct),sl⟩) (c:W.codeIn K cd x=a6) (k:W.keepIn K (.ref f)=a6):Lf K x st:=⟨f,oc,od,kV,dc,pm,an,cd,ct,sl,a,l,c,k⟩
end L2
end
section
namespace L2
open PySem (Str sizeLine argBest)
theorem J9{n:Nat}(h:n<=1000000):n<=ak:=Xf h (by decide)
theorem lt_size{n:Nat}(h:n<=1000000):n<ak:=d4 h (by decide)
noncomputable def Qg(o:So)(f:En->So):So:=match o with
 |.next ρ=>f ρ
 |o=>o
noncomputable def ifS(c:Option Bool)(f g:En->So)(ρ:En):So:=match c with
 |some a6=>f ρ
 |some a5=>g ρ
 |none=>.no
noncomputable def Ut(is:List Nat)(f:En->So)(d:D)(ρ:En):So:=match qz is d ρ with
 |some ρ2=>f ρ2
 |none=>.no
noncomputable def j2t(is:List Nat)(w:Option W)(f:En->So)(ρ:En):So:=match w with
 |some (.i ds)=>zr (Ut is f) ds ρ
 |_=>.no
section
variable{fu:Nat}{Γ:af->List D->Rc}{G:af->Option D}{ρ:En}{i j:Nat}{e c k:Ex}{a b:Sx}{is:List Nat}
theorem Nj:run fu Γ G .nop ρ=.next ρ:=(rfl)
theorem Za:run fu Γ G (.seq a b) ρ=Qg (run fu Γ G a ρ) (run fu Γ G b):=(rfl)
theorem j17:run fu Γ G (.set i e) ρ=orE (U9 i (ev Γ G e ρ) ρ) (er Γ G e ρ) ρ:=(rfl)
theorem jbc:run fu Γ G (.mov i j) ρ=Ir i j ρ[j]? ρ:=(rfl)
theorem j73:run fu Γ G (.expr e) ρ=orE (Fo (ev Γ G e ρ) ρ) (er Γ G e ρ) ρ:=(rfl)
theorem jba:run fu Γ G (.ret e) ρ=orE (retS (ev Γ G e ρ)) (er Γ G e ρ) ρ:=(rfl)
theorem Ij{ρ':En}{x:Option af}:orE (.next ρ') x ρ=.next ρ':=(rfl)
theorem j1d{r:Rc}{x:Option af}:orE (.ret r) x ρ=.ret r:=(rfl)
theorem jbt{y:af}:orE .no (a4 y) ρ=.err y ρ:=(rfl)
theorem je2:U9 i a7 ρ=.no:=(rfl)
theorem jgh:Fo a7 ρ=.no:=(rfl)
noncomputable def erR(G:af->Option D):Rc->Option af
 |.err x=>if (G (bang x)).isSome=a6 then a4 x else a7
 |_=>a7
noncomputable def erC(Γ:af->List D->Rc)(G:af->Option D)(f:af)(w:Option W):Option af:=match w with
 |some (.a rs)=>erR G (Γ f (rs.map Rk.d))
 |_=>a7
theorem jgw:ev Γ G (.fst e) ρ=Mt (ev Γ G e ρ):=(rfl)
theorem jgd{rs:List Rk}{ys:List af}(h:rs.length<=1000)(h2:Jk rs=a4 ys):Mt (a4 (.a rs))=a4 (.v (.e (.str (Ov cP ys)))):=by unfold Mt;dsimp only;rw[if_pos h,h2];rfl
noncomputable def erK(Γ:af->List D->Rc)(G:af->Option D)(f:af)(x:Option af)(w:Option W):Option af:=match x with
 |some x=>if (G (qm f)).isSome=a6 then a4 x else a7
 |none=>erC Γ G f w
theorem U3{f:af}:er Γ G (.call f e) ρ=erK Γ G f (er Γ G e ρ) (ev Γ G e ρ):=by
 rw[er];cases er Γ G e ρ with
 |some x=>rfl
 |none =>
  cases h:ev Γ G e ρ with
  |none=>rfl
  |some w =>
   cases w with
   |v _=>rfl
   |i _=>rfl
   |a rs =>show(match Γ f (rs.map Rk.d)with|.err x=>_|_=>_)=erR G (Γ f (rs.map Rk.d));cases Γ f (rs.map Rk.d)<;>rfl
theorem Bl{f:af}{w:Option W}:erK Γ G f a7 w=erC Γ G f w:=(rfl)
noncomputable def erN(a:Option af)(w:Option W)(b:Option af):Option af:=match a with
 |some x=>a4 x
 |none=>match w with
  |some (.v _)=>b
  |_=>a7
theorem U0{b:Ex}:er Γ G (.cons e b) ρ=erN (er Γ G e ρ) (ev Γ G e ρ) (er Γ G b ρ):=by rw[er];rfl
theorem Zy{r:Rk}{b:Option af}:erN a7 (a4 (.v r)) b=b:=(rfl)
theorem Wl:er Γ G .nil ρ=a7:=(rfl)
theorem Wj:er Γ G (.var i) ρ=a7:=(rfl)
noncomputable def jec(w:Option W):Option W:=match w with
 |some (.v x)=>match x.d with
  |.str y=>if (aI y).length<=2000 then a4 (.v (.e (.str (aI y))))else a7
  |_=>a7
 |_=>a7
theorem jgo:ev Γ G (.rpr e) ρ=jec (ev Γ G e ρ):=(rfl)
theorem jeb{y:af}(h:(aI y).length<=2000):jec (a4 (.v (.e (.str y))))=a4 (.v (.e (.str (aI y)))):=if_pos h
theorem Ri{f:af}{rs:List Rk}:erC Γ G f (a4 (.a rs))=erR G (Γ f (rs.map Rk.d)):=(rfl)
theorem Bk{x:af}(h:(G (bang x)).isSome=a6):erR G (.err x)=a4 x:=if_pos h
theorem j48{x:af}:run fu Γ G (.raise x e) ρ=Nm x (ev Γ G e ρ) (G (bang x)) ρ:=(rfl)
theorem jef{x:af}{r:Rk}{d:D}:Nm x (a4 (.v r)) (a4 d) ρ=.err x ρ:=(rfl)
noncomputable def j6m(i j:Nat)(G:af->Option D)(o:So):So:=match o with
 |.err x ρ'=>match G (bang x) with
  |some (.lst l)=>.next (((ρ'.set j (.exc x)).set i (.own l)).set j .un)
  |_=>.no
 |o=>o
theorem j70:run fu Γ G (.tryK a i j) ρ=j6m i j G (run fu Γ G a ρ):=(rfl)
theorem Ka{x:af}{l:List D}{ρ':En}(h:G (bang x)=a4 (.lst l)):j6m i j G (.err x ρ')=.next (((ρ'.set j (.exc x)).set i (.own l)).set j .un):=by unfold j6m;dsimp only;rw[h]
theorem j71:run fu Γ G (.retV i) ρ=R8 ρ[i]?:=(rfl)
theorem j18:run fu Γ G (.ife c a b) ρ=ifS (truth (ev Γ G c ρ)) (run fu Γ G a) (run fu Γ G b) ρ:=(rfl)
theorem Kv:run fu Γ G (.loop is e a) ρ=j2t is (ev Γ G e (frz e ρ)) (run fu Γ G a) (frz e ρ):=(rfl)
theorem j19:run fu Γ G (.app i e) ρ=Y0 i ρ[i]? (ev Γ G e ρ) ρ:=(rfl)
theorem jbe:run fu Γ G (.ext i e) ρ=Fj i ρ[i]? (ev Γ G e ρ) ρ:=(rfl)
theorem jbb:run fu Γ G (.put i k e) ρ=Np i ρ[i]? (ev Γ G k ρ) (ev Γ G e ρ) ρ:=(rfl)
theorem jb9:run fu Γ G (.unp i j e) ρ=N6 i j (stOf (ev Γ G e ρ)) ρ:=(rfl)
theorem jdj{d d':D}(h:i≠j):N6 i j (a4 (.tup [d,d'])) ρ=.next ((ρ.set i (.val d)).set j (.val d')):=by unfold N6;dsimp only;rw[if_neg h]
theorem jdv{d:D}:stOf (a4 (.v (.e d)))=a4 d:=(rfl)
theorem j72:run fu Γ G (.keep i) ρ=Ot i ρ[i]? ρ:=(rfl)
theorem j57{l:List D}:Ot i (a4 (.own l)) ρ=.next (ρ.set i (.val (.lst l))):=(rfl)
theorem j74{w:Nat}{e:Ex}:run fu Γ G (.apop i w e) ρ=Rm i w ρ[i]? ρ[w]? (ev Γ G e ρ) ρ:=(rfl)
theorem jd8{w k:Nat}{l m:List D}{z:Int}{d:D}(hz:ixN m.length z=a4 k)(hd:m[k]?=a4 d)(h:i≠w)(hl:l.length<=1000000)(hm:m.length<=1000000):Rm i w (a4 (.own l)) (a4 (.own m)) (a4 (.v (.e (.int z)))) ρ=.next ((ρ.set w (.own (m.eraseIdx k))).set i (.own (l++[d]))):=by simp only[Rm,Rk.st,hz,hd];rw[if_pos ⟨h,lt_size hl,hm⟩]
theorem jbd:run fu Γ G (.fgt i) ρ=.next (ρ.set i .un):=(rfl)
end
section
variable{f g:En->So}{ρ:En}{i j:Nat}{d:D}{l m:List D}{r:Rc}{x:Rk}
theorem V0:Qg (.next ρ) f=f ρ:=(rfl)
theorem Ma:Qg (.ret r) f=.ret r:=(rfl)
theorem j6u{x:af}{ρ':En}:Qg (.err x ρ') f=.err x ρ':=(rfl)
theorem ja5:ifS (a4 a6) f g ρ=f ρ:=(rfl)
theorem ja6:ifS (a4 a5) f g ρ=g ρ:=(rfl)
theorem j43:U9 i (a4 (.v (.o l))) ρ=.next (ρ.set i (.own l)):=(rfl)
theorem je3:U9 i (a4 (.v (.e d))) ρ=.next (ρ.set i (.val d)):=(rfl)
theorem jee:retS (a4 (.v (.o l)))=.ret (.fresh l):=(rfl)
theorem j4a:retS (a4 (.v (.e d)))=.ret (.val d):=(rfl)
theorem jbh:R8 (a4 (.own l))=.ret (.fresh l):=(rfl)
theorem jbg:R8 (a4 (.val d))=.ret (.val d):=(rfl)
theorem jff(h:i≠j):Ir i j (a4 (.own l)) ρ=.next ((ρ.set j .un).set i (.own l)):=if_neg h
theorem jgg:Fo (a4 (.v x)) ρ=.next ρ:=(rfl)
theorem vy:Ut [i] f d ρ=f (ρ.set i (.val d)):=(rfl)
theorem jd7{a b:D}:Ut [i,j] f (.tup [a,b]) ρ=f ((ρ.set i (.val a)).set j (.val b)):=(rfl)
theorem j1k{is:List Nat}{ds:List D}:j2t is (a4 (.i ds)) f ρ=zr (Ut is f) ds ρ:=(rfl)
theorem jhh(h:l.length<=1000000):Y0 i (a4 (.own l)) (a4 (.v (.e d))) ρ=.next (ρ.set i (.own (l++[d]))):=by simp[Y0,Rk.st,lt_size h]
theorem jhg(h:l.length<=1000000)(hd:Q7 d=a6):Y0 i (a4 (.own l)) (a4 (.v (.t d))) ρ=.next (ρ.set i (.own (l++[d]))):=by simp[Y0,Rk.st,hd,lt_size h]
theorem j6a(h:l.length<=1000000):Y0 i (a4 (.own l)) (a4 (.v (.o m))) ρ=.next (ρ.set i (.own (l++[.lst m]))):=by simp[Y0,Rk.st,lt_size h]
theorem jgf(h:l.length+m.length<=1000000):Fj i (a4 (.own l)) (a4 (.v (.o m))) ρ=.next (ρ.set i (.own (l++m))):=by simp[Fj,jj,J9 h]
theorem Ie{j:Int}{n:Nat}(h:ixN l.length j=a4 n):Np i (a4 (.own l)) (a4 (.v (.e (.int j)))) (a4 (.v (.e d))) ρ=.next (ρ.set i (.own (l.set n d))):=by simp[Np,Rk.st,Rk.d,h]
theorem Fg:fin (.ret r)=r:=(rfl)
theorem jcp{x:af}{ρ':En}:fin (.err x ρ')=.err x:=(rfl)
theorem j8i:fin (.next ρ)=.val .non:=(rfl)
theorem jr{fu:Nat}{G:af->Option D}{T:af->Option Fi}{n:Nat}{f:af}{ds:List D}{F:Fi}(h:T f=a4 F)(hl:ds.length=F.n)(hla:F.lam=a5:=by rfl):evP fu G T (n+1) f ds=fin (run fu (evP fu G T n) G F.body (enter F ds)):=by simp only[evP,h,if_pos hl,hla,Pr,if_false]
end
theorem Qm{f:D->En->So}(W:Nat->En->Prop):∀{ds:List D}{ρ:En}{k:Nat},W k ρ->(∀i d ρ,ds[i]?=a4 d->W (k+i) ρ->∃ρ',f d ρ=.next ρ'/\W (k+i+1) ρ')->∃ρ',zr f ds ρ=.next ρ'/\W (k+ds.length) ρ'
 |[],ρ,k,h0,_=>⟨ρ,rfl,h0⟩
 |d::ds,ρ,k,h0,hs=>by
  obtain⟨ρ1,e1,w1⟩:=hs 0 d ρ rfl h0;obtain⟨ρ2,e2,w2⟩:=Qm (f:=f) W (ds:=ds) (k:=k+1) w1 λi d' ρ' hi w=>by have:=hs (i+1) d' ρ' (by simpa using hi) (by rw[show k+(i+1)=k+1+i by omega];exact w);rw[show k+(i+1)+1=k+1+i+1 by omega]at this;exact this
  refine⟨ρ2,?_,by rw[X4,show k+(ds.length+1)=k+1+ds.length by omega];exact w2⟩;rw[zr,e1];exact e2
theorem j7m{f:D->En->So}(W:Nat->En){ds:List D}{ρ:En}(h0:ρ=W 0)(hs:∀i d,ds[i]?=a4 d->f d (W i)=.next (W (i+1))):zr f ds ρ=.next (W ds.length):=by
 obtain⟨ρ',e,w⟩:=Qm (f:=f) (λi ρ=>ρ=W i) (k:=0) (ds:=ds) (ρ:=W 0) rfl λi d ρ hi w=>⟨W (0+i+1),by rw[w,Td];exact hs i d hi,rfl⟩
 rw[h0,e,w,Td]
theorem Vm{f:D->En->So}{ds:List D}{ρ:En}{g:En->So}{r:Rc}(W:Nat->En->Prop)(h0:W 0 ρ)(hs:∀i d ρ,ds[i]?=a4 d->W i ρ->∃ρ',f d ρ=.next ρ'/\W (i+1) ρ')(hk:∀ρ',W ds.length ρ'->fin (g ρ')=r) :
  fin (Qg (zr f ds ρ) g)=r:=by
 obtain⟨ρ',e,w⟩:=Qm (f:=f) W (k:=0) (ds:=ds) (ρ:=ρ) h0 λi d ρ hi w=>by rw[Td]at w ⊢;exact hs i d ρ hi w
 rw[e];rw[Td]at w;exact hk ρ' w
theorem Y8{f:D->En->So}{ds:List D}{ρ:En}{g:En->So}{Q:En->Prop}(W:Nat->En->Prop)(h0:W 0 ρ)(hs:∀i d ρ,ds[i]?=a4 d->W i ρ->∃ρ',f d ρ=.next ρ'/\W (i+1) ρ')
  (hk:∀ρ',W ds.length ρ'->∃ρ2,g ρ'=.next ρ2/\Q ρ2):∃ρ2,Qg (zr f ds ρ) g=.next ρ2/\Q ρ2:=by
 obtain⟨ρ',e,w⟩:=Qm (f:=f) W (k:=0) (ds:=ds) (ρ:=ρ) h0 λi d ρ hi w=>by rw[Td]at w ⊢;exact hs i d ρ hi w
 rw[e];rw[Td]at w;exact hk ρ' w
theorem j50{f:D->En->So}{ρ:En}:zr f [] ρ=.next ρ:=(rfl)
theorem Oq{f:D->En->So}{d:D}{ds:List D}{ρ ρ':En}(h:f d ρ=.next ρ'):zr f (d::ds) ρ=zr f ds ρ':=by rw[zr,h]
theorem Nu{f:D->En->So}{d:D}{ds:List D}{ρ:En}{r:Rc}(h:f d ρ=.ret r):zr f (d::ds) ρ=.ret r:=by rw[zr,h]
noncomputable def ja7(d:Option D):Option W:=d.map λd=>.v (.e d)
noncomputable def j85(i:Option Int):Option W:=i.map λk=>.v (.e (.int k))
noncomputable def jg7(a:Option W):Option W:=match a with
 |some (.v x)=>a4 (.v (.e (.bl x.d.isNon)))
 |_=>a7
noncomputable def j9g(k:Option Bool)(f:En->Option W)(ρ:En):Option W:=match k with
 |some a5=>a4 (.v (.e (.bl a5)))
 |some a6=>blW (truth (f ρ))
 |none=>a7
noncomputable def orW(k:Option Bool)(f:En->Option W)(ρ:En):Option W:=match k with
 |some a6=>a4 (.v (.e (.bl a6)))
 |some a5=>blW (truth (f ρ))
 |none=>a7
noncomputable def jfb(k:Option Bool):Option W:=k.map λk=>.v (.e (.bl (!k)))
noncomputable def slW(a:Option W)(l h:Option (Option Int)):Option W:=match a,l,h with
 |some (.v x),a4 l,a4 h=>match x.sq with
  |some (a6,ds)=>a4 (.v (.o (cutD ds l h)))
  |some (a5,ds)=>if HT.sIx ds.length 0 l=0/\HT.sIx ds.length ds.length h=ds.length then a7 else a4 (.v (.e (.tup (cutD ds l h))))
  |none=>match x.d with
   |.str z=>if jj z.length=a6 then a4 (.v (.e (.str (bc z l h))))else a7
   |_=>a7
 |_,_,_=>a7
noncomputable def Qc(is:List Nat)(c e:En->Option W)(ρ:En)(d:D):Option (Option D):=match qz is d ρ with
 |none=>a7
 |some ρ2=>match c ρ2 with
  |some (.a [])=>match e ρ2 with
   |some (.v x)=>x.st.map a4
   |_=>a7
  |some (.a [y])=>match y.d with
   |.bl a6=>match e ρ2 with
    |some (.v x)=>x.st.map a4
    |_=>a7
   |.bl a5=>a4 a7
   |_=>a7
  |_=>a7
noncomputable def K3(is:List Nat)(w:Option W)(c e:En->Option W)(z:Bool)(ρ:En):Option W:=match w with
 |some (.i ds)=>if Bg is ρ=a6/\jj ds.length=a6 then(Jj (Qc is c e ρ) ds).bind λl=>if (z && !qb l)=a6 then a7 else a4 (.v (.o l))else a7
 |_=>a7
section
variable{Γ:af->List D->Rc}{G:af->Option D}{ρ:En}{a b c e:Ex}{op:Bop}{cp:Cop}{x f:af}{i:Nat}{d:D}
theorem jgt:ev Γ G (.lit d) ρ=a4 (.v (.e d)):=(rfl)
theorem jgi:ev Γ G (.var i) ρ=N5 ρ[i]?:=(rfl)
theorem jcs:ev Γ G (.glob x) ρ=ja7 (G x):=(rfl)
theorem jh0:ev Γ G (.bin op a b) ρ=Qi op (ev Γ G a ρ) (ev Γ G b ρ):=(rfl)
theorem jgr:ev Γ G (.neg a) ρ=Ip (ev Γ G a ρ):=(rfl)
theorem jgx:ev Γ G (.cmp cp a b) ρ=Fp cp (ev Γ G a ρ) (ev Γ G b ρ):=(rfl)
theorem jgv:ev Γ G (.isN a) ρ=jg7 (ev Γ G a ρ):=(rfl)
theorem jh1:ev Γ G (.and a b) ρ=j9g (truth (ev Γ G a ρ)) (ev Γ G b) ρ:=(rfl)
theorem jjg:ev Γ G (.or a b) ρ=orW (truth (ev Γ G a ρ)) (ev Γ G b) ρ:=(rfl)
theorem jgp:ev Γ G (.not a) ρ=jfb (truth (ev Γ G a ρ)):=(rfl)
theorem jgq:ev Γ G .nil ρ=a4 (.a []):=(rfl)
theorem jcu:ev Γ G (.cons a b) ρ=consW (ev Γ G a ρ) (ev Γ G b ρ):=(rfl)
theorem jgj:ev Γ G (.tup a) ρ=Yl (ev Γ G a ρ):=(rfl)
theorem jgs:ev Γ G (.lst a) ρ=Ze (ev Γ G a ρ):=(rfl)
theorem jjh:ev Γ G (.ix a b) ρ=ixW (ev Γ G a ρ) (ev Γ G b ρ):=(rfl)
theorem jjf:ev Γ G (.sl a b c) ρ=slW (ev Γ G a ρ) (Q5 (ev Γ G b ρ)) (Q5 (ev Γ G c ρ)):=(rfl)
theorem jcr{sep:af}:ev Γ G (.join sep a) ρ=Rh sep (ev Γ G a ρ):=(rfl)
theorem jgk:ev Γ G (.tix a b) ρ=Yn (ev Γ G a ρ) (ev Γ G b ρ):=(rfl)
theorem jgl:ev Γ G (.srt a) ρ=Nf (ev Γ G a ρ):=(rfl)
theorem jgy{b c:Ex}:ev Γ G (.chn a b c) ρ=j05 (ev Γ G a ρ) (ev Γ G b ρ) (ev Γ G c ρ):=(rfl)
theorem jha{i j k:Int}:j05 (a4 (.v (.e (.int i)))) (a4 (.v (.e (.int j)))) (a4 (.v (.e (.int k))))=a4 (.v (.e (.bl (decide (i<j)&&decide (j<k))))):=(rfl)
theorem je4{y:af}(h:ascii y=a6):W5 (a4 (.v (.e (.str y))))=a4 (.i (chs y)):=if_pos h
theorem Ni{g:Nat->(af->List D->Rc)->(af->Option D)->En->So}{fu:Nat}:run fu Γ G (.prm g) ρ=g fu Γ G ρ:=(rfl)
theorem jct:ev Γ G (.enum a) ρ=Bo (ev Γ G a ρ):=(rfl)
theorem jcv:ev Γ G (.call f a) ρ=J8 Γ f (ev Γ G a ρ):=(rfl)
theorem jgz{f:Bf}:ev Γ G (.blt f a) ρ=qy f (ev Γ G a ρ):=(rfl)
theorem jgu{ts:List String}:ev Γ G (.isi a ts) ρ=Ny (ev Γ G a ρ) ts:=(rfl)
theorem j1w{is:List Nat}:ev Γ G (.comp is e a c) ρ=K3 is (ev Γ G a (frz a ρ)) (ev Γ G c) (ev Γ G e) (Jc a ρ) (frz a ρ):=(rfl)
theorem jgn:ev Γ G (.seq a) ρ=W5 (ev Γ G a ρ):=(rfl)
theorem j8l:ev Γ G (.range a) ρ=W8 (ev Γ G a ρ):=(rfl)
end
section
variable{x y:Rk}{d:D}{i j k:Int}{l m:List D}{b:Bool}{f g:En->Option W}{ρ:En}{xs:List Rk}{op:Bop}{cp:Cop}
theorem jdg:N5 (a4 (.val d))=a4 (.v (.e d)):=(rfl)
theorem jdh:N5 (a4 (.own l))=a4 (.v (.w l)):=(rfl)
theorem jco:ja7 (a4 d)=a4 (.v (.e d)):=(rfl)
theorem jg8:j85 (a4 i)=a4 (.v (.e (.int i))):=(rfl)
theorem jjm:blW (a4 b)=a4 (.v (.e (.bl b))):=(rfl)
theorem jhf:Qi op (a4 (.v (.e (.int i)))) (a4 (.v (.e (.int j))))=j85 (binI op i j):=by simp only[Qi,Uu,Rk.d,j85,rkW];cases binI op i j<;>rfl
theorem j9d:binI .add i j=a4 (i+j):=(rfl)
theorem j98:binI .sub i j=a4 (i-j):=(rfl)
theorem j9b(h:(-18446744073709551616<i/\i<18446744073709551616)\/(-18446744073709551616<j/\j<18446744073709551616)):binI .mul i j=a4 (i*j):=if_pos h
theorem j68(h:0<j/\j<18446744073709551616):binI .fdiv i j=a4 (i/j):=if_pos h
theorem j9c(h:0<j):binI .mod i j=a4 (i%j):=if_pos h
theorem j9a(h:0<=j/\j<=1000000/\i.natAbs<18446744073709551616):binI .shl i j=a4 (i*2^j.toNat):=if_pos h
theorem j99(h:0<=j):binI .shr i j=a4 (i/2^j.toNat):=if_pos h
theorem jhd(h:l.length+m.length<=1000000):Qi .add (a4 (.v (.o l))) (a4 (.v (.o m)))=a4 (.v (.o (l++m))):=by simp[Qi,Uu,Rk.d,Rk.sq,jj,J9 h,rkW]
theorem jhc(h:l.length+m.length<=1000000):Qi .add (a4 (.v (.e (.tup l)))) (a4 (.v (.e (.tup m))))=a4 (.v (.e (.tup (l++m)))):=by simp[Qi,Uu,Rk.d,Rk.sq,jj,J9 h,rkW]
theorem jie(h:-9223372036854775808<=k/\k<9223372036854775808)(h2:l.length*k.toNat<=1000000):Qi .mul (a4 (.v (.o l))) (a4 (.v (.e (.int k))))=a4 (.v (.o (ao k.toNat l).flatten)):=by simp only[Qi,Uu,Rk.d,Rk.sq,Rk.lw];rw[if_pos ⟨h.1,h.2,decide_eq_true (J9 h2)⟩];rfl
theorem jfd:Ip (a4 (.v (.e (.int i))))=a4 (.v (.e (.int (-i)))):=(rfl)
theorem jh6:Fp cp (a4 (.v x)) (a4 (.v y))=blW (vg cp x.d y.d):=(rfl)
theorem d_e:(Rk.e d).d=d:=(rfl)
theorem d_o:(Rk.o l).d=.lst l:=(rfl)
theorem d_w:(Rk.w l).d=.lst l:=(rfl)
theorem jh7:vg cp (.int i) (.int j)=cmpI cp i j:=by cases cp<;>rfl
theorem j8s{a b:Bool}:vg .ne (.bl a) (.bl b)=a4 (a != b):=(rfl)
theorem j8v{a b:Bool}:vg .eq (.bl a) (.bl b)=a4 (a==b):=(rfl)
theorem j01(h:(D.lst l).dep<=90)(h2:(D.lst m).dep<=90):vg .eq (.lst l) (.lst m)=a4 (qx l m):=by simp[vg,h,h2,Bp,Bq]
theorem j8t(h:(D.tup l).dep<=90)(h2:(D.tup m).dep<=90):vg .eq (.tup l) (.tup m)=a4 (qx l m):=by simp[vg,h,h2,Bp,Bq]
theorem j8r(h:D.depL l<=90)(h2:D.depL m<=90):vg .ne (.lst l) (.lst m)=a4 (!qx l m):=by simp[vg,h,h2]
theorem j8u{a b:af}:vg .eq (.str a) (.str b)=a4 (a==b):=by simp[vg,D.dep,Wm]
theorem j5s:vg .eq (.lst []) (.lst [])=a4 (qx [] []):=j01 (by simp[D.dep,D.depL]) (by simp[D.dep,D.depL])
theorem j5o(h:i<j):cmpI .lt i j=a4 a6:=by simp[cmpI,h]
theorem j5p(h:j<=i):cmpI .lt i j=a4 a5:=by simp[cmpI];omega
theorem Cg(h:j<i):cmpI .gt i j=a4 a6:=by simp[cmpI,h]
theorem Ci(h:i<=j):cmpI .gt i j=a4 a5:=by simp[cmpI];omega
theorem j5q(h:i=j):cmpI .eq i j=a4 a6:=by simp[cmpI,h]
theorem j5r(h:i≠j):cmpI .eq i j=a4 a5:=by simp[cmpI,h]
theorem j5m(h:i≠j):cmpI .ne i j=a4 a6:=by simp[cmpI,h]
theorem j5n(h:i=j):cmpI .ne i j=a4 a5:=by simp[cmpI,h]
theorem jcz:cmpI .gt i j=a4 (decide (j<i)):=(rfl)
theorem Fq:cmpI .eq i j=a4 (decide (i=j)):=(rfl)
theorem jg6:jg7 (a4 (.v x))=a4 (.v (.e (.bl x.d.isNon))):=(rfl)
theorem jau:truth (a4 (.v (.e (.bl b))))=a4 b:=(rfl)
theorem j6n:truth (a4 (.v (.t (.bl b))))=a4 b:=(rfl)
theorem jhj:j9g (a4 a5) f ρ=a4 (.v (.e (.bl a5))):=(rfl)
theorem jhi:j9g (a4 a6) f ρ=blW (truth (f ρ)):=(rfl)
theorem jip:orW (a4 a5) f ρ=blW (truth (f ρ)):=(rfl)
theorem jfa:jfb (a4 b)=a4 (.v (.e (.bl (!b)))):=(rfl)
theorem jcx:consW (a4 (.v x)) (a4 (.a xs))=a4 (.a (x::xs)):=(rfl)
theorem j3r(h:zu xs=a4 l)(hl:l.length<=1000000):Yl (a4 (.a xs))=a4 (.v (.e (.tup l))):=by simp[Yl,h,jj,J9 hl]
theorem jfk(h:zu xs=a4 l)(hl:l.length<=1000000):Ze (a4 (.a xs))=a4 (.v (.o l)):=by simp[Ze,h,jj,J9 hl]
theorem jdo:Yl (a4 (.a []))=a4 (.v (.e (.tup []))):=by simp[Yl,zu,jj]
theorem jdn{a:D}:Yl (a4 (.a [.e a]))=a4 (.v (.e (.tup [a]))):=j3r rfl (by simp)
theorem jdm{a b:D}:Yl (a4 (.a [.e a,.e b]))=a4 (.v (.e (.tup [a,b]))):=j3r rfl (by simp)
theorem jfo:Ze (a4 (.a []))=a4 (.v (.o [])):=by simp[Ze,zu,jj]
theorem jfn{a:D}:Ze (a4 (.a [.e a]))=a4 (.v (.o [a])):=jfk rfl (by simp)
noncomputable def Oz(o:Option D):Option W:=o.map λd=>.v (.e d)
theorem Kl:∀xs:List D,zu (xs.map Rk.e)=a4 xs
 |[]=>rfl
 |x::xs=>by rw[X3,zu,Kl xs];rfl
theorem j4z(xs:List D)(h:xs.length<=1000000):Ze (a4 (.a (xs.map Rk.e)))=a4 (.v (.o xs)):=by simp[Ze,Kl,jj,J9 h]
theorem jfm{a b c d e:D}:Ze (a4 (.a [.e a,.e b,.e c,.e d,.e e]))=a4 (.v (.o [a,b,c,d,e])):=j4z [a,b,c,d,e] (by simp)
theorem jfl{a b c d e f:D}:Ze (a4 (.a [.e a,.e b,.e c,.e d,.e e,.e f]))=a4 (.v (.o [a,b,c,d,e,f])):=j4z [a,b,c,d,e,f] (by simp)
theorem j1o:Oz (a4 d)=a4 (.v (.e d)):=(rfl)
theorem jg3:ixW (a4 (.v (.e (.lst l)))) (a4 (.v (.e (.int i))))=Oz (atI l i):=(rfl)
theorem jg2:ixW (a4 (.v (.e (.tup l)))) (a4 (.v (.e (.int i))))=Oz (atI l i):=(rfl)
theorem jj5:ixW (a4 (.v (.o l))) (a4 (.v (.e (.int i))))=Oz (atI l i):=(rfl)
theorem jj3:ixW (a4 (.v (.w l))) (a4 (.v (.e (.int i))))=Oz (atI l i):=(rfl)
noncomputable def jh9(c:Option Nat):Option W:=match c with
 |some c=>a4 (.v (.e (.str ⟨#[c]⟩)))
 |none=>a7
theorem jh8{c:Nat}:jh9 (a4 c)=a4 (.v (.e (.str ⟨#[c]⟩))):=(rfl)
theorem jj4{z:af}(h:z.length<=1000000):ixW (a4 (.v (.e (.str z)))) (a4 (.v (.e (.int i))))=jh9 (atI z.cps.toList i):=by simp only[ixW,Rk.sq,Rk.d,jj,J9 h,decide_true,if_true];cases atI z.cps.toList i<;>rfl
theorem jic{z:af}{lo hi:Option Int}(h:z.length<=1000000):slW (a4 (.v (.e (.str z)))) (a4 lo) (a4 hi)=a4 (.v (.e (.str (bc z lo hi)))):=by simp only[slW,Rk.sq,Rk.d,jj,J9 h,decide_true,if_true]
theorem j5t{y z:af}(h:y.length+z.length<=1000000):Qi .add (a4 (.v (.e (.str y)))) (a4 (.v (.e (.str z))))=a4 (.v (.e (.str (y++z)))):=by simp[Qi,Uu,Rk.d,jj,J9 h,rkW]
theorem jj0{z:af}(h:z.length<=1000000):qy .len (a4 (.a [.e (.str z)]))=a4 (.v (.e (.int z.length))):=by simp only[qy,Q6,Rk.d,jj,J9 h,decide_true,if_true];rfl
theorem jj6{k:Bool}:qy .int (a4 (.a [.e (.bl k)]))=a4 (.v (.e (.int (if k then 1 else 0)))):=(rfl)
theorem Bb{ns:List Int}:intsOf (ns.map D.int)=a4 ns:=by
 induction ns with
 |nil=>rfl
 |cons b bs ih=>rw[X3,intsOf,ih];rfl
theorem Oa{ns:List af}:strsOf (ns.map D.str)=a4 ns:=by
 induction ns with
 |nil=>rfl
 |cons b bs ih=>rw[X3,strsOf,ih];rfl
theorem jia{ns:List Int}:qy .sum (a4 (.a [.o (ns.map D.int)]))=a4 (.v (.e (.int ns.sum))):=by simp only[qy,Q6,Rk.d,Bb];rfl
theorem jdu{ns:List Int}:qy .sum (a4 (.a [.e (.lst (ns.map D.int))]))=a4 (.v (.e (.int ns.sum))):=by simp only[qy,Q6,Rk.d,Bb];rfl
theorem j1n{sep:af}{ts:List af}(h:eQ sep ts=a6):Rh sep (a4 (.v (.o (ts.map D.str))))=a4 (.v (.e (.str (dU sep ts)))):=by simp only[Rh,Rk.d,Oa,h,if_true]
theorem j8o:Bo (a4 (.v (.e (.lst l))))=a4 (.i (Q8 l)):=(rfl)
theorem j95:Q5 (a4 (.a []))=a4 a7:=(rfl)
theorem j94:Q5 (a4 (.a [.e (.int i)]))=a4 (a4 i):=(rfl)
variable{lo hi:Option Int}
theorem je0:slW (a4 (.v (.e (.lst l)))) (a4 lo) (a4 hi)=a4 (.v (.o (cutD l lo hi))):=(rfl)
variable{Γ:af->List D->Rc}{fn:af}
noncomputable def rcW(r:Rc):Option W:=match r with
 |.val d=>a4 (.v (.e d))
 |.fresh l=>a4 (.v (.o l))
 |_=>a7
theorem jih{x:af}:rcW (.err x)=a7:=(rfl)
theorem jif:rcW (.val d)=a4 (.v (.e d)):=(rfl)
theorem jig:rcW (.fresh l)=a4 (.v (.o l)):=(rfl)
theorem Zn(h:zu xs=a4 l):J8 Γ fn (a4 (.a xs))=rcW (Γ fn l):=by simp only[J8,h];cases Γ fn l<;>rfl
theorem jd3{a:D}:J8 Γ fn (a4 (.a [.e a]))=rcW (Γ fn [a]):=Zn rfl
theorem jd2{a b:D}:J8 Γ fn (a4 (.a [.e a,.e b]))=rcW (Γ fn [a,b]):=Zn rfl
theorem jd1{a b c:D}:J8 Γ fn (a4 (.a [.e a,.e b,.e c]))=rcW (Γ fn [a,b,c]):=Zn rfl
theorem j90:J8 Γ fn (a4 (.a [.o l]))=rcW (Γ fn [.lst l]):=Zn rfl
theorem j92{a:D}:J8 Γ fn (a4 (.a [.e a,.o l]))=rcW (Γ fn [a,.lst l]):=Zn rfl
noncomputable def rcT(r:Rc):Option W:=match r with
 |.val d=>a4 (.v (.t d))
 |.fresh l=>if qb l=a6 then a4 (.v (.o l))else a7
 |_=>a7
theorem j9r:rcT (.val d)=a4 (.v (.t d)):=(rfl)
theorem jii{l:List D}(h:qb l=a6):rcT (.fresh l)=a4 (.v (.o l)):=if_pos h
theorem U4(h:zu xs=a7):J8 Γ fn (a4 (.a xs))=rcT (Γ fn (xs.map Rk.d)):=by simp only[J8,h];cases Γ fn (xs.map Rk.d)<;>rfl
theorem j8y:J8 Γ fn (a4 (.a [.w l,.w m]))=rcT (Γ fn [.lst l,.lst m]):=U4 rfl
theorem j8z:J8 Γ fn (a4 (.a [.o l,.w m]))=rcT (Γ fn [.lst l,.lst m]):=U4 rfl
theorem j91:J8 Γ fn (a4 (.a [.e d,.w m]))=rcT (Γ fn [d,.lst m]):=U4 rfl
theorem j0a{a b:D}:J8 Γ fn (a4 (.a [.w m,.e a,.e b]))=rcT (Γ fn [.lst m,a,b]):=U4 rfl
theorem jj1:qy .len (a4 (.a [.e (.lst l)]))=a4 (.v (.e (.int l.length))):=(rfl)
theorem jiz:qy .len (a4 (.a [.e (.tup l)]))=a4 (.v (.e (.int l.length))):=(rfl)
theorem jiy:qy .len (a4 (.a [.w l]))=a4 (.v (.e (.int l.length))):=(rfl)
theorem jfh:qy .max (a4 (.a [.e (.int i),.e (.int j)]))=a4 (.v (.e (.int (if j>i then j else i)))):=(rfl)
theorem jfg:qy .min (a4 (.a [.e (.int i),.e (.int j)]))=a4 (.v (.e (.int (if j<i then j else i)))):=(rfl)
theorem jas:qy .tuple (a4 (.a [.o l]))=a4 (.v (.e (.tup l))):=(rfl)
theorem jar:qy .tuple (a4 (.a [.w l]))=a4 (.v (.e (.tup l))):=(rfl)
theorem jfr:qy .list (a4 (.a [.w l]))=a4 (.v (.o l)):=(rfl)
theorem jc2:qy .list (a4 (.a [.e (.tup l)]))=a4 (.v (.o l)):=(rfl)
theorem j0t{bs:List Bool}:boolsOf (bs.map D.bl)=a4 bs:=by
 induction bs with
 |nil=>rfl
 |cons b bs ih=>rw[X3,boolsOf,ih];rfl
theorem jjp{bs:List Bool}:qy .any (a4 (.a [.o (bs.map D.bl)]))=a4 (.v (.e (.bl (bs.any id)))):=by simp only[qy,Q6,Rk.d,j0t];rfl
theorem jg5{ts:List String}:Ny (a4 (.v x)) ts=blW (q9 x.d ts):=(rfl)
theorem jb7:W5 (a4 (.v (.e (.lst l))))=a4 (.i l):=(rfl)
theorem jb6:W5 (a4 (.v (.e (.tup l))))=a4 (.i l):=(rfl)
theorem je5:W5 (a4 (.v (.o l)))=a4 (.i l):=(rfl)
theorem j75(h:-4611686018427387904<=i/\i<4611686018427387904):W8 (a4 (.a [.e (.int i)]))=a4 (.i (upto 0 i.toNat)):=if_pos h
theorem jo{is:List Nat}{c e:En->Option W}{z:Bool}{ds l:List D}(hf:Bg is ρ=a6)(hl:ds.length<=1000000)(h:Jj (Qc is c e ρ) ds=a4 l)(hz:z=a5\/qb l=a6):K3 is (a4 (.i ds)) c e z ρ=a4 (.v (.o l)):=by simp only[K3,hf,jj,J9 hl,decide_true,and_self,if_true,h,jN];rcases hz with z|z<;>simp[z]
theorem qg{i:Nat}{c e:En->Option W}(hc:c (ρ.set i (.val d))=a4 (.a [])){d':D}(he:e (ρ.set i (.val d))=a4 (.v (.e d'))):Qc [i] c e ρ d=a4 (a4 d'):=by simp[Qc,qz,hc,he,Rk.st]
theorem Qf{i:Nat}{c e:En->Option W}{b:Bool}{d':D}(hc:c (ρ.set i (.val d))=a4 (.a [.e (.bl b)]))(he:b=a6->e (ρ.set i (.val d))=a4 (.v (.e d'))):Qc [i] c e ρ d=a4 (if b=a6 then a4 d' else a7):=by
 cases b with
 |true=>simp[Qc,qz,hc,he rfl,Rk.st,Rk.d]
 |false=>simp[Qc,qz,hc,Rk.d]
theorem jaq{i j:Nat}{c e:En->Option W}{a b:D}(hc:c ((ρ.set i (.val a)).set j (.val b))=a4 (.a [])){d':D}(he:e ((ρ.set i (.val a)).set j (.val b))=a4 (.v (.e d'))):Qc [i,j] c e ρ (.tup [a,b])=a4 (a4 d'):=by simp[Qc,qz,hc,he,Rk.st]
theorem V3{α:Type}{xs:List α}{n:Nat}{x:α}(h:xs[n]?=a4 x):atI xs (n:Int)=a4 x:=Rj h
end
section
theorem j7y:q9 .non ["list","tuple"]=a4 a5:=by simp[q9,qt,D.ty]
theorem j81 {b:Bool}:q9 (.bl b) ["list","tuple"]=a4 a5:=by simp[q9,qt,D.ty]
theorem jce {b:Bool}:q9 (.bl b) ["bool"]=a4 a6:=by simp[q9,qt,D.ty]
theorem jc9 {b:Bool}:q9 (.bl b) ["str"]=a4 a5:=by simp[q9,qt,D.ty]
theorem j84 {b:Bool}:q9 (.bl b) ["int","str"]=a4 a6:=by simp[q9,qt,D.ty]
theorem j80 {i:Int}:q9 (.int i) ["list","tuple"]=a4 a5:=by simp[q9,qt,D.ty]
theorem jcd {i:Int}:q9 (.int i) ["bool"]=a4 a5:=by simp[q9,qt,D.ty]
theorem jc8 {i:Int}:q9 (.int i) ["str"]=a4 a5:=by simp[q9,qt,D.ty]
theorem j83 {i:Int}:q9 (.int i) ["int","str"]=a4 a6:=by simp[q9,qt,D.ty]
theorem j7x {z:af}:q9 (.str z) ["list","tuple"]=a4 a5:=by simp[q9,qt,D.ty]
theorem jcc {z:af}:q9 (.str z) ["bool"]=a4 a5:=by simp[q9,qt,D.ty]
theorem jc7 {z:af}:q9 (.str z) ["str"]=a4 a6:=by simp[q9,qt,D.ty]
theorem j82 {z:af}:q9 (.str z) ["int","str"]=a4 a6:=by simp[q9,qt,D.ty]
theorem j7w {l:List D}:q9 (.tup l) ["list","tuple"]=a4 a6:=by simp[q9,qt,D.ty]
theorem jca {l:List D}:q9 (.tup l) ["list"]=a4 a5:=by simp[q9,qt,D.ty]
theorem j7z {l:List D}:q9 (.lst l) ["list","tuple"]=a4 a6:=by simp[q9,qt,D.ty]
theorem jcb {l:List D}:q9 (.lst l) ["list"]=a4 a6:=by simp[q9,qt,D.ty]
theorem jcg:D.isNon .non=a6:=(rfl)
theorem jci{b:Bool}:D.isNon (.bl b)=a5:=(rfl)
theorem jch{i:Int}:D.isNon (.int i)=a5:=(rfl)
theorem jcf{z:af}:D.isNon (.str z)=a5:=(rfl)
end
section
noncomputable abbrev vd(r:List Int):D:=.tup (r.map .int)
noncomputable abbrev Jw(rs:List (List Int)):List D:=rs.map vd
theorem ji{α:Type}{f:D->Option (Option D)}{h g:α->D}{L:List α}(q:∀x∈L,f (h x)=a4 (a4 (g x))):Jj f (L.map h)=a4 (L.map g):=by
 induction L with
 |nil=>rfl
 |cons x L ih=>rw[X3,Jj,q x (xq ..),ih λy hy=>q y (xg _ hy)];rfl
theorem Jp{α:Type}{f:D->Option (Option D)}{h g:α->D}{p:α->Bool}{L:List α}(q:∀x∈L,f (h x)=a4 (if p x=a6 then a4 (g x)else a7)):Jj f (L.map h)=a4 ((L.filter p).map g):=by
 induction L with
 |nil=>rfl
 |cons x L ih =>
  rw[X3,Jj,q x (xq ..),ih λy hy=>q y (xg _ hy)];by_cases z:p x=a6
  .rw[if_pos z,gr z];rfl
  .rw[if_neg z,gu z]
theorem Uq{f:D->Option (Option D)}:∀{ds:List D},(∀d∈ds,f d=a4 a7)->Jj f ds=a4 []
 |[],_=>rfl
 |d::ds,h=>by rw[Jj,h d (xq ..),Uq λd hd=>h d (xg _ hd)]
theorem take_snoc{α:Type}{l:List α}{i:Nat}{x:α}(h:l[i]?=a4 x):l.take (i+1)=l.take i++[x]:=by rw[cc,h];rfl
theorem Mq{α β:Type}{f:α->β}{l:List α}{i:Nat}{y:β}(h:(l.map f)[i]?=a4 y):∃x,l[i]?=a4 x/\y=f x:=by
 rw[xx]at h;cases e:l[i]? with
 |none=>rw[e]at h;cases h
 |some x=>rw[e]at h;cases h;exact⟨x,rfl,rfl⟩
theorem j7v{α:Type}{c:Prop}[Decidable c]{x:α}:(if c then x else x)=x:=by split<;>rfl
theorem j52{l:List D}(h:J7 (.tup l)):l.length<=1000/\Qa l:=by simpa [J7]using h
theorem j54{l:List D}(h:J7 (.lst l)):l.length<=1000/\Qa l:=by simpa [J7]using h
end
section
theorem Dw:∀(a b:List Int),qx (a.map .int) (b.map .int)=decide (a=b)
 |[],[]=>by simp[Q3,vq,Zj,Zk]
 |[],_::_=>by simp[Q3,vq,Zj,Zk]
 |_::_,[]=>by simp[Q3,vq,Zj,Zk]
 |x::a,y::b=>by rw[X3,X3,vq,Dw a b];by_cases h1:x=y<;>by_cases h2:a=b<;>simp[j5j,h1,h2]
end
section
variable{Γ:af->List D->Rc}{G:af->Option D}{ρ:En}{a:Ex}
theorem jgm:True:=trivial
end
end L2
end
section
namespace L2
open PySem PySem.Spec PyProof.Rows
noncomputable def j8e(b:Option Bool)(w:Option W)(gs:List D)(f0:Option (List D))(f1:List D->Option (List D)):Option (List D):=match b with
 |some a5=>f0
 |some a6=>match w with
  |some (.v (.o l))=>if gs.length<ak then f1 l else a7
  |_=>a7
 |none=>a7
noncomputable def Vr(g t:Nat)(fc:En->Option Bool)(fe:En->Option W):List D->En->List D->Option (List D)
 |[],_,gs=>a4 gs
 |d::ds,ρ,gs=>j8e (fc (ρ.set t (.val d))) (fe (ρ.set t (.val d))) gs (Vr g t fc fe ds (ρ.set t (.val d)) gs) λl=>Vr g t fc fe ds ((ρ.set t (.val d)).set g (.own (gs++[.lst l]))) (gs++[.lst l])
def M7(ds l:List D):k7x->(af->Option aa)->Sp:=spG λds' l'=>ds'=ds/\l'=l
noncomputable def arg1:En->List D
 |Sv.val d::_=>[d]
 |_=>[]
noncomputable def j8d(a:List D)(r:Option (List D)):So:=match r with
 |some l=>.ret (.hnd (M7 a l))
 |none=>.no
noncomputable def j8c(w:Option W)(f:List D->Option (List D)):Option (List D):=match w with
 |some (.i ds)=>f ds
 |_=>a7
noncomputable def Uj(g t:Nat)(it c e:Ex):Nat->(af->List D->Rc)->(af->Option D)->En->So:=λ_ Γ G ρ =>if g<ρ.length/\g≠t then j8d (arg1 ρ) (j8c (ev Γ G it (ρ.set g (.own []))) λds=>Vr g t (λρ=>truth (ev Γ G c ρ)) (λρ=>ev Γ G e ρ) ds (ρ.set g (.own [])) [])else .no
structure GrT(X:Cx)(g t:Nat)(it' c' e':Ex)(sts:List aJ):Prop where
 ex:∃(ng nt:af)(it c e:ai)(p1 p2 p3 p4 p5 p6 p7 p8 p9 p10 p11 p12:aK),sts=[.Assign [.Name ng p1] (.List [] p2) p3,.For (.Name nt p4) it [.If c [.Expr (.Call (.Attribute (.Name ng p5) "append" p6) [e] [] p7) p8] [] p9] [] p10,.Return (a4 (.Name ng p11)) p12] /\
  X.calm=a6/\X.N[g]?=a4 ng/\X.N[t]?=a4 nt/\Loc X.env.scope ng/\Loc X.env.scope nt/\(X.fn ng=a6\/X.env.scope.names.lookup ng=a4 .local)/\(X.fn nt=a6\/X.env.scope.names.lookup nt=a4 .local)/\(ng==k81)=a5/\(ng==k82)=a5 /\
  aP (.List [] p2) (a4 (.Name ng p1)) p3.line X.env=pure a5/\(∀x,aH it X.env x=pure x)/\a8 [e] X.env=[(a5,az e X.env)]/\(p6.endLine==p7.line)=a6/\aM (.Name ng p5) "append" X.env (az (.Name ng p5) X.env)=az (.Name ng p5) X.env /\
  ((aO p7 (a8 [e] X.env)).all (λx=>!x.1)&&(bo p7 (aT [] X.env)).all (λx=>x.1.isSome)&&decide (([e]:List ai).length+([]:List aR).length+(if ([]:List aR).isEmpty then 0 else 1)<30))=a6 /\
  aP (.Call (.Attribute (.Name ng p5) "append" p6) [e] [] p7) a7 p8.line X.env=pure a5/\Tr X it' (.i (.Name nt p4) it)/\Tr X c' (.b c)/\Tr X e' (.e e)
def TrG(P:ar)(w:aA)(K:k7x)(mg:k80)(base:aE)(x:af)(N:List af)(st:aJ)(g t:Nat)(it' c' e':Ex):Prop :=
 ∀(f:ae)(cdv:aa)(A:aD)(outer:List cu)(s:ah)(H:Hp)(E:XK) (xe:k7y),GrT ((jx CX0 P w K mg base N x (j0 st) f cdv A outer s H E).wish xe) g t it' c' e' (jb st)
theorem j1t{g t:Nat}{it c e:Ex}{fu:Nat}{Γ:af->List D->Rc}{G:af->Option D}{ρ:En}:(∃ds l,g<ρ.length/\g≠t/\ev Γ G it (ρ.set g (.own []))=a4 (.i ds)/\Vr g t (λρ=>truth (ev Γ G c ρ)) (λρ=>ev Γ G e ρ) ds (ρ.set g (.own [])) []=a4 l/\Uj g t it c e fu Γ G ρ=.ret (.hnd (M7 (arg1 ρ) l)))\/Uj g t it c e fu Γ G ρ=.no:=by
 unfold Uj;by_cases h:g<ρ.length/\g≠t
 .rw[if_pos h];cases z:ev Γ G it (ρ.set g (.own [])) with
  |none=>exact .inr rfl
  |some w =>
   cases w with
   |i ds =>
    simp only[j8c];cases y:Vr g t (λρ=>truth (ev Γ G c ρ)) (λρ=>ev Γ G e ρ) ds (ρ.set g (.own [])) [] with
    |none=>exact .inr rfl
    |some l=>exact .inl ⟨ds,l,h.1,h.2,rfl,y,rfl⟩
   |v _=>exact .inr rfl
   |a _=>exact .inr rfl
 .rw[if_neg h];exact .inr rfl
section
variable{P:ar}{w:aA}{K:k7x}{mg:k80}{base:aE}{h:aE}{x gn:af}{st:aJ}{N:List af}{F:Fi}{g t:Nat}{it' c' e':Ex}
theorem jfq(hx:x=gq gn)(L:Lf K gn st)(X:K.In h)(Gn:h.Ns aq mg)(tr:TrG P w K mg base gn N st g t it' c' e')(pn:af)(sc:FnScope N [pn] (j0 st))(hF:F.body=.seq (.prm (Uj g t it' c' e')) .nop)(hl:F.lam=a5)(h1:F.n=1)(h2:N.length=F.nn)
  (hb:∀(kV doc pm:aa)(an:Option ae)(cdv ct:aa)(us:List aa),us.length=[pn].length->bZ (iw gn gn (ql st) (jb st) (j0 st) .none kV doc pm an cdv ct) ⟨us,[]⟩=pure ([pn].zip us)):LkF P w K mg base x F:=by
 obtain⟨f,oc,od,kV,dc,pm,an,cd,ct,sl,a,l,c,k⟩:=L;have hfun:=Yy l c k;have hm:=cV X Gn a;have rn:∀fu Γ G ds,run fu Γ G F.body (enter F ds)=(match Uj g t it' c' e' fu Γ G (enter F ds)with|.next ρ'=>.next ρ'|o=>o):=λfu Γ G ds=>by rw[hF];rfl
 refine⟨λ_=>.inr (.inr (.inr ⟨gn,f,_,[pn],hx,hm,hfun.kp,hfun.binds hb,λfu Γ G ds=>?_,λfu Γ G n h12 tb gok ds sp hlen hfin=>?_⟩)),λz=>by rw[hl]at z;cases z⟩
 .rw[rn];rcases j1t (g:=g) (t:=t) (it:=it') (c:=c') (e:=e') (fu:=fu) (Γ:=Γ) (G:=G) (ρ:=enter F ds)with ⟨_,_,_,_,_,_,e⟩|e<;>rw[e]<;>trivial
 .rw[rn]at hfin;rcases j1t (g:=g) (t:=t) (it:=it') (c:=c') (e:=e') (fu:=fu) (Γ:=Γ) (G:=G) (ρ:=enter F ds)with ⟨ds0,l0,hg0,hgt,hit,hgr,e⟩|e
  .rw[e]at hfin;have es:sp=M7 (arg1 (enter F ds)) l0:=by have:Rc.hnd (M7 (arg1 (enter F ds)) l0)=Rc.hnd sp:=hfin;injection this with this;exact this.symm
   rw[h1]at hlen;obtain⟨d,rfl⟩:∃d,ds=[d]:=by
    match ds,hlen with
    |[d],_=>exact⟨d,rfl⟩
   have ea:arg1 (enter F [d])=[d]:=rfl;rw[es,ea];refine jlj (n:=n) hfun sc (λds' l' hh=>by rw[hh.1];rfl) λcdv A outer s H E hcv hr ds' l' ⟨e1,e2⟩ σ H1 En R q=>?_;subst e1 e2;have ab:j6 (jm N [d])=enter F [d]:=Vd (by rw[h1];rfl) h2;have ck:=Q4 tb (X:=(jx CX0 P w K mg base N gn (j0 st) f cdv A outer s H E).nox) rfl rfl rfl rfl rfl h12 hr sc.nd Pq (Zv tb hm hcv rfl rfl);have gk:Gok (jx CX0 P w K mg base N gn (j0 st) f cdv A outer s H E).nox Γ:=gok rfl rfl rfl rfl rfl hr;obtain⟨ng,nt,it,c,e,p1,p2,p3,p4,p5,p6,p7,p8,p9,p10,p11,p12,et,hc,hG,hT,lG,lT,fG,fT,dG,cG,s1,hf,hst,hline,hbase,hfew,hs2,tI,tC,tE⟩:=(tr f cdv A outer s H E (jx CX0 P w K mg base N gn (j0 st) f cdv A outer s H E).nox.xe).ex;rw[et];have ab2:∀a,j6 ((jm N [d]).set g (.own a []))=(enter F [d]).set g (.own []):=λa=>by rw[jd,ab];rfl
   have hg1:g<(jm N [d]).length:=by have:(j6 (jm N [d])).length=(jm N [d]).length:=xj ..;rw[<-this,ab];exact hg0
   refine j8b (ds:=ds0) (λi ρ' gs=>(j6 ρ')[g]?=a4 (.own gs)/\Vr g t (λρ=>truth (ev Γ G c' ρ)) (λρ=>ev Γ G e' ρ) (ds0.drop i) (j6 ρ') gs=a4 l') hg1 hgt (Js _ _) (λa=>sound tI ck gk _ ds0 (by rw[ab2];exact hit)) (λa=>⟨by rw[ab2];exact J1 hg0,by rw[ab2,cg];exact hgr⟩) (λi d' ρ' gs hd ⟨w0,w⟩=>?_) hc Pq sc.nd hG hT lG lT fG fT dG cG s1 hf hst hline hbase hfew hs2 σ H1 En R λρ' gs a xs H' ⟨_,w⟩ gg na ma en inn=>?_
   .obtain⟨hlt,ed⟩:=Xb.mp hd;rw[d6 hlt,ed,Vr]at w;have ab3:j6 (ρ'.set t (.val d'))=(j6 ρ').set t (.val d'):=jd;have wg:(j6 (ρ'.set t (.val d')))[g]?=a4 (.own gs):=by rw[ab3,qi (bF hgt)];exact w0
    rw[<-ab3]at w;unfold j8e at w;split at w
    .rename_i hb;exact⟨a5,sound tC ck gk _ _ hb,λ_=>⟨wg,w⟩,λz=>by cases z⟩
    .rename_i hb;refine⟨a6,sound tC ck gk _ _ hb,(λz=>by cases z),λ_=>?_⟩;split at w
     .rename_i l' hl';split at w
      .rename_i hz;refine⟨l',sound tE ck gk _ _ hl',hz,λa=>?_⟩;have ab4:j6 ((ρ'.set t (.val d')).set g (.own a (gs++[.lst l'])))=(j6 (ρ'.set t (.val d'))).set g (.own (gs++[.lst l'])):=jd;refine⟨by rw[ab4];exact J1 (Xb.mp wg).1,by rw[ab4];exact w⟩
      .cases w
     .cases w
    .cases w
   .rw[iP]at w;cases w;exact q a xs H' gg na ma en inn
  .rw[e]at hfin;cases hfin
end
open Classical in
noncomputable def Ft(f t:Nat)(gn:af)(es ct:Ex):Nat->(af->List D->Rc)->(af->Option D)->En->So:=λ_ Γ G ρ =>if ∃rs ds l,ev Γ G es ρ=a4 (.a rs)/\zu rs=a4 ds/\Γ (gq gn) ds=.hnd (M7 ds l)/\f<ρ.length/\t<ρ.length/\f≠t/\truth (ev Γ G ct (ρ.set f (.own l)))=a4 a5 then .next ((ρ.set f .un).set t .un)else .no
section
variable{X:Cx}
theorem Ts.clrs {f t:Nat} {gn nf nt:af} {es' ct':Ex} {b:Sx} {a0 ct:ai} {es:List ai} {sa rest:List aJ} {p1 p2 p3 p4 p5 p6 p7 p8 p9 p10 p11 p12:aK} (hq:X.calm=a6) (hg:Gl X gn) (hdb:(gn==k81)=a5)
  (he:a8 (a0::es) X.env=(a5,az a0 X.env)::a8 es X.env) (hpl:(aO p2 (a8 es X.env)).any (·.1)=a5) (hF:X.N[f]?=a4 nf) (hT:X.N[t]?=a4 nt) (lF:Loc X.env.scope nf) (lT:Loc X.env.scope nt)
  (fF:X.fn nf=a6\/X.env.scope.names.lookup nf=a4 .local) (fT:X.fn nt=a6\/X.env.scope.names.lookup nt=a4 .local) (dF:(nf==k81)=a5) (cF:(nf==k82)=a5) (dT:(nt==k81)=a5) (cT:(nt==k82)=a5)
  (s1:aP (.Call (.Name gn p1) (a0::es) [] p2) (a4 (.Name nf p3)) p4.line X.env=pure a5) (hf:∀x,aH (.Name nf p6) X.env x=pure x)
  (hbase:aM (.Name nt p8) "clear" X.env (az (.Name nt p8) X.env)=az (.Name nt p8) X.env) (hline:(p9.endLine==p10.line)=a6) (s2:aP (.Call (.Attribute (.Name nt p8) "clear" p9) [] [] p10) a7 p11.line X.env=pure a5)
  (tE:Tr X es' (.a (a0::es))) (tC:Tr X ct' (.b ct)) (tb:Ts X b (.ss rest)) :
  Ts X (.seq (.prm (Ft f t gn es' ct')) b) (.ss (.Assign [.Name nf p3] (.Call (.Name gn p1) (a0::es) [] p2) p4::.If ct sa [] p5::.For (.Name nt p7) (.Name nf p6) [.Expr (.Call (.Attribute (.Name nt p8) "clear" p9) [] [] p10) p11] [] p12::rest)):=by
 refine Ts.prm (λfu Γ G c g ρ P N h hr=>?_) tb;unfold Ft at h;split at h
 .rename_i hx;obtain⟨rs,ds,l,h1,h2,h3,h4,h5,h6,h7⟩:=hx;have q:=g (gq gn) ds;rw[h3]at q;obtain⟨k,fa,fd,ps,F,hrm,hm,hk,hb⟩:=(q gn rfl).ex;have len:(j6 ρ).length=ρ.length:=xj ..;rw[len]at h4 h5;exact DSs.clrs F (hrm.mono (Pb _)) hm hk hb hg hdb he hpl ((sound tE c g ρ rs h1).toA h2) ⟨rfl,rfl⟩ (λa=>sound tC c g _ _ (by rw[jd];exact h7)) h6 (hr _ (h _ (by rw[jd,jd];rfl))) hq c.po c.nd hF hT lF lT fF fT dF cF dT cT h4 h5 s1 hf hbase hline s2
 .exact h.elim
end
end L2
end
section
open PySem (Str)
open L2
noncomputable def jjb:=(k7w (k7w (k7w (k7w (k7w (k7w (k7w @Nj (k7w @jgm @Za)) (k7w @j17 (k7w @jbc @j73))) (k7w (k7w @jba (k7w @j71 @j18)) (k7w @Kv (k7w @j19 @jbe)))) (k7w (k7w (k7w @jbb (k7w @jbd @j72)) (k7w @j57 (k7w @j74 @jgl))) (k7w (k7w @jgy (k7w @jha @Ni)) (k7w @jfh (k7w @jgk @jgo))))) (k7w (k7w (k7w (k7w @Ij (k7w @jgw @j1d)) (k7w @jbt (k7w @je2 @jgh))) (k7w (k7w @Ri (k7w @j48 @jef)) (k7w @j70 (k7w @j6u @jcp)))) (k7w (k7w (k7w @jih (k7w @V0 @Ma)) (k7w @ja5 (k7w @ja6 @j43))) (k7w (k7w @je3 (k7w @jee @j4a)) (k7w @jbh (k7w @jbg @jff)))))) (k7w (k7w (k7w (k7w (k7w @jgg (k7w @j1k @jhh)) (k7w @j6a (k7w @jgf @Fg))) (k7w (k7w @j8i (k7w @jgt @jgi)) (k7w @jcs (k7w @jh0 @jgr)))) (k7w (k7w (k7w @jgx (k7w @jgv @jh1)) (k7w @jjg (k7w @jgp @jgq))) (k7w (k7w @jcu (k7w @jgj @jgs)) (k7w @jjh (k7w @jjf @jcv))))) (k7w (k7w (k7w (k7w @jgz (k7w @jgu @j1w)) (k7w @jgn (k7w @j8l @jdg))) (k7w (k7w @jdh (k7w @jco @jg8)) (k7w @jjm (k7w @jhf @j9d)))) (k7w (k7w (k7w @j98 (k7w @j9b @j68)) (k7w @j9c (k7w @j9a @j99))) (k7w (k7w @jhd (k7w @jhc @jie)) (k7w (k7w @jfd @jh6) (k7w @d_e @d_o))))))) (k7w (k7w (k7w (k7w (k7w (k7w @d_w (k7w @jh7 @j8s)) (k7w @j8v (k7w @j8u @j5s))) (k7w (k7w @j7v (k7w @j5o @j5p)) (k7w @Cg (k7w @Ci @j5q)))) (k7w (k7w (k7w @j5r (k7w @j5m @j5n)) (k7w @jg6 (k7w @jau @j6n))) (k7w (k7w @jhj (k7w @jhi @jip)) (k7w @jfa (k7w @jcx @jdo))))) (k7w (k7w (k7w (k7w @jdn (k7w @jdm @jfo)) (k7w @jfn (k7w @jfm @jfl))) (k7w (k7w @j1o (k7w @jg3 @jg2)) (k7w @jj5 (k7w @jj3 @j95)))) (k7w (k7w (k7w @j94 (k7w @je0 @jif)) (k7w @jig (k7w @j9r @jd3))) (k7w (k7w @jd2 (k7w @jd1 @j90)) (k7w (k7w @j92 @j8y) (k7w @j8z @j91)))))) (k7w (k7w (k7w (k7w (k7w @jj1 (k7w @jiz @jiy)) (k7w @jfg (k7w @jas @jar))) (k7w (k7w @jfr (k7w @jc2 @jg5)) (k7w @jb7 (k7w @jb6 @je5)))) (k7w (k7w (k7w @j75 (k7w @jcr @jct)) (k7w @jjp (k7w @jb9 @jdv))) (k7w (k7w @jdj (k7w @jh8 @jj4)) (k7w @jic (k7w @j5t @jj0))))) (k7w (k7w (k7w (k7w @jj6 (k7w @jia @jdu)) (k7w @j8o (k7w @j7y @j81))) (k7w (k7w @jce (k7w @jc9 @j84)) (k7w @j80 (k7w @jcd @jc8)))) (k7w (k7w (k7w @j83 (k7w @j7x @jcc)) (k7w @jc7 (k7w @j82 @j7w))) (k7w (k7w @jca (k7w @j7z @jcb)) (k7w (k7w @jcg @jci) (k7w @jch @jcf))))))))
local macro_rules | `(tactic| walk_at "go")=>`(tactic| try simp (disch:=first | omega | assumption | (simp only [List.length_map,List.length_append,List.length_cons,List.length_nil,List.length_take,List.length_drop,List.length_reverse] <;> omega)) only [jjb,Q3,beq_self_eq_true,frz,Jc,j8f,List.getElem?_cons_zero,List.getElem?_cons_succ,List.set_cons_zero,List.set_cons_succ,List.map_cons,List.map_nil,List.cons_append,List.nil_append,List.replicate,List.length_map,List.length_append,List.length_cons,List.length_nil,Bool.not_true,Bool.not_false,bne_self_eq_false,Nat.reduceSub,Nat.reduceAdd,Int.reduceToNat,Int.reducePow])
local macro_rules | `(tactic| ext)=>`(tactic| walk_at "go")
local macro_rules | `(tactic| erw [$r])=>`(tactic| (rw [$r]; ext)) | `(tactic| erw [$r,$rs,*])=>`(tactic| (rw [$r]; ext; erw [$rs,*]))
namespace KL
noncomputable def vz:Sx:=(.seq (.set 1 (.lst (.cons (.tup .nil) .nil))) (.seq (.loop [2] (.seq (.var 0)) (.seq (.set 3 (.lst .nil)) (.seq (.loop [4] (.seq (.var 1)) (.seq (.ext 3 (.comp [5] (.bin .add (.var 4) (.tup (.cons (.var 5) .nil))) (.seq (.var 2)) .nil)) .nop)) (.seq (.mov 1 3) .nop)))) (.seq (.retV 1) .nop)))
noncomputable def fP_all_choices:Fi:=⟨1,6,vz,a5⟩
noncomputable def Vj:Sx:=(.seq (.ife (.cmp .lt (.var 1) (.blt .len (.cons (.var 0) .nil))) (.seq (.ret (.ix (.var 0) (.var 1))) .nop) .nop) (.seq (.set 2 (.bin .add (.lit (.int 70001)) (.bin .mul (.bin .mul (.lit (.int 911)) (.var 1)) (.var 1)))) (.seq (.ife (.cmp .gt (.blt .len (.cons (.var 0) .nil)) (.lit (.int 0))) (.seq (.set 2 (.bin .add (.var 2) (.bin .mul (.bin .mod (.ix (.var 0) (.lit (.int 0))) (.lit (.int 9973))) (.bin .add (.bin .mul (.lit (.int 3)) (.var 1)) (.lit (.int 1)))))) .nop) .nop) (.seq (.retV 2) .nop))))
noncomputable def fL_cell:Fi:=⟨2,3,Vj,a5⟩
noncomputable def Zo:Sx:=(.seq (.ife (.isi (.var 1) ["list","tuple"]) (.seq (.ife (.or (.cmp .ne (.isi (.var 0) ["list"]) (.isi (.var 1) ["list"])) (.not (.isi (.var 0) ["list","tuple"]))) (.seq (.ret (.lit (.bl a5))) .nop) .nop) (.seq (.set 2 (.comp [3] (.var 3) (.range (.cons (.blt .min (.cons (.blt .len (.cons (.var 0) .nil)) (.cons (.blt .len (.cons (.var 1) .nil)) .nil))) .nil)) (.cons (.not (.call "_law_same" (.cons (.ix (.var 0) (.var 3)) (.cons (.ix (.var 1) (.var 3)) .nil)))) .nil))) (.seq (.ret (.and (.cmp .eq (.blt .len (.cons (.var 0) .nil)) (.blt .len (.cons (.var 1) .nil))) (.cmp .eq (.var 2) (.lst .nil)))) .nop))) .nop) (.seq (.ife (.isN (.var 1)) (.seq (.ret (.isN (.var 0))) .nop) .nop) (.seq (.ife (.or (.cmp .ne (.isi (.var 0) ["bool"]) (.isi (.var 1) ["bool"])) (.cmp .ne (.isi (.var 0) ["str"]) (.isi (.var 1) ["str"]))) (.seq (.ret (.lit (.bl a5))) .nop) .nop) (.seq (.ret (.and (.isi (.var 0) ["int","str"]) (.cmp .eq (.var 0) (.var 1)))) .nop))))
noncomputable def fL_same:Fi:=⟨2,4,Zo,a5⟩
section
variable{G:af->Option D}{T:af->Option Fi}
noncomputable def ju(ns:List Int)(k:Nat):Int:=match ns[k]? with
 |some v=>v
 |none=>match ns with
  |[]=>70001+911*k*k
  |v::_=>70001+911*k*k+v%9973*(3*k+1)
theorem V1 {fu n:Nat} (hT:T "_law_cell" = a4 fL_cell) {ns:List Int} {k:Nat} (hk:k<=100):evP fu G T (n+1) "_law_cell" [.lst (ns.map .int),.int k]=.val (.int (ju ns k)):=by
 rw[jr (F:=fL_cell) hT rfl];simp only[fL_cell,Vj,enter];by_cases h:k<ns.length
 .have e:atI (ns.map D.int) (k:Int)=a4 (.int ns[k]):=V3 (by simp[h]);have q:ju ns k=ns[k]:=by simp[ju,h]
  ext;simp only[e,j1o,j4a,j1d,Ma,Fg,q]
 .cases ns with
  |nil =>ext;simp[ju]
  |cons v r =>
   have e:atI (D.int v::r.map D.int) 0=a4 (.int v):=by simp[atI,ixN]
   have q:ju (v::r) k=70001+911*k*k+v%9973*(3*k+1):=by unfold ju;rw[Xc nofun]
   rw[X3];rw[X4]at h;ext;simp only[e];ext;rw[q]
theorem j6r(f:List Int):step [] f=[]:=rfl
theorem j3z(acc:List (List Int))(a f:List Int):step (acc++[a]) f=step acc f++f.map λx=>a++[x]:=by simp[step]
theorem j03(fs:List (List Int))(f:List Int):zp (fs++[f])=step (zp fs) f:=by simp[zp]
theorem Kh(acc:List (List Int)){f:List Int}{k:Nat}(h:f.length<=k):(step acc f).length<=acc.length*k:=by
 unfold step;induction acc with
 |nil=>simp
 |cons a acc ih =>rw[List.flatMap_cons,Xe,xj,X4,kC];omega
theorem j0p{fs:List (List Int)}{k:Nat}(h:∀f∈fs,f.length<=k):(zp fs).length<=k^fs.length:=by
 have go:∀(fs acc:List (List Int)),(∀f∈fs,f.length<=k)->(fs.foldl step acc).length<=acc.length*k^fs.length:=by
  intro fs;induction fs with
  |nil=>intro acc _;simp
  |cons f fs ih =>intro acc hf;have h1:=ih (step acc f) λg hg=>hf g (xg _ hg);have h2:=Kh acc (hf f (xq ..));rw[bV,X4,gU,eX (k^fs.length) k,<-Nat.mul_assoc];exact Xf h1 (Nat.mul_le_mul_right _ h2)
 have:=go fs [[]] h;simpa [zp]using this
theorem j04{fs:List (List Int)}{r:List Int}(h:r∈zp fs):r.length=fs.length:=by
 have go:∀(fs acc:List (List Int)) (k:Nat),(∀a∈acc,a.length=k)->∀r∈fs.foldl step acc,r.length=k+fs.length:=by
  intro fs;induction fs with
  |nil=>intro acc k ha r hr;exact ha r hr
  |cons f fs ih =>
   intro acc k ha r hr;have:=ih (step acc f) (k+1) (λa hm=>by
    obtain⟨b,hb,hx⟩:=List.mem_flatMap.mp hm
    obtain⟨x,_,rfl⟩:=Xh.mp hx
    rw[Xe,ha b hb];rfl) r hr
   rw[this,X4];omega
 have:=go fs [[]] 0 (λa ha=>by rw[X6.mp ha];rfl) r h;omega
theorem j02 {fu n:Nat} (hT:T "all_choices" = a4 fP_all_choices) {fs:List (List Int)} (hf:∀f∈fs,f.length<=3) (hl:fs.length<=6):evP fu G T (n+1) "all_choices" [.lst (Jw fs)]=.fresh (Jw (zp fs)):=by
 rw[jr (F:=fP_all_choices) hT rfl];simp only[fP_all_choices,vz,enter];ext;have small:∀i,(zp (fs.take i)).length<=729:=λi=>by
  have h:=j0p (fs:=fs.take i) (k:=3) λf hm=>hf f (bK hm);have h2:(fs.take i).length<=6:=by rw[Xm];omega
  exact Xf h (bL (by decide) h2)
 refine Vm (λi ρ=>∃s2 s4,ρ=[.val (.lst (Jw fs)),.own (Jw (zp (fs.take i))),s2,.un,s4,.un]) ⟨.un,.un,by simp[zp,Jw,vd]⟩ ?_ ?_
 .rintro i d ρ hi ⟨s2,s4,rfl⟩;obtain⟨f,hfi,rfl⟩:=Mq hi;have hf3:f.length<=3:=hf f (Xl hfi);have sm:=small i;simp only[vy];ext;refine Y8 (λj ρ=>∃s4,ρ=[.val (.lst (Jw fs)),.val (.lst (Jw (zp (fs.take i)))),.val (vd f),.own (Jw (step ((zp (fs.take i)).take j) f)),s4,.un]) ⟨s4,by simp[j6r]⟩ ?_ ?_
  .rintro j d ρ hj ⟨s4,rfl⟩;obtain⟨a,haj,rfl⟩:=Mq hj;have hs:=Kh ((zp (fs.take i)).take j) hf3;have hs2:((zp (fs.take i)).take j).length<=729:=by rw[Xm];omega
   have ha:a.length<=6:=by have:=j04 (Xl haj);rw[Xm]at this;omega
   simp only[vy];ext;rw[jo (l:=(f.map λx=>vd (a++[x]))) (by rfl) ?_ ?_ (.inl rfl)]
   .ext;refine⟨_,rfl,.val (vd a),?_⟩;rw[take_snoc haj,j3z];simp only[Jw,Xp,Xg];rfl
   .simp only[xj];omega
   .refine ji λx _=>qg (by ext) ?_;ext;simp
  .rintro ρ' ⟨s4,rfl⟩;ext;refine⟨_,rfl,.val (vd f),s4,?_⟩;rw[take_snoc hfi,j03,cw]
 .rintro ρ' ⟨s2,s4,rfl⟩;ext;rw[cw]
theorem W7 {fu:Nat} (hT:T "_law_same" = a4 fL_same):∀(k:Nat){x:D}{n:Nat},x.dep<=k->J7 x->evP fu G T (n+k+1) "_law_same" [x,x]=.val (.bl a6):=by
 intro k;induction k with
 |zero =>
  intro x n hk hx;rw[jr (F:=fL_same) hT rfl];simp only[fL_same,Zo,enter];cases x with
  |tup l=>simp[D.dep]at hk
  |lst l=>simp[D.dep]at hk
  |dct ks l=>simp[D.dep]at hk
  |sct k=>simp[D.dep]at hk
  |fn x l=>simp[D.dep]at hk
  |non=>ext
  |bl b=>ext
  |int i=>ext
  |str z=>ext
 |succ k ih =>
  intro x n hk hx;have ih':∀{x:D},x.dep<=k->J7 x->evP fu G T (n+(k+1)) "_law_same" [x,x]=.val (.bl a6):=λh1 h2=>ih h1 h2;rw[jr (F:=fL_same) hT rfl];simp only[fL_same,Zo,enter];cases x with
  |dct ks l=>exact aS (by simpa [J7]using hx)
  |sct k=>exact aS (by simpa [J7]using hx)
  |fn x l=>exact aS (by simpa [J7]using hx)
  |tup l =>
   obtain⟨hl,hx⟩:=j52 hx;have hk:D.depL l<=k:=by simp only[D.dep]at hk;omega
   ext;rw[X5,jo (l:=[]) (by rfl) (by rw[jn];omega) ?_ (.inl rfl)]
   .ext
   .refine Uq λd hd=>?_;obtain⟨j,hj,rfl⟩:=Iu hd;have hg:atI l (0+(j:Int))=a4 l[j]:=by rw[Xv];exact V3 (kh hj)
    have hm:l[j]∈l:=Py hj;refine Qf (b:=a5) (d':=.non) ?_ λz=>by cases z
    ext;simp only[hg];ext;rw[ih' (Xf (D.depL_mem hm) hk) (Ug hx hm)];ext
  |lst l =>
   obtain⟨hl,hx⟩:=j54 hx;have hk:D.depL l<=k:=by simp only[D.dep]at hk;omega
   ext;rw[X5,jo (l:=[]) (by rfl) (by rw[jn];omega) ?_ (.inl rfl)]
   .ext
   .refine Uq λd hd=>?_;obtain⟨j,hj,rfl⟩:=Iu hd;have hg:atI l (0+(j:Int))=a4 l[j]:=by rw[Xv];exact V3 (kh hj)
    have hm:l[j]∈l:=Py hj;refine Qf (b:=a5) (d':=.non) ?_ λz=>by cases z
    ext;simp only[hg];ext;rw[ih' (Xf (D.depL_mem hm) hk) (Ug hx hm)];ext
  |non=>ext
  |bl b=>ext
  |int i=>ext
  |str z=>ext
theorem j53{r:List Int}(h:r.length<=1000):J7 (vd r):=by
 simp only[J7,xj];refine⟨h,Yg λd hd=>?_⟩;obtain⟨i,_,rfl⟩:=Xh.mp hd
 trivial
theorem v4(n:Nat):upto 0 n=(au n).map λ(k:Nat)=>D.int (0+(k:Int)):=rfl
theorem j79{m:Nat}(h:m<=6):(1:Int)<=2^m/\(2:Int)^m<=64:=by
 have:m=0\/m=1\/m=2\/m=3\/m=4\/m=5\/m=6:=by omega
 rcases this with e|e|e|e|e|e|e<;>subst e<;>decide
theorem j1v{p:List Int}{k:Nat}(h:k<p.length):atI (p.map D.int) (0+(k:Int))=a4 (.int (p.getD k 0)):=by rw[Xv];refine V3 ?_;rw[xx,kh h,xf,kh h];rfl
end
end KL
namespace KV
open PySem
noncomputable def letters:List Nat:=[109,100,107,98,118,113,104,122,99,103,114,110,97,112,120,111,108,115,105,101,102,119,116,121,106,117]
theorem j1i:("mdkbvqhzcgrnapxolsiefwtyju":af).cps.toList=letters:=by decide +kernel
noncomputable def lt(n:Int):Nat:=letters.getD n.toNat 0
noncomputable def sL(l:List Nat):af:=⟨l.toArray⟩
theorem zf{l:List Nat}:(sL l).length=l.length:=by simp[sL,lh]
theorem je7{l m:List Nat}(h:sL l=sL m):l=m:=by have:=congrArg (λz=>z.cps.toList) h;simpa [sL]using this
theorem Qk{l m:List Nat}:sL l++sL m=sL (l++m):=by show(⟨l.toArray++m.toArray⟩:af)=_;simp[sL]
theorem Ou:∀l:List Nat,dU ("":af) (l.map λc=>(⟨#[c]⟩:af))=sL l:=by
 intro l;show lj _ _=_;rw[StrLaws.glued_eq_join];induction l with
 |nil=>rfl
 |cons a r ih =>
  cases r with
  |nil=>rfl
  |cons b r =>
   rw[X3,X3,Str.join,<-X3 (f:=λc=>(⟨#[c]⟩:af)),ih]
   .show(⟨(#[a] ++ #[])++(b::r).toArray⟩:af)=⟨(a::b::r).toArray⟩
    simp
   .intro z;cases z
theorem j47{l:List Nat}:(sL l).cps.toList=l:=by simp[sL]
theorem Bc{k n:Nat}:aB a7 (a4 (k:Int)) 1 n=aB (a4 ((0:Nat):Int)) (a4 (k:Int)) 1 n:=by
 have e:max (0:Int) (min 0 (n:Int))=0:=by omega
 simp[aB,e]
theorem Bd{k n:Nat}:aB (a4 (k:Int)) a7 1 n=aB (a4 (k:Int)) (a4 (n:Int)) 1 n:=by
 have e:max (0:Int) (min (n:Int) (n:Int))=n:=by omega
 have e2:¬((n:Int)<0):=by omega
 simp[aB,e,e2]
theorem M8{l:List Nat}{a b:Nat}{lo hi:Option Int}(he:aB lo hi 1 (sL l).length=aB (a4 (a:Int)) (a4 (b:Int)) 1 (sL l).length)(hab:a<=b)(hb:b<=l.length):bc (sL l) lo hi=sL ((l.drop a).take (b-a)):=by
 have hb':b<=(sL l).length:=by rw[zf];exact hb
 have q:=StrLaws.sliced_plain (sL l) hab hb';rw[j47]at q;have e1:=StrLaws.strSliceIndices_plain hab hb';unfold bc;rw[he];by_cases h:((1:Int)==1&&(aB (a4 (a:Int)) (a4 (b:Int)) 1 (sL l).length).length==(sL l).length)=a6
 .rw[if_pos h];rw[e1,zf,xj,Xw]at h;have:b-a=l.length:=by simpa using h
  have ha:a=0:=by omega
  subst ha;rw[this,cg,cw]
 .rw[if_neg h,q];rfl
theorem Od{l:List Nat}{k:Nat}(h:k<=l.length):bc (sL l) a7 (a4 (k:Int))=sL (l.take k):=by rw[M8 (a:=0) (b:=k) Bc (T9 _) h];simp
theorem U8{l:List Nat}{k:Nat}(h:k<=l.length):bc (sL l) (a4 (k:Int)) a7=sL (l.drop k):=by rw[M8 (a:=k) (b:=l.length) (by rw[Bd,zf]) h (X7 _),Tf (by rw[Pa];omega)]
theorem We {l:List Nat} (h:l.length<=100):eQ ("":af) (l.map λc=>(⟨#[c]⟩:af))=a6:=by
 unfold eQ;rw[eU];have e:∀(r:List Nat)(k:Nat),(r.map λc=>(⟨#[c]⟩:af)).foldl (λ(x:Nat) (y:af)=>x+y.length+("":af).length) k=k+r.length:=by
  intro r;induction r with
  |nil=>intro k;rfl
  |cons a r ih =>intro k;rw[X3,bV,ih,X4];show k+1+0+r.length=_;omega
 show cn _=a5;have:=e l 0;rw[List.foldl_toArray];show cn (cU (λ(x:Nat) (y:af)=>x+y.length+("":af).length) 0 _)=a5;rw[this];unfold cn;simp;have:=br;omega
noncomputable def Zu(c:Int):List Nat:=(au 8).map λ(k:Nat)=>lt (c/(4+5*(k:Int))%26)
noncomputable def Qq(c:Int)(s:Nat):List Nat:=(au s).map λ(k:Nat)=>lt ((c/32+3*(k:Int)*(k:Int)+(k:Int))%26)
theorem J4(c:Int):(Zu c).length=8:=by simp[Zu]
theorem z8(c:Int)(s:Nat):(Qq c s).length=s:=by simp[Qq]
noncomputable def stN(c:Int)(m:Nat):Nat:=(c/8%(9-(m:Int))).toNat
noncomputable def szN(c:Int):Nat:=(c/4%8).toNat
noncomputable def atN(c:Int):Nat:=(c/512%((szN c:Int)+1)).toNat
noncomputable def wrd(c:Int)(m k:Nat):List Nat :=
 if c%4<2 then(if c%4=0 then(Zu c).take (stN c m+k+1) else(Zu c).drop (8-stN c m-k-1))
 else(Qq c (szN c)).take (atN c)++lt ((c/9+7*(k:Int))%26)::(Qq c (szN c)).drop (atN c)
noncomputable def v6(c:Int)(m:Nat):List af:=(au m).map λ(k:Nat)=>sL (wrd c m k)
theorem jfj{a b:Int}(ha:0<=a/\a<26)(hb:0<=b/\b<26)(h:lt a=lt b):a=b:=by
 obtain⟨i,rfl⟩:∃i:Nat,a=(i:Int):=⟨a.toNat,by omega⟩
 obtain⟨j,rfl⟩:∃j:Nat,b=(j:Int):=⟨b.toNat,by omega⟩
 have key:∀i j:Fin 26,letters.getD i.val 0=letters.getD j.val 0->i=j:=by decide +kernel
 have:=key ⟨i,by omega⟩ ⟨j,by omega⟩ h;have:=congrArg Fin.val this;simp at this;omega
theorem j2c{c:Int}{m:Nat}(h:m<=6):stN c m+m<=8:=by unfold stN;have h1:=pq (c/8) (show(9-(m:Int))≠0 by omega);have h2:=P0 (c/8) (show(0:Int)<9-(m:Int)by omega);omega
theorem K6(c:Int):atN c<=szN c/\szN c<=7:=by unfold atN;have h1:=pq (c/512) (show((szN c:Int)+1)≠0 by omega);have h2:=P0 (c/512) (show(0:Int)<(szN c:Int)+1 by omega);refine⟨by omega,?_⟩;unfold szN;omega
theorem jan{c:Int}{m i j:Nat}(hm:m<=6)(hi:i<m)(hj:j<m)(h:wrd c m i=wrd c m j):i=j:=by
 have s:=j2c (c:=c) hm;have a:=K6 c;have l8:=J4 c;have ls:=z8 c (szN c);unfold wrd at h;split at h
 .split at h
  .have:=congrArg hV h;rw[Xm,Xm]at this;omega
  .have:=congrArg hV h;rw[Pa,Pa]at this;omega
 .have h2:=List.append_cancel_left h;have h3:=(List.cons.inj h2).1;have:=jfj nofun nofun h3;omega
theorem W0(c:Int)(m:Nat):(v6 c m).length=m:=by simp[v6]
theorem K9{c:Int}{m:Nat}(hm:m<=6):(v6 c m).Nodup:=by unfold v6;unfold List.Nodup;rw[List.pairwise_map];exact List.Pairwise.imp_of_mem (λhi hj h e=>h (jan hm (Xa.mp hi) (Xa.mp hj) (je7 e))) (List.nodup_range (n:=m))
end KV
open PySem (Str)
open L2
namespace KW
open KL KV PySem
noncomputable def Qj:Sx:=(.seq (.set 2 (.lit (.str "mdkbvqhzcgrnapxolsiefwtyju"))) (.seq (.ife (.cmp .lt (.bin .mod (.var 0) (.lit (.int 4))) (.lit (.int 2))) (.seq (.set 3 (.join "" (.comp [4] (.ix (.var 2) (.bin .mod (.bin .fdiv (.var 0) (.bin .add (.lit (.int 4)) (.bin .mul (.lit (.int 5)) (.var 4)))) (.lit (.int 26)))) (.range (.cons (.lit (.int 8)) .nil)) .nil))) (.seq (.set 5 (.bin .mod (.bin .fdiv (.var 0) (.lit (.int 8))) (.bin .sub (.lit (.int 9)) (.var 1)))) (.seq (.ife (.cmp .eq (.bin .mod (.var 0) (.lit (.int 4))) (.lit (.int 0))) (.seq (.ret (.comp [4] (.sl (.var 3) .nil (.cons (.bin .add (.bin .add (.var 5) (.var 4)) (.lit (.int 1))) .nil)) (.range (.cons (.var 1) .nil)) .nil)) .nop) .nop) (.seq (.ret (.comp [4] (.sl (.var 3) (.cons (.bin .sub (.bin .sub (.bin .sub (.lit (.int 8)) (.var 5)) (.var 4)) (.lit (.int 1))) .nil) .nil) (.range (.cons (.var 1) .nil)) .nil)) .nop)))) .nop) (.seq (.set 6 (.bin .mod (.bin .fdiv (.var 0) (.lit (.int 4))) (.lit (.int 8)))) (.seq (.set 7 (.join "" (.comp [4] (.ix (.var 2) (.bin .mod (.bin .add (.bin .add (.bin .fdiv (.var 0) (.lit (.int 32))) (.bin .mul (.bin .mul (.lit (.int 3)) (.var 4)) (.var 4))) (.var 4)) (.lit (.int 26)))) (.range (.cons (.var 6) .nil)) .nil))) (.seq (.set 8 (.bin .mod (.bin .fdiv (.var 0) (.lit (.int 512))) (.bin .add (.var 6) (.lit (.int 1))))) (.seq (.ret (.comp [4] (.bin .add (.bin .add (.sl (.var 7) .nil (.cons (.var 8) .nil)) (.ix (.var 2) (.bin .mod (.bin .add (.bin .fdiv (.var 0) (.lit (.int 9))) (.bin .mul (.lit (.int 7)) (.var 4))) (.lit (.int 26))))) (.sl (.var 7) (.cons (.var 8) .nil) .nil)) (.range (.cons (.var 1) .nil)) .nil)) .nop))))))
noncomputable def fL_words:Fi:=⟨2,9,Qj,a5⟩
noncomputable def U5:Sx:=(.seq (.set 3 (.comp [4] (.var 4) (.range (.cons (.blt .len (.cons (.var 0) .nil)) .nil)) (.cons (.cmp .eq (.bin .mod (.bin .fdiv (.var 2) (.bin .shl (.lit (.int 1)) (.var 4))) (.lit (.int 2))) (.lit (.int 1))) .nil))) (.seq (.set 5 (.blt .sum (.cons (.comp [4] (.bin .shl (.ix (.var 0) (.var 4)) (.var 4)) (.seq (.var 3)) .nil) .nil))) (.seq (.set 6 (.blt .sum (.cons (.comp [4,7] (.bin .shl (.var 7) (.var 4)) (.enum (.var 0)) .nil) .nil))) (.seq (.ife (.cmp .eq (.var 1) (.lit (.int 1))) (.seq (.ret (.blt .int (.cons (.cmp .gt (.blt .sum (.cons (.var 0) .nil)) (.bin .mod (.bin .fdiv (.var 2) (.lit (.int 64))) (.blt .len (.cons (.var 0) .nil)))) .nil))) .nop) .nop) (.seq (.ife (.cmp .eq (.var 1) (.lit (.int 2))) (.seq (.set 8 (.bin .mod (.bin .mul (.bin .add (.var 6) (.lit (.int 1))) (.bin .add (.lit (.int 1)) (.bin .mod (.var 2) (.lit (.int 1000003))))) (.lit (.int 2147483629)))) (.seq (.ret (.blt .int (.cons (.cmp .eq (.bin .mod (.bin .fdiv (.var 8) (.lit (.int 32))) (.lit (.int 5))) (.lit (.int 0))) .nil))) .nop)) .nop) (.seq (.ife (.cmp .eq (.var 1) (.lit (.int 3))) (.seq (.set 8 (.bin .mul (.bin .add (.bin .add (.bin .mul (.var 5) (.var 5)) (.bin .mul (.lit (.int 17)) (.var 5))) (.lit (.int 69621))) (.bin .add (.lit (.int 1)) (.bin .mod (.var 2) (.lit (.int 1000003)))))) (.seq (.ret (.bin .mod (.bin .fdiv (.bin .mod (.var 8) (.lit (.int 2147483647))) (.lit (.int 16))) (.lit (.int 2)))) .nop)) .nop) (.seq (.ife (.cmp .eq (.var 1) (.lit (.int 4))) (.seq (.ret (.bin .mod (.bin .add (.blt .sum (.cons (.comp [4] (.ix (.var 0) (.var 4)) (.seq (.var 3)) .nil) .nil)) (.bin .fdiv (.var 2) (.lit (.int 64)))) (.lit (.int 2)))) .nop) .nop) (.seq (.set 8 (.bin .mul (.bin .add (.bin .mul (.var 6) (.var 6)) (.lit (.int 48271))) (.bin .add (.bin .add (.bin .mod (.var 2) (.lit (.int 1000003))) (.var 6)) (.lit (.int 1))))) (.seq (.ret (.bin .mod (.bin .fdiv (.bin .mod (.var 8) (.lit (.int 2147483647))) (.lit (.int 64))) (.lit (.int 2)))) .nop)))))))))
noncomputable def fL_bit:Fi:=⟨3,9,U5,a5⟩
noncomputable def Jt:Sx:=(.seq (.set 3 (.bin .add (.lit (.int 1)) (.bin .mod (.call "_law_cell" (.cons (.var 0) (.cons (.var 1) .nil))) (.var 2)))) (.seq (.set 4 (.call "_law_words" (.cons (.call "_law_cell" (.cons (.var 0) (.cons (.bin .add (.var 1) (.lit (.int 1))) .nil))) (.cons (.var 3) .nil)))) (.seq (.set 5 (.bin .mod (.bin .fdiv (.call "_law_cell" (.cons (.var 0) (.cons (.var 1) .nil))) (.var 2)) (.lit (.int 5)))) (.seq (.set 6 (.lst .nil)) (.seq (.loop [7] (.range (.cons (.bin .shl (.lit (.int 1)) (.var 3)) .nil)) (.seq (.set 8 (.comp [9] (.bin .mod (.bin .fdiv (.var 7) (.bin .shl (.lit (.int 1)) (.bin .sub (.bin .sub (.var 3) (.var 9)) (.lit (.int 1))))) (.lit (.int 2))) (.range (.cons (.var 3) .nil)) .nil)) (.seq (.app 6 (.call "_law_bit" (.cons (.var 8) (.cons (.var 5) (.cons (.call "_law_cell" (.cons (.var 0) (.cons (.bin .add (.var 1) (.lit (.int 2))) .nil))) .nil))))) .nop))) (.seq (.ret (.tup (.cons (.blt .tuple (.cons (.var 4) .nil)) (.cons (.blt .tuple (.cons (.var 6) .nil)) .nil)))) .nop))))))
noncomputable def fL_question:Fi:=⟨3,10,Jt,a5⟩
section
variable{G:af->Option D}{T:af->Option Fi}
theorem Lz {n:Int} (h:0<=n/\n<26):atI ("mdkbvqhzcgrnapxolsiefwtyju":af).cps.toList n=a4 (lt n):=by
 obtain⟨k,rfl⟩:∃k:Nat,n=(k:Int):=⟨n.toNat,by omega⟩
 have hk:k<letters.length:=by show k<26;omega
 rw[j1i];refine V3 ?_;unfold lt;rw[kh hk,X5,xf,kh hk];rfl
theorem j2w:("mdkbvqhzcgrnapxolsiefwtyju":af).length<=1000000:=by decide +kernel
theorem j6h {fu n m:Nat} (hT:T "_law_words" = a4 fL_words) {c:Int} (h:¬c%4<2) (hm:m<=10):evP fu G T (n+1) "_law_words" [.int c,.int m]=.fresh ((v6 c m).map D.str):=by
 rw[jr (F:=fL_words) hT rfl];simp only[fL_words,Qj,enter];have ll:=j2w;have a:=K6 c;obtain⟨s,hs⟩:∃s:Nat,s=szN c:=⟨_,rfl⟩
 have es:c/4%8=(s:Int):=by rw[hs];unfold szN;omega
 obtain⟨q,hq⟩:∃q:Nat,q=atN c:=⟨_,rfl⟩
 have eq:c/512%((s:Int)+1)=(q:Int):=by rw[hq];unfold atN;have:=pq (c/512) (show((s:Int)+1)≠0 by omega);rw[<-hs];omega
 ext;rw[es,jo (l:=((Qq c s).map λx=>(⟨#[x]⟩:af)).map D.str) (by rfl) (by rw[jn];omega) ?_ (.inl rfl)];rotate_left
 .rw[X5,v4,Qq,Xg,Xg];refine ji λk hk'=>qg (by ext) ?_;have hk:=Xa.mp hk';ext;rw[Lz nofun];ext;simp
 rw[j1n (We (by rw[z8];omega)),Ou];have lg:(sL (Qq c s)).length=s:=by rw[zf,z8]
 ext;rw[eq,jo (l:=(v6 c m).map D.str) (by rfl) (by rw[jn];omega) ?_ (.inl rfl)]
 .ext
 .rw[X5,v4,v6,Xg];refine ji λk hk'=>qg (by ext) ?_;have hk:=Xa.mp hk';ext;rw[Lz nofun];ext;rw[Od (by rw[z8];omega),U8 (by rw[z8];omega)];have e1:(⟨#[lt ((c/9+7*(0+(k:Int)))%26)]⟩:af)=sL [lt ((c/9+7*(0+(k:Int)))%26)]:=rfl;have l1:(sL ((Qq c s).take q)).length=q:=by rw[zf,Xm,z8];omega
  have l2:(sL ((Qq c s).drop q)).length=s-q:=by rw[zf,Pa,z8]
  have l3:(sL [lt ((c/9+7*(0+(k:Int)))%26)]).length=1:=rfl;have l4:(sL ((Qq c s).take q)++sL [lt ((c/9+7*(0+(k:Int)))%26)]).length=q+1:=by rw[Qk,zf,Xe,Xm,z8,X4,cD];omega
  rw[e1];ext;rw[Qk,Qk];simp only[dQ,wrd,h,if_false,<-hs,<-hq,Tp,gW,Xv]
theorem j27 {fu n m:Nat} (hT:T "_law_words" = a4 fL_words) {c:Int} (hm:1<=m/\m<=6):evP fu G T (n+1) "_law_words" [.int c,.int m]=.fresh ((v6 c m).map D.str):=by
 by_cases h:c%4<2
 .rw[jr (F:=fL_words) hT rfl];simp only[fL_words,Qj,enter];have ll:=j2w;ext;rw[jo (l:=((Zu c).map λx=>(⟨#[x]⟩:af)).map D.str) (by rfl) (by rw[jn];decide) ?_ (.inl rfl)];rotate_left
  .rw[v4,Zu,Xg,Xg];refine ji λk hk'=>qg (by ext) ?_;have hk:=Xa.mp hk';ext;rw[Lz nofun];ext;simp
  rw[j1n (We (by rw[J4];decide)),Ou];have st:=j2c (c:=c) hm.2;obtain⟨s,hs⟩:∃s:Nat,s=stN c m:=⟨_,rfl⟩
  have es:c/8%(9-(m:Int))=(s:Int):=by rw[hs];unfold stN;have:=pq (c/8) (show(9-(m:Int))≠0 by omega);omega
  have lg:(sL (Zu c)).length=8:=by rw[zf,J4]
  by_cases h0:c%4=0
  .ext;rw[es,jo (l:=(v6 c m).map D.str) (by rfl) (by rw[jn];omega) ?_ (.inl rfl)]
   .ext
   .rw[X5,v4,v6,Xg];refine ji λk hk'=>qg (by ext) ?_;have hk:=Xa.mp hk';ext;have e:(s:Int)+(0+(k:Int))+1=((s+k+1:Nat):Int):=by omega
    have hh:wrd c m k=(Zu c).take (stN c m+k+1):=by unfold wrd;rw[if_pos h,if_pos h0]
    rw[e,Od (by rw[J4];omega)];simp only[dQ,hh,hs]
  .ext;rw[es,jo (l:=(v6 c m).map D.str) (by rfl) (by rw[jn];omega) ?_ (.inl rfl)]
   .ext
   .rw[X5,v4,v6,Xg];refine ji λk hk'=>qg (by ext) ?_;have hk:=Xa.mp hk';ext;have e:8-(s:Int)-(0+(k:Int))-1=((8-s-k-1:Nat):Int):=by omega
    have hh:wrd c m k=(Zu c).drop (8-stN c m-k-1):=by unfold wrd;rw[if_pos h,if_neg h0]
    rw[e,U8 (by rw[J4];omega)];simp only[dQ,hh,hs]
 .exact j6h hT h nofun
theorem Kf:∀{l:List Int},(∀x∈l,0<=x/\x<=32)->0<=l.sum/\l.sum<=32*(l.length:Int)
 |[],_=>by simp
 |a::r,h=>by have h1:=h a (xq ..);have h2:=Kf (l:=r) λx hx=>h x (xg _ hx);rw[List.sum_cons,X4];omega
theorem p2k{k:Nat}(h:k<=5):0<(2:Int)^k/\(2:Int)^k<=32:=by
 have:k=0\/k=1\/k=2\/k=3\/k=4\/k=5:=by omega
 rcases this with e|e|e|e|e|e<;>subst e<;>decide
noncomputable def V7(row:List Int)(c:Int):List Nat:=(au row.length).filter λ(k:Nat)=>decide (c/(1*2^(0+(k:Int)).toNat)%2=1)
noncomputable def Yh(row:List Int)(c:Int):List Int:=(V7 row c).map λ(k:Nat)=>row.getD k 0*2^(0+(k:Int)).toNat
noncomputable def byL(row:List Int):List Int:=row.zipIdx.map λp=>p.1*2^((p.2:Nat):Int).toNat
theorem t0k(k:Nat):(0+(k:Int)).toNat=k:=by omega
theorem jad{row:List Int}(h01:∀x∈row,x=0\/x=1)(k:Nat):row.getD k 0=0\/row.getD k 0=1:=by
 rw[xf];cases h:row[k]? with
 |none=>exact .inl rfl
 |some v=>exact h01 v (Xl h)
theorem jc5{row:List Int}{c:Int}(h01:∀x∈row,x=0\/x=1)(hl:row.length<=6):0<=(Yh row c).sum/\(Yh row c).sum<=192:=by
 have h:=Kf (l:=Yh row c) λx hx=>by
  obtain⟨k,hk,rfl⟩:=Xh.mp hx;have hk2:=Xa.mp (Pn.mp hk).1;have p:=p2k (k:=k) nofun
  rw[t0k];rcases jad h01 k with e|e<;>rw[e]<;>omega
 have l:(Yh row c).length<=6:=by unfold Yh V7;rw[xj];exact Xf (t6 _ _) (by rw[Xw];exact hl)
 omega
theorem jjk{row:List Int}(h01:∀x∈row,x=0\/x=1)(hl:row.length<=6):0<=(byL row).sum/\(byL row).sum<=192:=by
 have h:=Kf (l:=byL row) λx hx=>by
  obtain⟨p,hp,rfl⟩:=Xh.mp hx;obtain⟨a,k⟩:=p;have hm:=iY hp;have p:=p2k (k:=k) nofun
  show 0<=a*2^((k:Nat):Int).toNat/\a*2^((k:Nat):Int).toNat<=32;rw[X5];have:=h01 a (by rw[hm.2.2];exact Py _);rcases this with e|e<;>rw[e]<;>omega
 have l:(byL row).length<=6:=by unfold byL;rw[xj,eJ];exact hl
 omega
theorem jhe {fu n:Nat} (hT:T "_law_bit" = a4 fL_bit) {row:List Int} {kd c:Int} (h01:∀x∈row,x=0\/x=1) (hl:1<=row.length/\row.length<=6):∃b:Int,(b=0\/b=1)/\evP fu G T (n+1) "_law_bit" [.lst (row.map D.int),.int kd,.int c]=.val (.int b):=by
 rw[jr (F:=fL_bit) hT rfl];simp only[fL_bit,U5,enter];have kb:=jc5 (c:=c) h01 hl.2;have bb:=jjk h01 hl.2;have sl:(V7 row c).length<=6:=by unfold V7;exact Xf (t6 _ _) (by rw[Xw];exact hl.2)
 have get:∀k:Nat,k∈V7 row c->atI (row.map D.int) (0+(k:Int))=a4 (.int (row.getD k 0)):=λk hk=>j1v (Xa.mp (Pn.mp hk).1);ext;rw[jo (l:=(V7 row c).map λ(k:Nat)=>D.int (0+(k:Int))) (by rfl) (by rw[jn];omega) ?_ (.inl rfl)];rotate_left
 .rw[X5,v4,V7];refine Jp λk hk'=>?_;have hk:=Xa.mp hk';have p:0<(2:Int)^(0+(k:Int)).toNat/\(2:Int)^(0+(k:Int)).toNat<=32:=by rw[t0k];exact p2k nofun
  refine Qf ?_ λ_=>?_
  .ext;simp only[Fq];ext
  .ext
 ext;rw[jo (l:=(Yh row c).map D.int) (by rfl) (by rw[xj];omega) ?_ (.inr (vo _))];rotate_left
 .rw[Yh,Xg];refine ji λk hk'=>qg (by ext) ?_;have b:=jad h01 k;have hk:=Xa.mp (Pn.mp hk').1;ext;rw[get k hk'];ext;rfl
 ext;rw[jo (l:=(byL row).map D.int) (by rfl) (by simp only[Q8,xj,eJ];omega) ?_ (.inl rfl)];rotate_left
 .rw[byL,Xg,Q8,List.zipIdx_map,Xg];refine ji λq hq=>?_;obtain⟨a,k⟩:=q;have hm:=iY hq;have h1:=h01 a (by rw[hm.2.2];exact Py _);show Qc _ _ _ _ (D.tup [.int (k:Int),.int a])=_;refine jaq (by ext) ?_;ext;rfl
 ext;generalize (Yh row c).sum=kept at *;generalize (byL row).sum=byr at *;by_cases k1:kd=1
 .refine⟨if decide (c/64%(row.length:Int)<row.sum)=a6 then 1 else 0,by split<;>simp,?_⟩;ext;simp only[jcz];ext
 .by_cases k2:kd=2
  .refine⟨if decide ((byr+1)*(1+c%1000003)%2147483629/32%5=0)=a6 then 1 else 0,by split<;>simp,?_⟩;ext;simp only[Fq];ext
  .by_cases k3:kd=3
   .refine⟨(kept*kept+17*kept+69621)*(1+c%1000003)%2147483647/16%2,by omega,?_⟩;ext
   .by_cases k4:kd=4
    .refine⟨(((V7 row c).map λ(k:Nat)=>row.getD k 0).sum+c/64)%2,by omega,?_⟩;ext;rw[jo (l:=((V7 row c).map λ(k:Nat)=>row.getD k 0).map D.int) (by rfl) (by rw[xj];omega) ?_ (.inr (vo _))]
     .ext
     .rw[Xg];refine ji λk hk'=>qg (by ext) ?_;ext;rw[get k hk'];ext;rfl
    .refine⟨(byr*byr+48271)*(c%1000003+byr+1)%2147483647/64%2,by omega,?_⟩;ext
noncomputable def Fv(fu:Nat)(G:af->Option D)(T:af->Option Fi)(n:Nat)(row:List Int)(kd c:Int):Int:=match evP fu G T (n+1) "_law_bit" [.lst (row.map D.int),.int kd,.int c] with
 |.val (.int b)=>b
 |_=>0
theorem j96 {fu n:Nat} (hT:T "_law_bit" = a4 fL_bit) {row:List Int} {kd c:Int} (h01:∀x∈row,x=0\/x=1) (hl:1<=row.length/\row.length<=6):(Fv fu G T n row kd c=0\/Fv fu G T n row kd c=1)/\evP fu G T (n+1) "_law_bit" [.lst (row.map D.int),.int kd,.int c]=.val (.int (Fv fu G T n row kd c)):=by obtain⟨b,hb,e⟩:=jhe (fu:=fu) (n:=n) (G:=G) hT h01 hl (kd:=kd) (c:=c);unfold Fv;rw[e];exact⟨hb,rfl⟩
theorem jab(m:Nat)(z:Int):∀x∈jz 2 m z,x=0\/x=1:=by
 intro x hx;obtain⟨i,hi⟩:=List.mem_iff_getElem?.mp hx;have hl:i<m:=by have:=(Xb.mp hi).1;rw[vp]at this;exact this
 rw[Qh 2 hl]at hi;cases hi;omega
noncomputable def V8(ns:List Int)(a most:Nat):Nat:=(1+ju ns a%(most:Int)).toNat
noncomputable def Yr(fu:Nat)(G:af->Option D)(T:af->Option Fi)(n:Nat)(ns:List Int)(a most:Nat):List Int :=
 (au (2^V8 ns a most)).map λ(k:Nat)=>Fv fu G T n (jz 2 (V8 ns a most) (k:Int)) (ju ns a/(most:Int)%5) (ju ns (a+2))
theorem j1h{ns:List Int}{a most:Nat}(h:1<=most/\most<=6):1<=V8 ns a most/\V8 ns a most<=most:=by unfold V8;have h1:=pq (ju ns a) (show(most:Int)≠0 by omega);have h2:=P0 (ju ns a) (show(0:Int)<most by omega);omega
theorem Lh {fu n:Nat} (hC:T "_law_cell" = a4 fL_cell) (hW:T "_law_words" = a4 fL_words) (hB:T "_law_bit" = a4 fL_bit) (hT:T "_law_question" = a4 fL_question) {ns:List Int} {a most:Nat} (ha:a<=50) (hm:1<=most/\most<=6) :
  evP fu G T (n+2) "_law_question" [.lst (ns.map D.int),.int a,.int most]=.val (.tup [.tup ((v6 (ju ns (a+1)) (V8 ns a most)).map D.str),.tup ((Yr fu G T n ns a most).map D.int)]):=by
 rw[jr (F:=fL_question) hT rfl];simp only[fL_question,Jt,enter];have mb:=j1h (ns:=ns) (a:=a) hm;obtain⟨m,em⟩:∃m:Nat,m=V8 ns a most:=⟨_,rfl⟩
 have em2:1+ju ns a%(most:Int)=(m:Int):=by rw[em];unfold V8;have h1:=pq (ju ns a) (show(most:Int)≠0 by omega);omega
 rw[<-em]at mb;have p2:=j79 (m:=m) nofun
 have pc:((2^m:Nat):Int)=(2:Int)^m:=by simp
 have e3:(1*2^m:Int).toNat=2^m:=by rw[bM,<-pc];exact X5 _
 have c0:evP fu G T (n+1) "_law_cell" [.lst (ns.map D.int),.int a]=.val (.int (ju ns a)):=V1 hC nofun
 have c1:evP fu G T (n+1) "_law_cell" [.lst (ns.map D.int),.int ((a:Int)+1)]=.val (.int (ju ns (a+1))):=V1 hC (k:=a+1) nofun
 have c2:evP fu G T (n+1) "_law_cell" [.lst (ns.map D.int),.int ((a:Int)+2)]=.val (.int (ju ns (a+2))):=V1 hC (k:=a+2) nofun
 have wl:(v6 (ju ns (a+1)) m).length=m:=W0 _ _;ext;rw[c0];ext;rw[em2,c1];ext;erw[j27 hW nofun,c0,X5];rw[e3];rw[j7m (λi=>[.val (.lst (ns.map D.int)),.val (.int a),.val (.int most),.val (.int m),.own ((v6 (ju ns (a+1)) m).map D.str),.val (.int (ju ns a/(most:Int)%5)),.own (((Yr fu G T n ns a most).take i).map D.int),if i=0 then .un else .val (.int ((i:Int)-1)),if i=0 then .un else .own ((jz 2 m ((i:Int)-1)).map D.int),.un]) (by simp)]
 .ext;rw[jn,Tf (by simp[Yr,<-em]),<-em]
 .intro i d hi;obtain⟨h1,rfl⟩:=Z8 hi;have hz:=jab m (0+(i:Int));have hlz:=vp 2 m (0+(i:Int));obtain⟨hb,eb⟩:=j96 (fu:=fu) (n:=n) (G:=G) hB hz nofun (kd:=ju ns a/(most:Int)%5) (c:=ju ns (a+2))
  have lt64:2^m<=64:=by omega
  have al:(Yr fu G T n ns a most).length=2^m:=by simp[Yr,<-em]
  have ag:(Yr fu G T n ns a most)[i]?=a4 (Fv fu G T n (jz 2 m (0+(i:Int))) (ju ns a/(most:Int)%5) (ju ns (a+2))):=by unfold Yr;rw[<-em,xx,Xu h1,Xv];rfl
  simp only[vy];ext;rw[jo (l:=(jz 2 m (0+(i:Int))).map D.int) (by rfl) (by rw[jn];omega) ?_ (.inl rfl)];rotate_left
  .have ed:jz 2 m (0+(i:Int))=(au m).map λ(k:Nat)=>(0+(i:Int))/2^(m-k-1)%2:=by
    refine Xz λk=>?_;by_cases hk:k<m
    .rw[Qh 2 hk,xx,Xu hk];rfl
    .rw[Xc (by rw[vp];omega),Xc (by simp;omega)]
   rw[X5,v4,ed,Xg];refine ji λk hk'=>qg (by ext) ?_;have hk:=Xa.mp hk';have et:((m:Int)-(0+(k:Int))-1).toNat=m-k-1:=by omega
   have p:=p2k (k:=m-k-1) nofun
   rw[<-et]at p;ext;rw[et,bM];rfl
  ext;rw[c2];ext;rw[j0a,eb];ext;rw[jhg (by simp only[xj,Xm];omega) rfl];ext;rw[cc,ag];simp
end
end KW
section
namespace K50
open PySem PySem.Spec PyProof.Rows L2
noncomputable section
noncomputable def top(i:Nat):aJ:=PySem.Challenge.pw_leastasks_k50_groups.main.body.getD i (.Pass ⟨0,0,0,0⟩)
noncomputable def Vb:Sx:=(.seq (.expr (.call "refuse_wrong_size" (.cons (.var 0) .nil))) (.seq (.ret (.call "all_choices" (.cons (.bin .mul (.lst (.cons (.glob "ANSWERS") .nil)) (.var 0)) .nil))) .nop))
noncomputable def Uk:Fi:=⟨1,1,Vb,a5⟩
noncomputable def Qe:Sx:=(.seq (.ret (.call "number_of" (.cons (.var 0) (.cons (.blt .len (.cons (.glob "ANSWERS") .nil)) .nil)))) .nop)
noncomputable def V4:Fi:=⟨1,1,Qe,a5⟩
noncomputable def vh:Sx:=(.seq (.ife (.or (.cmp .lt (.var 0) (.glob "FEWEST_PLACES")) (.cmp .gt (.var 0) (.glob "MOST_PLACES"))) (.seq (.raise "WrongSize" (.fst (.cons (.lit (.str "there are ")) (.cons (.glob "FEWEST_PLACES") (.cons (.lit (.str " to ")) (.cons (.glob "MOST_PLACES") (.cons (.lit (.str " places, not ")) (.cons (.var 0) .nil)))))))) .nop) .nop) .nop)
noncomputable def Jm:Fi:=⟨1,1,vh,a5⟩
noncomputable def vz:Sx:=(.seq (.set 1 (.lst (.cons (.tup .nil) .nil))) (.seq (.loop [2] (.seq (.var 0)) (.seq (.set 3 (.lst .nil)) (.seq (.loop [4] (.seq (.var 1)) (.seq (.ext 3 (.comp [5] (.bin .add (.var 4) (.tup (.cons (.var 5) .nil))) (.seq (.var 2)) .nil)) .nop)) (.seq (.mov 1 3) .nop)))) (.seq (.retV 1) .nop)))
noncomputable def fP_all_choices:Fi:=⟨1,6,vz,a5⟩
noncomputable def Z2:Sx:=(.seq (.set 2 (.lit (.int 0))) (.seq (.loop [3] (.seq (.var 0)) (.seq (.set 2 (.bin .add (.bin .mul (.var 2) (.var 1)) (.var 3))) .nop)) (.seq (.retV 2) .nop)))
noncomputable def Vs:Fi:=⟨2,4,Z2,a5⟩
noncomputable def Z4:Sx:=(.seq (.ret (.ix (.ix (.var 0) (.lit (.int 1))) (.call "row_number" (.cons (.var 1) .nil)))) .nop)
noncomputable def Vu:Fi:=⟨2,2,Z4,a5⟩
noncomputable def Jx:Sx:=(.seq (.expr (.call "refuse_other_order" (.cons (.ix (.var 0) (.lit (.int 0))) (.cons (.var 1) .nil)))) (.seq (.set 2 (.comp [3] (.tix (.var 1) (.var 3)) (.seq (.ix (.var 0) (.lit (.int 0)))) .nil)) (.seq (.set 4 (.comp [5] (.call "picked" (.cons (.var 5) (.cons (.var 2) .nil))) (.seq (.call "rows_of" (.cons (.blt .len (.cons (.var 1) .nil)) .nil))) .nil)) (.seq (.ret (.tup (.cons (.blt .tuple (.cons (.var 1) .nil)) (.cons (.blt .tuple (.cons (.comp [5] (.call "answer_to" (.cons (.var 0) (.cons (.var 5) .nil))) (.seq (.var 4)) .nil) .nil)) .nil)))) .nop))))
noncomputable def Qy:Fi:=⟨2,6,Jx,a5⟩
noncomputable def Z1:Sx:=(.seq (.ife (.cmp .notin (.var 1) (.ix (.var 0) (.lit (.int 0)))) (.seq (.raise "NoPlace" (.fst (.cons (.rpr (.var 1)) (.cons (.lit (.str " is no place of the question")) .nil)))) .nop) .nop) (.seq (.ret (.tix (.ix (.var 0) (.lit (.int 0))) (.var 1))) .nop))
noncomputable def Qx:Fi:=⟨2,2,Z1,a5⟩
noncomputable def Yk:Sx:=(.seq (.ret (.blt .tuple (.cons (.comp [2] (.ix (.var 0) (.var 2)) (.seq (.var 1)) .nil) .nil))) .nop)
noncomputable def Wi:Fi:=⟨2,3,Yk,a5⟩
noncomputable def zq:Sx:=(.seq (.ife (.cmp .ne (.srt (.var 1)) (.srt (.var 0))) (.seq (.raise "NoPlace" (.lit (.str "the order is to have each place of the question once, and no others"))) .nop) .nop) .nop)
noncomputable def zj:Fi:=⟨2,2,zq,a5⟩
noncomputable def v9:Sx:=(.seq (.set 3 (.call "spot_of" (.cons (.var 0) (.cons (.var 1) .nil)))) (.seq (.set 4 (.call "spot_of" (.cons (.var 0) (.cons (.var 2) .nil)))) (.seq (.set 5 (.blt .list (.cons (.ix (.var 0) (.lit (.int 0))) .nil))) (.seq (.put 5 (.var 3) (.var 2)) (.seq (.put 5 (.var 4) (.var 1)) (.seq (.keep 5) (.seq (.ret (.cmp .eq (.ix (.call "put_in_order" (.cons (.var 0) (.cons (.var 5) .nil))) (.lit (.int 1))) (.ix (.var 0) (.lit (.int 1))))) .nop)))))))
noncomputable def zx:Fi:=⟨3,6,v9,a5⟩
noncomputable def Z3:Sx:=(.seq (.set 1 (.lst .nil)) (.seq (.loop [2] (.seq (.ix (.var 0) (.lit (.int 0)))) (.seq (.ife (.not (.blt .any (.cons (.comp [3] (.cmp .isin (.var 2) (.var 3)) (.seq (.var 1)) .nil) .nil))) (.seq (.app 1 (.comp [4] (.var 4) (.seq (.ix (.var 0) (.lit (.int 0)))) (.cons (.call "may_exchange" (.cons (.var 0) (.cons (.var 2) (.cons (.var 4) .nil)))) .nil))) .nop) .nop) .nop)) (.seq (.retV 1) .nop)))
noncomputable def Vt:Fi:=⟨1,5,Z3,a5⟩
noncomputable def Jf:Sx:=(.seq (.expr (.call "refuse_other_order" (.cons (.var 1) (.cons (.var 2) .nil)))) (.seq (.ret (.call "picked" (.cons (.var 0) (.cons (.comp [3] (.tix (.var 1) (.var 3)) (.seq (.var 2)) .nil) .nil)))) .nop))
noncomputable def Jd:Fi:=⟨3,4,Jf,a5⟩
noncomputable def Vj:Sx:=(.seq (.ife (.cmp .lt (.var 1) (.blt .len (.cons (.var 0) .nil))) (.seq (.ret (.ix (.var 0) (.var 1))) .nop) .nop) (.seq (.set 2 (.bin .add (.lit (.int 70001)) (.bin .mul (.bin .mul (.lit (.int 911)) (.var 1)) (.var 1)))) (.seq (.ife (.cmp .gt (.blt .len (.cons (.var 0) .nil)) (.lit (.int 0))) (.seq (.set 2 (.bin .add (.var 2) (.bin .mul (.bin .mod (.ix (.var 0) (.lit (.int 0))) (.lit (.int 9973))) (.bin .add (.bin .mul (.lit (.int 3)) (.var 1)) (.lit (.int 1)))))) .nop) .nop) (.seq (.retV 2) .nop))))
noncomputable def fL_cell:Fi:=⟨2,3,Vj,a5⟩
noncomputable def Qj:Sx:=(.seq (.set 2 (.lit (.str "mdkbvqhzcgrnapxolsiefwtyju"))) (.seq (.ife (.cmp .lt (.bin .mod (.var 0) (.lit (.int 4))) (.lit (.int 2))) (.seq (.set 3 (.join "" (.comp [4] (.ix (.var 2) (.bin .mod (.bin .fdiv (.var 0) (.bin .add (.lit (.int 4)) (.bin .mul (.lit (.int 5)) (.var 4)))) (.lit (.int 26)))) (.range (.cons (.lit (.int 8)) .nil)) .nil))) (.seq (.set 5 (.bin .mod (.bin .fdiv (.var 0) (.lit (.int 8))) (.bin .sub (.lit (.int 9)) (.var 1)))) (.seq (.ife (.cmp .eq (.bin .mod (.var 0) (.lit (.int 4))) (.lit (.int 0))) (.seq (.ret (.comp [4] (.sl (.var 3) .nil (.cons (.bin .add (.bin .add (.var 5) (.var 4)) (.lit (.int 1))) .nil)) (.range (.cons (.var 1) .nil)) .nil)) .nop) .nop) (.seq (.ret (.comp [4] (.sl (.var 3) (.cons (.bin .sub (.bin .sub (.bin .sub (.lit (.int 8)) (.var 5)) (.var 4)) (.lit (.int 1))) .nil) .nil) (.range (.cons (.var 1) .nil)) .nil)) .nop)))) .nop) (.seq (.set 6 (.bin .mod (.bin .fdiv (.var 0) (.lit (.int 4))) (.lit (.int 8)))) (.seq (.set 7 (.join "" (.comp [4] (.ix (.var 2) (.bin .mod (.bin .add (.bin .add (.bin .fdiv (.var 0) (.lit (.int 32))) (.bin .mul (.bin .mul (.lit (.int 3)) (.var 4)) (.var 4))) (.var 4)) (.lit (.int 26)))) (.range (.cons (.var 6) .nil)) .nil))) (.seq (.set 8 (.bin .mod (.bin .fdiv (.var 0) (.lit (.int 512))) (.bin .add (.var 6) (.lit (.int 1))))) (.seq (.ret (.comp [4] (.bin .add (.bin .add (.sl (.var 7) .nil (.cons (.var 8) .nil)) (.ix (.var 2) (.bin .mod (.bin .add (.bin .fdiv (.var 0) (.lit (.int 9))) (.bin .mul (.lit (.int 7)) (.var 4))) (.lit (.int 26))))) (.sl (.var 7) (.cons (.var 8) .nil) .nil)) (.range (.cons (.var 1) .nil)) .nil)) .nop))))))
noncomputable def fL_words:Fi:=⟨2,9,Qj,a5⟩
noncomputable def U5:Sx:=(.seq (.set 3 (.comp [4] (.var 4) (.range (.cons (.blt .len (.cons (.var 0) .nil)) .nil)) (.cons (.cmp .eq (.bin .mod (.bin .fdiv (.var 2) (.bin .shl (.lit (.int 1)) (.var 4))) (.lit (.int 2))) (.lit (.int 1))) .nil))) (.seq (.set 5 (.blt .sum (.cons (.comp [4] (.bin .shl (.ix (.var 0) (.var 4)) (.var 4)) (.seq (.var 3)) .nil) .nil))) (.seq (.set 6 (.blt .sum (.cons (.comp [4,7] (.bin .shl (.var 7) (.var 4)) (.enum (.var 0)) .nil) .nil))) (.seq (.ife (.cmp .eq (.var 1) (.lit (.int 1))) (.seq (.ret (.blt .int (.cons (.cmp .gt (.blt .sum (.cons (.var 0) .nil)) (.bin .mod (.bin .fdiv (.var 2) (.lit (.int 64))) (.blt .len (.cons (.var 0) .nil)))) .nil))) .nop) .nop) (.seq (.ife (.cmp .eq (.var 1) (.lit (.int 2))) (.seq (.set 8 (.bin .mod (.bin .mul (.bin .add (.var 6) (.lit (.int 1))) (.bin .add (.lit (.int 1)) (.bin .mod (.var 2) (.lit (.int 1000003))))) (.lit (.int 2147483629)))) (.seq (.ret (.blt .int (.cons (.cmp .eq (.bin .mod (.bin .fdiv (.var 8) (.lit (.int 32))) (.lit (.int 5))) (.lit (.int 0))) .nil))) .nop)) .nop) (.seq (.ife (.cmp .eq (.var 1) (.lit (.int 3))) (.seq (.set 8 (.bin .mul (.bin .add (.bin .add (.bin .mul (.var 5) (.var 5)) (.bin .mul (.lit (.int 17)) (.var 5))) (.lit (.int 69621))) (.bin .add (.lit (.int 1)) (.bin .mod (.var 2) (.lit (.int 1000003)))))) (.seq (.ret (.bin .mod (.bin .fdiv (.bin .mod (.var 8) (.lit (.int 2147483647))) (.lit (.int 16))) (.lit (.int 2)))) .nop)) .nop) (.seq (.ife (.cmp .eq (.var 1) (.lit (.int 4))) (.seq (.ret (.bin .mod (.bin .add (.blt .sum (.cons (.comp [4] (.ix (.var 0) (.var 4)) (.seq (.var 3)) .nil) .nil)) (.bin .fdiv (.var 2) (.lit (.int 64)))) (.lit (.int 2)))) .nop) .nop) (.seq (.set 8 (.bin .mul (.bin .add (.bin .mul (.var 6) (.var 6)) (.lit (.int 48271))) (.bin .add (.bin .add (.bin .mod (.var 2) (.lit (.int 1000003))) (.var 6)) (.lit (.int 1))))) (.seq (.ret (.bin .mod (.bin .fdiv (.bin .mod (.var 8) (.lit (.int 2147483647))) (.lit (.int 64))) (.lit (.int 2)))) .nop)))))))))
noncomputable def fL_bit:Fi:=⟨3,9,U5,a5⟩
noncomputable def Jt:Sx:=(.seq (.set 3 (.bin .add (.lit (.int 1)) (.bin .mod (.call "_law_cell" (.cons (.var 0) (.cons (.var 1) .nil))) (.var 2)))) (.seq (.set 4 (.call "_law_words" (.cons (.call "_law_cell" (.cons (.var 0) (.cons (.bin .add (.var 1) (.lit (.int 1))) .nil))) (.cons (.var 3) .nil)))) (.seq (.set 5 (.bin .mod (.bin .fdiv (.call "_law_cell" (.cons (.var 0) (.cons (.var 1) .nil))) (.var 2)) (.lit (.int 5)))) (.seq (.set 6 (.lst .nil)) (.seq (.loop [7] (.range (.cons (.bin .shl (.lit (.int 1)) (.var 3)) .nil)) (.seq (.set 8 (.comp [9] (.bin .mod (.bin .fdiv (.var 7) (.bin .shl (.lit (.int 1)) (.bin .sub (.bin .sub (.var 3) (.var 9)) (.lit (.int 1))))) (.lit (.int 2))) (.range (.cons (.var 3) .nil)) .nil)) (.seq (.app 6 (.call "_law_bit" (.cons (.var 8) (.cons (.var 5) (.cons (.call "_law_cell" (.cons (.var 0) (.cons (.bin .add (.var 1) (.lit (.int 2))) .nil))) .nil))))) .nop))) (.seq (.ret (.tup (.cons (.blt .tuple (.cons (.var 4) .nil)) (.cons (.blt .tuple (.cons (.var 6) .nil)) .nil)))) .nop))))))
noncomputable def fL_question:Fi:=⟨3,10,Jt,a5⟩
noncomputable def Zo:Sx:=(.seq (.ife (.isi (.var 1) ["list","tuple"]) (.seq (.ife (.or (.cmp .ne (.isi (.var 0) ["list"]) (.isi (.var 1) ["list"])) (.not (.isi (.var 0) ["list","tuple"]))) (.seq (.ret (.lit (.bl a5))) .nop) .nop) (.seq (.set 2 (.comp [3] (.var 3) (.range (.cons (.blt .min (.cons (.blt .len (.cons (.var 0) .nil)) (.cons (.blt .len (.cons (.var 1) .nil)) .nil))) .nil)) (.cons (.not (.call "_law_same" (.cons (.ix (.var 0) (.var 3)) (.cons (.ix (.var 1) (.var 3)) .nil)))) .nil))) (.seq (.ret (.and (.cmp .eq (.blt .len (.cons (.var 0) .nil)) (.blt .len (.cons (.var 1) .nil))) (.cmp .eq (.var 2) (.lst .nil)))) .nop))) .nop) (.seq (.ife (.isN (.var 1)) (.seq (.ret (.isN (.var 0))) .nop) .nop) (.seq (.ife (.or (.cmp .ne (.isi (.var 0) ["bool"]) (.isi (.var 1) ["bool"])) (.cmp .ne (.isi (.var 0) ["str"]) (.isi (.var 1) ["str"]))) (.seq (.ret (.lit (.bl a5))) .nop) .nop) (.seq (.ret (.and (.isi (.var 0) ["int","str"]) (.cmp .eq (.var 0) (.var 1)))) .nop))))
noncomputable def fL_same:Fi:=⟨2,4,Zo,a5⟩
noncomputable def Vz:Sx:=(.seq (.set 1 (.lst .nil)) (.seq (.ife (.isx 0 ["NoAsk","NoPlan","NoText","NoWord","Twice"]) (.seq (.app 1 (.lit (.str "one of the others"))) .nop) .nop) (.seq (.ife (.isx 0 ["Unlike","WrongAnswers","WrongPrices","WrongSize","WrongWeights"]) (.seq (.app 1 (.lit (.str "one of the others"))) .nop) .nop) (.seq (.ife (.isx 0 ["NoPlace"]) (.seq (.app 1 (.lit (.str "NoPlace"))) .nop) .nop) (.seq (.ife (.not (.isx 0 ["ValueError"])) (.seq (.app 1 (.lit (.str "no ValueError"))) .nop) .nop) (.seq (.retV 1) .nop))))))
noncomputable def Et:Fi:=⟨1,2,Vz,a5⟩
noncomputable def Bw:Sx:=(.seq (.set 2 (.lst .nil)) (.seq (.loop [3] (.range (.cons (.var 0) .nil)) (.seq (.app 2 (.bin .mod (.bin .fdiv (.var 1) (.bin .shl (.lit (.int 1)) (.bin .sub (.bin .sub (.var 0) (.var 3)) (.lit (.int 1))))) (.lit (.int 2)))) .nop)) (.seq (.ret (.blt .tuple (.cons (.var 2) .nil))) .nop)))
noncomputable def Er:Fi:=⟨2,4,Bw,a5⟩
noncomputable def Uw:Sx:=(.seq (.fgt 3) (.seq (.set 2 (.comp [3] (.var 3) (.range (.cons (.var 1) .nil)) .nil)) (.seq (.set 4 (.lst .nil)) (.seq (.set 5 (.bin .mod (.var 0) (.lit (.int 2147483647)))) (.seq (.loop [3] (.range (.cons (.var 1) .nil)) (.seq (.set 5 (.bin .mod (.bin .add (.bin .add (.bin .mul (.var 5) (.lit (.int 48271))) (.bin .mul (.lit (.int 7)) (.var 3))) (.lit (.int 1))) (.lit (.int 2147483647)))) (.seq (.apop 4 2 (.bin .mod (.bin .fdiv (.var 5) (.lit (.int 32))) (.blt .len (.cons (.var 2) .nil)))) .nop))) (.seq (.retV 4) .nop))))))
noncomputable def Mv:Fi:=⟨2,6,Uw,a5⟩
noncomputable def Zz:Sx:=(.seq (.set 2 (.lit (.str "mdkbvqhzcgrnapxolsiefwtyju"))) (.seq (.set 3 (.ix (.var 0) (.bin .mod (.var 1) (.blt .len (.cons (.var 0) .nil))))) (.seq (.set 4 (.ix (.var 2) (.bin .mod (.bin .fdiv (.var 1) (.lit (.int 64))) (.lit (.int 26))))) (.seq (.set 5 (.bin .add (.lst (.cons (.bin .add (.var 3) (.var 4)) (.cons (.bin .add (.var 4) (.var 3)) (.cons (.sl (.var 3) (.cons (.lit (.int 1)) .nil) .nil) (.cons (.sl (.var 3) .nil (.cons (.neg (.lit (.int 1))) .nil)) (.cons (.bin .add (.sl (.var 3) .nil (.cons (.neg (.lit (.int 1))) .nil)) (.var 4)) .nil)))))) (.comp [6] (.var 6) (.seq (.var 2)) .nil))) (.seq (.set 5 (.comp [7] (.var 7) (.seq (.var 5)) (.cons (.and (.chn (.lit (.int 0)) (.blt .len (.cons (.var 7) .nil)) (.lit (.int 9))) (.cmp .notin (.var 7) (.var 0))) .nil))) (.seq (.ret (.ix (.var 5) (.bin .mod (.bin .fdiv (.var 1) (.lit (.int 8))) (.blt .min (.cons (.lit (.int 6)) (.cons (.blt .len (.cons (.var 5) .nil)) .nil)))))) .nop))))))
noncomputable def Yq:Fi:=⟨2,8,Zz,a5⟩
noncomputable def Z6:Sx:=(.seq (.set 3 (.lst .nil)) (.seq (.loop [4] (.range (.cons (.bin .shl (.lit (.int 1)) (.var 1)) .nil)) (.seq (.set 5 (.blt .list (.cons (.call "_law_row" (.cons (.var 1) (.cons (.var 4) .nil))) .nil))) (.seq (.fgt 7) (.seq (.set 6 (.comp [7] (.var 7) (.range (.cons (.var 1) .nil)) (.cons (.cmp .eq (.bin .band (.bin .shr (.var 2) (.var 7)) (.lit (.int 1))) (.lit (.int 1))) .nil))) (.seq (.fgt 7) (.seq (.set 8 (.blt .sum (.cons (.comp [7] (.ix (.var 5) (.var 7)) (.seq (.var 6)) .nil) .nil))) (.seq (.loop [9,7] (.enum (.var 6)) (.seq (.put 5 (.var 7) (.blt .int (.cons (.cmp .lt (.var 9) (.var 8)) .nil))) .nop)) (.seq (.set 10 (.lit (.int 0))) (.seq (.loop [11] (.seq (.var 5)) (.seq (.set 10 (.bin .add (.bin .mul (.lit (.int 2)) (.var 10)) (.var 11))) .nop)) (.seq (.app 3 (.ix (.var 0) (.var 10))) .nop)))))))))) (.seq (.ret (.blt .tuple (.cons (.var 3) .nil))) .nop)))
noncomputable def Vv:Fi:=⟨3,12,Z6,a5⟩
noncomputable def Bx:Sx:=(.seq (.loop [4] (.range (.cons (.bin .shl (.lit (.int 1)) (.var 1)) .nil)) (.seq (.set 5 (.call "_law_row" (.cons (.var 1) (.cons (.var 4) .nil)))) (.seq (.ife (.cmp .ne (.ix (.var 5) (.var 2)) (.ix (.var 5) (.var 3))) (.seq (.set 6 (.bin .bxor (.bin .bxor (.var 4) (.bin .shl (.lit (.int 1)) (.bin .sub (.bin .sub (.var 1) (.var 2)) (.lit (.int 1))))) (.bin .shl (.lit (.int 1)) (.bin .sub (.bin .sub (.var 1) (.var 3)) (.lit (.int 1)))))) (.seq (.ife (.cmp .ne (.ix (.var 0) (.var 6)) (.ix (.var 0) (.var 4))) (.seq (.ret (.lit (.bl a5))) .nop) .nop) .nop)) .nop) .nop))) (.seq (.ret (.lit (.bl a6))) .nop))
noncomputable def Es:Fi:=⟨4,7,Bx,a5⟩
noncomputable def Vc:Sx:=(.seq (.set 3 (.lst .nil)) (.seq (.tryK (.seq (.expr (.call "may_exchange" (.cons (.var 0) (.cons (.var 1) (.cons (.var 2) .nil))))) .nop) 3 4) (.seq (.ret (.cmp .eq (.var 3) (.lst (.cons (.lit (.str "NoPlace")) .nil)))) .nop)))
noncomputable def Ul:Fi:=⟨3,5,Vc,a5⟩
noncomputable def Q9:Sx:=(.seq (.set 3 (.lst .nil)) (.seq (.tryK (.seq (.expr (.call "part_carried" (.cons (.var 0) (.cons (.var 1) (.cons (.var 2) .nil))))) .nop) 3 4) (.seq (.ret (.cmp .eq (.var 3) (.lst (.cons (.lit (.str "NoPlace")) .nil)))) .nop)))
noncomputable def Zh:Fi:=⟨3,5,Q9,a5⟩
noncomputable def Uv:Sx:=(.seq (.set 3 (.bin .mod (.bin .fdiv (.var 2) (.lit (.int 8))) (.blt .len (.cons (.var 0) .nil)))) (.seq (.ife (.cmp .eq (.bin .mod (.var 2) (.lit (.int 4))) (.lit (.int 0))) (.seq (.ret (.bin .add (.bin .add (.sl (.var 0) .nil (.cons (.var 3) .nil)) (.lst (.cons (.var 1) .nil))) (.sl (.var 0) (.cons (.bin .add (.var 3) (.lit (.int 1))) .nil) .nil))) .nop) .nop) (.seq (.ife (.cmp .eq (.bin .mod (.var 2) (.lit (.int 4))) (.lit (.int 1))) (.seq (.ret (.bin .add (.sl (.var 0) .nil (.cons (.var 3) .nil)) (.sl (.var 0) (.cons (.bin .add (.var 3) (.lit (.int 1))) .nil) .nil))) .nop) .nop) (.seq (.set 4 (.ix (.var 0) (.bin .mod (.bin .add (.bin .add (.var 3) (.lit (.int 1))) (.bin .mod (.bin .fdiv (.var 2) (.lit (.int 64))) (.blt .max (.cons (.lit (.int 1)) (.cons (.bin .sub (.blt .len (.cons (.var 0) .nil)) (.lit (.int 1))) .nil))))) (.blt .len (.cons (.var 0) .nil))))) (.seq (.ife (.and (.cmp .eq (.bin .mod (.var 2) (.lit (.int 4))) (.lit (.int 2))) (.cmp .gt (.blt .len (.cons (.var 0) .nil)) (.lit (.int 1)))) (.seq (.ret (.bin .add (.bin .add (.sl (.var 0) .nil (.cons (.var 3) .nil)) (.lst (.cons (.var 4) .nil))) (.sl (.var 0) (.cons (.bin .add (.var 3) (.lit (.int 1))) .nil) .nil))) .nop) .nop) (.seq (.ret (.bin .add (.bin .add (.sl (.var 0) .nil (.cons (.var 3) .nil)) (.lst (.cons (.var 4) .nil))) (.sl (.var 0) (.cons (.var 3) .nil) .nil))) .nop))))))
noncomputable def Mu:Fi:=⟨3,5,Uv,a5⟩
noncomputable def j3d:Sx:=(.seq (.unp 1 2 (.call "_law_question" (.cons (.var 0) (.cons (.lit (.int 0)) (.cons (.lit (.int 6)) .nil))))) (.seq (.set 3 (.blt .len (.cons (.var 1) .nil))) (.seq (.set 4 (.call "_law_cell" (.cons (.var 0) (.cons (.lit (.int 3)) .nil)))) (.seq (.ife (.cmp .eq (.bin .mod (.var 4) (.lit (.int 3))) (.lit (.int 0))) (.seq (.set 2 (.call "_law_alike_for" (.cons (.var 2) (.cons (.var 3) (.cons (.bin .mod (.bin .fdiv (.var 4) (.lit (.int 3))) (.lit (.int 64))) .nil))))) .nop) .nop) (.seq (.set 5 (.tup (.cons (.var 1) (.cons (.var 2) .nil)))) (.seq (.set 6 (.lst .nil)) (.seq (.loop [7] (.range (.cons (.var 3) .nil)) (.seq (.fgt 9) (.seq (.set 8 (.comp [9] (.call "_law_may" (.cons (.var 2) (.cons (.var 3) (.cons (.var 7) (.cons (.var 9) .nil))))) (.range (.cons (.var 3) .nil)) .nil)) (.seq (.loop [9] (.range (.cons (.var 3) .nil)) (.seq (.ife (.not (.call "_law_same" (.cons (.call "may_exchange" (.cons (.var 5) (.cons (.ix (.var 1) (.var 7)) (.cons (.ix (.var 1) (.var 9)) .nil)))) (.cons (.ix (.var 8) (.var 9)) .nil)))) (.seq (.ret (.lit (.bl a5))) .nop) .nop) .nop)) (.seq (.ife (.cmp .eq (.tix (.var 8) (.lit (.bl a6))) (.var 7)) (.seq (.fgt 9) (.seq (.app 6 (.comp [9] (.ix (.var 1) (.var 9)) (.range (.cons (.var 3) .nil)) (.cons (.ix (.var 8) (.var 9)) .nil))) .nop)) .nop) .nop))))) (.seq (.prm (Ft 10 11 "groups_of" (.cons (.var 5) .nil) (.not (.call "_law_same" (.cons (.var 10) (.cons (.var 6) .nil)))))) (.seq (.set 12 (.comp [13] (.ix (.var 1) (.var 13)) (.seq (.call "_law_order" (.cons (.call "_law_cell" (.cons (.var 0) (.cons (.lit (.int 4)) .nil))) (.cons (.var 3) .nil)))) .nil)) (.seq (.fgt 7) (.seq (.set 14 (.blt .tuple (.cons (.comp [7] (.bin .mod (.bin .fdiv (.call "_law_cell" (.cons (.var 0) (.cons (.lit (.int 5)) .nil))) (.ix (.lst (.cons (.lit (.int 1)) (.cons (.lit (.int 3)) (.cons (.lit (.int 9)) (.cons (.lit (.int 27)) (.cons (.lit (.int 81)) (.cons (.lit (.int 243)) .nil))))))) (.var 7))) (.lit (.int 3))) (.range (.cons (.var 3) .nil)) .nil) .nil))) (.seq (.set 15 (.blt .tuple (.cons (.comp [16] (.ix (.var 14) (.tix (.var 1) (.var 16))) (.seq (.var 12)) .nil) .nil))) (.seq (.ife (.not (.call "_law_same" (.cons (.call "part_carried" (.cons (.var 14) (.cons (.var 1) (.cons (.blt .list (.cons (.var 12) .nil)) .nil)))) (.cons (.var 15) .nil)))) (.seq (.ret (.lit (.bl a5))) .nop) .nop) (.seq (.set 17 (.call "_law_stranger" (.cons (.var 1) (.cons (.call "_law_cell" (.cons (.var 0) (.cons (.lit (.int 6)) .nil))) .nil)))) (.seq (.ife (.or (.not (.call "_law_strange" (.cons (.var 5) (.cons (.var 17) (.cons (.ix (.var 1) (.lit (.int 0))) .nil))))) (.not (.call "_law_strange" (.cons (.var 5) (.cons (.ix (.var 1) (.neg (.lit (.int 1)))) (.cons (.var 17) .nil)))))) (.seq (.ret (.lit (.bl a5))) .nop) .nop) (.seq (.ife (.not (.call "_law_strange" (.cons (.var 5) (.cons (.var 17) (.cons (.var 17) .nil))))) (.seq (.ret (.lit (.bl a5))) .nop) .nop) (.seq (.set 18 (.call "_law_wrong" (.cons (.var 12) (.cons (.var 17) (.cons (.call "_law_cell" (.cons (.var 0) (.cons (.lit (.int 7)) .nil))) .nil))))) (.seq (.ret (.and (.call "_law_not_carried" (.cons (.var 14) (.cons (.var 1) (.cons (.var 18) .nil)))) (.call "_law_same" (.cons (.call "groups_of" (.cons (.var 5) .nil)) (.cons (.var 6) .nil))))) .nop))))))))))))))))))
noncomputable def j32:Fi:=⟨1,19,j3d,a5⟩
noncomputable def Vq:Fi:=⟨1,5,.seq (.prm (Uj 1 2 (.seq (.ix (.var 0) (.lit (.int 0)))) (.not (.blt .any (.cons (.comp [3] (.cmp .isin (.var 2) (.var 3)) (.seq (.var 1)) .nil) .nil))) (.comp [4] (.var 4) (.seq (.ix (.var 0) (.lit (.int 0)))) (.cons (.call "may_exchange" (.cons (.var 0) (.cons (.var 2) (.cons (.var 4) .nil)))) .nil)))) .nop,a5⟩
noncomputable def tbl:List (af×Fi):=("&groups_of",Vq)::("rows_of",Uk)::("row_number",V4)::("refuse_wrong_size",Jm)::("all_choices",fP_all_choices)::("number_of",Vs)::("answer_to",Vu)::("put_in_order",Qy)::("spot_of",Qx)::("picked",Wi)::("refuse_other_order",zj)::("may_exchange",zx)::("groups_of",Vt)::("part_carried",Jd)::("_law_cell",fL_cell)::("_law_words",fL_words)::("_law_bit",fL_bit)::("_law_question",fL_question)::("_law_same",fL_same)::("_law_kinds",Et)::("_law_row",Er)::("_law_order",Mv)::("_law_stranger",Yq)::("_law_alike_for",Vv)::("_law_may",Es)::("_law_strange",Ul)::("_law_not_carried",Zh)::("_law_wrong",Mu)::("law",j32)::[]
noncomputable def T(x:af):Option Fi:=tbl.lookup x
noncomputable def gs:List (af×D):=[("FEWEST_PLACES",.int 1),("MOST_PLACES",.int 6),("ANSWERS",.tup [.int 0,.int 1])]
noncomputable def xs:List (af×List D):=[("WrongSize",[.str "one of the others"]),("NoAsk",[.str "one of the others"]),("NoWord",[.str "one of the others"]),("Twice",[.str "one of the others"]),("WrongAnswers",[.str "one of the others"]),("Unlike",[.str "one of the others"]),("NoPlace",[.str "NoPlace"]),("NoText",[.str "one of the others"]),("WrongPrices",[.str "one of the others"]),("WrongWeights",[.str "one of the others"]),("NoPlan",[.str "one of the others"])]
noncomputable def qs:List af:=[]
noncomputable abbrev G:af->Option D:=Gof gs a6 xs qs
end
end K50
end
section
open PySem PySem.Spec PyProof.Rows L2
local macro_rules | `(tactic| walk_at "vis")=>`(tactic| first | exact Or.inl rfl | exact Or.inr (Or.inl rfl) | exact Or.inr (Or.inr rfl))
local macro_rules | `(tactic| walk_at "loc")=>`(tactic| first | exact Or.inl rfl | exact Or.inr rfl)
local macro_rules | `(tactic| walk_at "nm")=>`(tactic| repeat (first | exact rfl | refine ⟨_,_,rfl,by decide,by decide,by rfl,by decide,by rfl,?_⟩))
local macro_rules | `(tactic| walk_at "cap")=>`(tactic| repeat (first | exact rfl | refine ⟨_,_,rfl,by rfl,by rfl,by rfl,by rfl,?_⟩))
local macro_rules | `(tactic| walk_at "ts")=>`(tactic| first
 |exact Tr.int|exact Tr.bl|exact Tr.str
 |exact Tr.var (by rfl) (by walk_at "vis") (by decide) (by decide)|exact Tr.glob (by rfl) (by decide) (by decide)
 |refine Tr.bin ?_ ?_|refine Tr.neg ?_|refine Tr.cmp (by rfl) ?_ ?_|refine Tr.bcmp (by rfl) ?_ ?_|refine Tr.isN ?_|refine Tr.bisN ?_|refine Tr.isNN ?_|refine Tr.bisNN ?_
 |refine Tr.and ?_ ?_|refine Tr.or ?_ ?_|refine Tr.one ?_|refine Tr.not ?_
 |refine Tr.wand ?_ ?_|refine Tr.wor ?_ ?_|refine Tr.wand1 ?_|refine Tr.wor1 ?_|refine Tr.bw ?_|refine Tr.bnot ?_
 |exact Tr.nil|refine Tr.cons (by rfl) ?_ ?_|refine Tr.tup ?_|refine Tr.lst ?_
 |refine Tr.ix (by intro _ _;rfl) ?_ ?_|exact Tr.oN|refine Tr.oS ?_|refine Tr.sl ?_ ?_ ?_
 |refine Tr.chn (by with_unfolding_all rfl) ?_ ?_ ?_|refine Tr.bchn (by with_unfolding_all rfl) ?_ ?_ ?_
 |refine Tr.max (by rfl) (by rfl) ?_|refine Tr.max1 (by rfl) (by rfl) ?_
 |refine Tr.call (by rfl) (by decide) (by rfl) (by rfl) ?_
 |refine Tr.tix (by rfl) (by rfl) (by rfl) (by rfl) ?_ ?_|refine Tr.srt (by rfl) (by rfl) ?_|refine Tr.len (by rfl) ?_|refine Tr.any (by rfl) (by rfl) ?_|refine Tr.tuple (by rfl) ?_|refine Tr.list (by rfl) ?_|refine Tr.min (by rfl) (by rfl) ?_
 |refine Tr.sum (by rfl) (by rfl) ?_|refine Tr.intc (by rfl) ?_|refine Tr.join (by rfl) (by rfl) (by rfl) (by rfl) ?_|refine Tr.enum (by rfl) (by rfl) ?_
 |refine Tr.isi1 (by decide) (by decide +kernel) (by rfl) (by rfl) (by decide) (by decide) (by rfl) ?_
 |refine Tr.isi2 (by decide) (by decide) (by decide +kernel) (by decide +kernel) (by rfl) (by rfl) (by rfl) (by decide) (by decide) (by decide) (by decide) (by rfl) ?_
 |exact Tr.c0|refine Tr.c1 ?_
 |refine Tr.comp1 (by rfl) (by rfl) (by rfl) (by rfl) (by rfl) (by intro _;rfl) ?_ ?_ ?_
 |refine Tr.comp2 (by rfl) (by decide) (by rfl) (by rfl) (by rfl) (by rfl) (by rfl) (by rfl) (by intro _;rfl) ?_ ?_ ?_
 |refine Tr.seq ?_|refine Tr.range (by rfl) ?_
 |exact Tr.p0|refine Tr.pC ?_|refine Tr.pR ?_ ?_|refine Tr.pF (by rfl) ?_ ?_|refine Tr.fst ?_
 |exact Tr.isxV (by rfl) (by walk_at "vis") (by decide) (by decide) (by rfl) (by rfl) (by rfl)
 |exact Tr.isx1 (by decide) (by decide) (by rfl) (by walk_at "vis") (by decide) (by decide) (by rfl) (by rfl) (by decide) (by rfl)
 |exact Tr.isxN (by walk_at "nm") (by decide) (by rfl) (by walk_at "vis") (by decide) (by decide) (by rfl) (by rfl)
 |exact Tr.isx2 (by decide) (by decide) (by decide) (by decide) (by rfl) (by walk_at "vis") (by decide) (by decide) (by rfl) (by rfl) (by rfl) (by decide) (by decide) (by rfl)
 |refine Tr.bval (by intro _;rfl) ?_
 |refine Ts.unp (by rfl) (by rfl) (by rfl) (by walk_at "loc") (by walk_at "loc") (by exact aN rfl) (by exact aN rfl) (by rfl) (by rfl) ?_
 |refine' Ts.lend (by rfl) (by decide) (by rfl) (by rfl) (by walk_at "loc") (by walk_at "loc") (by exact aN rfl) (by exact aN rfl) (by intro _;rfl) (by rfl) (by rfl) (by rfl) (by walk_at "vis") (by decide) (by decide) (by rfl) (by rfl) ?_ ?_|refine' Ts.lent (by rfl) (by walk_at "loc") (by walk_at "vis") (by exact aN rfl) (by decide) (by decide) (by rfl) (by rfl) (by rfl) ?_ ?_ ?_ ?_ ?_|refine TMt.set (by rfl) (by walk_at "loc") (by rfl) (by exact aN rfl) ?_ ?_|refine TMt.ife ?_ ?_ ?_ ?_|exact TMt.nil|exact TMs.nil|exact TMs.fail|refine TMs.set (by rfl) (by walk_at "loc") (by rfl) (by exact aN rfl) ?_ ?_|refine TMs.ife ?_ ?_ ?_ ?_|exact⟨rfl,rfl,rfl,λ_ _=>rfl⟩
 |exact Ts.nil|refine Ts.fgt ?_|refine Ts.keep ?_|refine Ts.clrs (by rfl) (by rfl) (by decide) (by rfl) (by rfl) (by rfl) (by rfl) (by walk_at "loc") (by walk_at "loc") (by exact aN rfl) (by exact aN rfl) (by decide) (by decide) (by decide) (by decide) (by rfl) (by intro _;rfl) (by rfl) (by rfl) (by rfl) ?_ ?_ ?_
 |refine Ts.smk (by rfl) (by rfl) (by walk_at "loc") (by exact aN rfl) (by decide) (by decide) (by decide) (by rfl) (by rfl) (by walk_at "loc") (by walk_at "loc") (by exact aN rfl) (by exact aN rfl) (by rfl) (by rfl) (by intro _;rfl) ?_ ?_ ?_ ?_
 |refine Ts.turn (by rfl) (by rfl) (by walk_at "loc") (by exact aN rfl) (by decide) (by decide) (by rfl) (by intro _;rfl) (by rfl) (by walk_at "vis") (by decide) (by decide) (by rfl) (by rfl) (by rfl) (by rfl) (by rfl) ?_ ?_ ?_ ?_ ?_
 |refine Ts.cons ?_ ?_|exact Ts.pass|exact Ts.doc|exact Ts.fail
 |exact Ts.mov (by rfl) (by rfl) (by walk_at "loc") (by exact aN rfl) (by walk_at "vis") (by decide) (by decide)
 |refine Ts.setC1 (by rfl) (by rfl) (by walk_at "loc") (by exact aN rfl) (by rfl) (by rfl) (by rfl) (by rfl) (by rfl) (by intro _;rfl) ?_ ?_ ?_
 |refine Ts.setC2 (by rfl) (by rfl) (by walk_at "loc") (by exact aN rfl) (by rfl) (by decide) (by rfl) (by rfl) (by rfl) (by rfl) (by rfl) (by rfl) (by intro _;rfl) ?_ ?_ ?_
 |refine Ts.set (by rfl) (by walk_at "loc") (by rfl) (by exact aN rfl) ?_
 |exact Ts.retV (by rfl) (by walk_at "vis") (by decide) (by decide)|refine Ts.ret ?_
 |refine Ts.ife ?_ ?_ ?_|refine Ts.for1 (by rfl) (by rfl) (by walk_at "loc") (by exact aN rfl) (by intro _;rfl) ?_ ?_
 |refine Ts.for2 (by rfl) (by decide) (by rfl) (by rfl) (by walk_at "loc") (by walk_at "loc") (by exact aN rfl) (by exact aN rfl) (by intro _;rfl) ?_ ?_
 |refine Ts.apop (by rfl) (by walk_at "vis") (by decide) (by decide) (by rfl) (by walk_at "vis") (by decide) (by decide) (by rfl) (by rfl) (by rfl) (by rfl) (by rfl) (by rfl) (by rfl) (by rfl) (by rfl) ?_
 |refine Ts.app (by rfl) (by walk_at "vis") (by decide) (by decide) (by rfl) (by rfl) (by rfl) (by rfl) ?_
 |refine Ts.ext (by rfl) (by walk_at "vis") (by decide) (by decide) (by rfl) (by rfl) (by rfl) (by rfl) ?_
 |refine Ts.put (by rfl) (by walk_at "vis") (by decide) (by decide) (by intro _;rfl) (by rfl) (by rfl) ?_ ?_
 |refine Ts.raise (by rfl) (by rfl) (by decide) (by rfl) ?_
 |refine Ts.tryK (by rfl) (by rfl) (by rfl) (by rfl) (by rfl) (by rfl) (by rfl) (by decide) (by decide) (by rfl) (by walk_at "loc") (by exact aN rfl) (by exact aN rfl) (by rfl) (by rfl) (by rfl) ?_
 |refine Ts.expr (by rfl) ?_
 |refine MD.fill (by rfl) (by rfl) (by rfl) (by walk_at "vis") (by walk_at "vis") (by walk_at "loc") (by exact aN rfl) (by decide) (by decide) (by decide) (by decide) (by decide) (by decide) (by with_unfolding_all rfl) (by rfl) (by rfl) (by intro _ _;rfl) (by intro _ _;rfl) (by rfl) (by decide) (by rfl) (by rfl) ?_ ?_ ?_
 |refine MD.minc ?_ ⟨by rfl,by rfl,by walk_at "vis",by decide,by decide,by rfl,by rfl,by rfl,by rfl,by intro _;rfl,by rfl,by decide,by decide,by decide,by intro _ _ _ _ _;walk_at "vis",by intro _ _ _ _ _;rfl,by intro _ _ _ _ _;rfl,by intro _ _ _ _ _;rfl,?_⟩ (by rfl) (by rfl) (by intro _ _ _ _ _;rfl) (by intro _ _ _ _ _;rfl) ?_
 |refine MD.maxc ?_ ⟨by rfl,by rfl,by walk_at "vis",by decide,by decide,by rfl,by rfl,by rfl,by rfl,by intro _;rfl,by rfl,by decide,by decide,by decide,by intro _ _ _ _ _;walk_at "vis",by intro _ _ _ _ _;rfl,by intro _ _ _ _ _;rfl,by intro _ _ _ _ _;rfl,?_⟩ (by rfl) (by rfl)
 |refine SetT.cmp (by rfl) (by rfl) (by walk_at "loc") (by exact aN rfl) (by rfl) (by rfl) (by rfl) (by rfl) (by rfl) (by intro _;rfl) ?_ ?_ ?_
 |refine SetT.e (by rfl) (by walk_at "loc") (by rfl) (by exact aN rfl) ?_
 |exact MP.nop|refine MP.keep (by decide) ?_
 |refine MP.setC (by decide) (by rfl) (by rfl) (by walk_at "loc") (by exact aN rfl) (by rfl) (by rfl) (by rfl) (by rfl) (by rfl) (by intro _;rfl) ?_ ?_ ?_ ?_
 |refine MP.set (by decide) (by rfl) (by walk_at "loc") (by rfl) (by exact aN rfl) ?_ ?_
 |refine MP.ret ?_|refine MP.ifRet ?_ ?_ ?_
 |refine MP.ifAll (by rfl) (by rfl) (by decide) (by rfl) (by rfl) (by walk_at "vis") (by decide) (by decide) (by exact⟨_,rfl⟩) (by intro _;rfl) ?_ ?_
 |refine MP.ifRai (by rfl) (by rfl) (by decide) (by rfl) ?_ ?_ ?_
 |refine MP.takeIf (by decide) (by rfl) (by walk_at "vis") (by decide) (by decide) (by exact⟨_,rfl⟩) (by rfl) (by walk_at "loc") (by rfl) (by exact aN rfl) ?_ ?_ ?_
 |refine MP.take (by decide) (by rfl) (by walk_at "vis") (by decide) (by decide) (by exact⟨_,rfl⟩) (by rfl) (by walk_at "loc") (by rfl) (by exact aN rfl) ?_
 |refine MP.takeE (by rfl) (by walk_at "vis") (by decide) (by decide) (by exact⟨_,rfl⟩) (by rfl) ?_
 |refine MP.callS (by decide) (by exact⟨_,_,_,_,rfl,by rfl,by walk_at "vis",by decide,by decide,by rfl,by decide,by rfl,by rfl⟩) (by rfl) (by walk_at "loc") (by rfl) (by exact aN rfl) ?_ ?_
 |refine MP.ifCal (by exact⟨_,_,_,_,rfl,by rfl,by walk_at "vis",by decide,by decide,by rfl,by decide,by rfl,by rfl⟩) ?_ ?_ ?_
 |refine MP.appC (by decide) (by exact⟨_,_,_,_,rfl,by rfl,by walk_at "vis",by decide,by decide,by rfl,by decide,by rfl,by rfl⟩) (by rfl) (by walk_at "vis") (by decide) (by decide) (by rfl) (by rfl) (by rfl) (by rfl) (by rfl) ?_ ?_
 |refine MP.whlA (by rfl) (by walk_at "vis") (by decide) (by decide) (by exact⟨_,rfl⟩) ?_ ?_
 |intro C s H fp pn xe
 |intro C s H fp pn
 |intro pn xe)
local macro_rules | `(tactic| walk_at "bnd")=>`(tactic| (intro _ _ _ _ _ _ us hl; first | (obtain ⟨_,e⟩:=us1 hl; subst e; rfl) | (obtain ⟨_,_,e⟩:=us2 hl; subst e; rfl) | (obtain ⟨_,_,_,e⟩:=us3 hl; subst e; rfl) | (obtain ⟨_,_,_,_,e⟩:=us4 hl; subst e; rfl)))
local macro_rules | `(tactic| walk_at "sc")=>`(tactic| exact ⟨rfl,rfl,rfl,by decide +kernel,rfl,by decide +kernel,by decide +kernel⟩)
local macro_rules | `(tactic| walk_at "lk")=>`(tactic| first | walk_at "sc" | walk_at "bnd" | decide)
namespace K50
section
variable{P:ar}{w:aA}{K:k7x}{mg:k80}{base:aE}
theorem j0g:TrT P w K mg base "rows_of" ["many"] (top 17) Vb:=by
 intro f cdv A outer s H E xe;unfold Vb
 repeat' (walk_at "ts")
theorem N7:TrT P w K mg base "row_number" ["row"] (top 18) Qe:=by
 intro f cdv A outer s H E xe;unfold Qe
 repeat' (walk_at "ts")
theorem Ys:TrT P w K mg base "refuse_wrong_size" ["many"] (top 19) vh:=by
 intro f cdv A outer s H E xe;unfold vh
 repeat' (walk_at "ts")
theorem O5:TrT P w K mg base "all_choices" ["figures_by_spot","chosen","figures","longer","ahead","figure"] (top 20) vz:=by
 intro f cdv A outer s H E xe;unfold vz
 repeat' (walk_at "ts")
theorem Cy:TrT P w K mg base "number_of" ["figures","base","number","figure"] (top 21) Z2:=by
 intro f cdv A outer s H E xe;unfold Z2
 repeat' (walk_at "ts")
theorem La:TrT P w K mg base "answer_to" ["question","row"] (top 23) Z4:=by
 intro f cdv A outer s H E xe;unfold Z4
 repeat' (walk_at "ts")
theorem M4:TrT P w K mg base "put_in_order" ["question","places","spots","place","rows","row"] (top 24) Jx:=by
 intro f cdv A outer s H E xe;unfold Jx
 repeat' (walk_at "ts")
theorem j0f:TrT P w K mg base "spot_of" ["question","place"] (top 25) Z1:=by
 intro f cdv A outer s H E xe;unfold Z1
 repeat' (walk_at "ts")
theorem j2b:TrT P w K mg base "picked" ["row","spots","spot"] (top 26) Yk:=by
 intro f cdv A outer s H E xe;unfold Yk
 repeat' (walk_at "ts")
theorem Ym:TrT P w K mg base "refuse_other_order" ["places","order"] (top 27) zq:=by
 intro f cdv A outer s H E xe;unfold zq
 repeat' (walk_at "ts")
theorem M6:TrT P w K mg base "may_exchange" ["question","one","other","spot","other_spot","order"] (top 29) v9:=by
 intro f cdv A outer s H E xe;unfold v9
 repeat' (walk_at "ts")
theorem Cz:TrT P w K mg base "groups_of" ["question","groups","place","group","other"] (top 30) Z3:=by
 intro f cdv A outer s H E xe;unfold Z3
 repeat' (walk_at "ts")
theorem M5:TrT P w K mg base "part_carried" ["part","places","order","place"] (top 31) Jf:=by
 intro f cdv A outer s H E xe;unfold Jf
 repeat' (walk_at "ts")
theorem j6p:TrT P w K mg base "_law_cell" ["_law_script","_law_k","_law_spare"] (top 33) Vj:=by
 intro f cdv A outer s H E xe;unfold Vj
 repeat' (walk_at "ts")
theorem j3t:TrT P w K mg base "_law_words" ["_law_cell_here","_law_many","_law_letters","_law_long","_law_k","_law_start","_law_size","_law_stem","_law_at"] (top 34) Qj:=by
 intro f cdv A outer s H E xe;unfold Qj
 repeat' (walk_at "ts")
theorem jax:TrT P w K mg base "_law_bit" ["_law_row_here","_law_kind","_law_cell_here","_law_some","_law_k","_law_kept","_law_by_row","_law_one","_law_mixed"] (top 35) U5:=by
 intro f cdv A outer s H E xe;unfold U5
 repeat' (walk_at "ts")
theorem Kd:TrT P w K mg base "_law_question" ["_law_script","_law_at","_law_most","_law_many","_law_places","_law_kind","_law_answers","_law_number","_law_row_here","_law_k"] (top 36) Jt:=by
 intro f cdv A outer s H E xe;unfold Jt
 repeat' (walk_at "ts")
theorem j6o:TrT P w K mg base "_law_same" ["_law_found","_law_due","_law_unlike","_law_k"] (top 37) Zo:=by
 intro f cdv A outer s H E xe;unfold Zo
 repeat' (walk_at "ts")
theorem j3v:TrT P w K mg base "_law_kinds" ["_law_e","_law_some"] (top 38) Vz:=by
 intro f cdv A outer s H E xe;unfold Vz
 repeat' (walk_at "ts")
theorem j3w:TrH P w K mg base "_law_kinds" ["_law_e","_law_some"] (top 38) Vz:=by
 intro f cdv A outer s H;unfold Vz
 repeat' (walk_at "ts")
theorem jav:TrT P w K mg base "_law_row" ["_law_many","_law_number","_law_row_here","_law_k"] (top 39) Bw:=by
 intro f cdv A outer s H E xe;unfold Bw
 repeat' (walk_at "ts")
theorem j3u:TrT P w K mg base "_law_order" ["_law_cell_here","_law_many","_law_left","_law_k","_law_order_here","_law_draw"] (top 40) Uw:=by
 intro f cdv A outer s H E xe;unfold Uw
 repeat' (walk_at "ts")
theorem Kc:TrT P w K mg base "_law_stranger" ["_law_places","_law_cell_here","_law_letters","_law_one","_law_sign","_law_some","_law_letter","_law_word"] (top 41) Zz:=by
 intro f cdv A outer s H E xe;unfold Zz
 repeat' (walk_at "ts")
theorem Lb:TrT P w K mg base "_law_alike_for" ["_law_answers","_law_many","_law_mask","_law_told","_law_number","_law_row_here","_law_some","_law_k","_law_yeses","_law_at","_law_first","_law_one"] (top 42) Z6:=by
 intro f cdv A outer s H E xe;unfold Z6
 repeat' (walk_at "ts")
theorem jaw:TrT P w K mg base "_law_may" ["_law_answers","_law_many","_law_one","_law_other","_law_number","_law_row_here","_law_turned"] (top 43) Bx:=by
 intro f cdv A outer s H E xe;unfold Bx
 repeat' (walk_at "ts")
theorem j0h:TrT P w K mg base "_law_strange" ["_law_question_here","_law_one","_law_other","_law_kinds_here","_law_e"] (top 44) Vc:=by
 intro f cdv A outer s H E xe;unfold Vc
 repeat' (walk_at "ts")
theorem O6:TrT P w K mg base "_law_not_carried" ["_law_part","_law_places","_law_order_here","_law_kinds_here","_law_e"] (top 45) Q9:=by
 intro f cdv A outer s H E xe;unfold Q9
 repeat' (walk_at "ts")
theorem j3s:TrT P w K mg base "_law_wrong" ["_law_order_here","_law_strange_here","_law_cell_here","_law_at","_law_again"] (top 46) Uv:=by
 intro f cdv A outer s H E xe;unfold Uv
 repeat' (walk_at "ts")
theorem j9m:TrT P w K mg base "law" ["_law_script","_law_places","_law_answers","_law_many","_law_cell_here","_law_question_here","_law_groups","_law_k","_law_may_here","_law_j","_law_found","_law_group","_law_order_here","_law_spot","_law_part","_law_due","_law_place","_law_strange_here","_law_wrong_here"] (top 47) j3d:=by
 intro f cdv A outer s H E xe;unfold j3d
 repeat' (walk_at "ts")
theorem Ld:TrG P w K mg base "groups_of" ["question","groups","place","group","other"] (top 30) 1 2 (.seq (.ix (.var 0) (.lit (.int 0)))) (.not (.blt .any (.cons (.comp [3] (.cmp .isin (.var 2) (.var 3)) (.seq (.var 1)) .nil) .nil))) (.comp [4] (.var 4) (.seq (.ix (.var 0) (.lit (.int 0)))) (.cons (.call "may_exchange" (.cons (.var 0) (.cons (.var 2) (.cons (.var 4) .nil)))) .nil)):=by intro f cdv A outer s H E xe;refine⟨_,_,_,_,_,_,_,_,_,_,_,_,_,_,_,_,_,rfl,by rfl,by rfl,by rfl,by walk_at "loc",by walk_at "loc",by exact aN rfl,by exact aN rfl,by decide,by decide,by rfl,by intro _;rfl,by rfl,by rfl,by rfl,by rfl,by rfl,?_,?_,?_⟩<;>repeat' (walk_at "ts")
end
set_option maxHeartbeats 0 in
theorem head {l:d9} {w:aA} {K:k7x} {h:aE} {mg:k80} {fa:ae} (X:K.In h) (Gn:h.Ns aq mg) (hfa:mg "law" = a4 (.ref fa))
  (h0:Lf K "rows_of" (top 17))
  (h1:Lf K "row_number" (top 18))
  (h2:Lf K "refuse_wrong_size" (top 19))
  (h3:Lf K "all_choices" (top 20))
  (h4:Lf K "number_of" (top 21))
  (h5:Lf K "answer_to" (top 23))
  (h6:Lf K "put_in_order" (top 24))
  (h7:Lf K "spot_of" (top 25))
  (h8:Lf K "picked" (top 26))
  (h9:Lf K "refuse_other_order" (top 27))
  (h10:Lf K "may_exchange" (top 29))
  (h11:Lf K "groups_of" (top 30))
  (h12:Lf K "part_carried" (top 31))
  (h13:Lf K "_law_cell" (top 33))
  (h14:Lf K "_law_words" (top 34))
  (h15:Lf K "_law_bit" (top 35))
  (h16:Lf K "_law_question" (top 36))
  (h17:Lf K "_law_same" (top 37))
  (h18:Lf K "_law_kinds" (top 38))
  (h19:Lf K "_law_row" (top 39))
  (h20:Lf K "_law_order" (top 40))
  (h21:Lf K "_law_stranger" (top 41))
  (h22:Lf K "_law_alike_for" (top 42))
  (h23:Lf K "_law_may" (top 43))
  (h24:Lf K "_law_strange" (top 44))
  (h25:Lf K "_law_not_carried" (top 45))
  (h26:Lf K "_law_wrong" (top 46))
  (h27:Lf K "law" (top 47))
  (bz:bOk K=a6) {ts:List ae} (tz:tOk K ts=a6)
  {gt0:jL} {gt1:jL} {gt3:jL} {gt4:jL} {ga2:ae} {ga2n:Nat} {ga2s:Array (Option aa)}
  (gn0:fD K aq "FEWEST_PLACES" = a4 (a4 (.int 1 gt0))) (gn1:fD K aq "MOST_PLACES" = a4 (a4 (.int 6 gt1))) (ga2l:K.lookup ga2=a4 ⟨.type "tuple",a7,.seq #[.int 0 gt3,.int 1 gt4] ga2n,ga2s⟩) (gn2:fD K aq "ANSWERS" = a4 (a4 (.ref ga2)))
  (exa:Jv K=a6)
  (xz:xOk K=a6)
  {fu n:Nat} (hlaw:∀ns:List Int,ns.length<=63->evP fu G T (n+1) "law" [.lst (ns.map D.int)]=.val (.bl a6)) :
  ∃fd:aG,(∀(s:ah)(v:aa),fR s fd ⟨[v],[]⟩ [("_law_script",v)])/\∀base:aE,K.In base->base.Ns aq mg->FnOk l.prog w K mg base CX0 (lv (n+1)) fa fd ["_law_script"] (Lq K):=by
 have hL:=h27;obtain⟨f,oc,od,kV,dc,pm,an,cd,ct,sl,a,lk,c,k⟩:=hL;have e:=hfa.symm.trans (cV X Gn a);cases e;refine⟨iw "law" "law" (ql (top 47)) (jb (top 47)) (j0 (top 47)) .none kV dc pm an cd ct,λs v=>.of_eq rfl,λbase hKb hNb=>?_⟩;have hT:∀x F,T x=a4 F->LkF l.prog w K mg base x F:=λx F hx=>by
  have all:∀p∈tbl,LkF l.prog w K mg base p.1 p.2:=by
   intro p hp;simp only[tbl,xn,bO,or_false]at hp;rcases hp with rfl|rfl|rfl|rfl|rfl|rfl|rfl|rfl|rfl|rfl|rfl|rfl|rfl|rfl|rfl|rfl|rfl|rfl|rfl|rfl|rfl|rfl|rfl|rfl|rfl|rfl|rfl|rfl|rfl
   .exact jfq (gn:="groups_of") (by decide +kernel) h11 X Gn Ld "question" (by walk_at "sc") rfl rfl rfl rfl (by walk_at "bnd")
   .refine lkF (qp h0 X Gn j0g ["many"] ?_ rfl rfl ?_ ?_) rfl ?_ ?_<;>walk_at "lk"
   .refine lkF (qp h1 X Gn N7 ["row"] ?_ rfl rfl ?_ ?_) rfl ?_ ?_<;>walk_at "lk"
   .refine lkF (qp h2 X Gn Ys ["many"] ?_ rfl rfl ?_ ?_) rfl ?_ ?_<;>walk_at "lk"
   .refine lkF (qp h3 X Gn O5 ["figures_by_spot"] ?_ rfl rfl ?_ ?_) rfl ?_ ?_<;>walk_at "lk"
   .refine lkF (qp h4 X Gn Cy ["figures","base"] ?_ rfl rfl ?_ ?_) rfl ?_ ?_<;>walk_at "lk"
   .refine lkF (qp h5 X Gn La ["question","row"] ?_ rfl rfl ?_ ?_) rfl ?_ ?_<;>walk_at "lk"
   .refine lkF (qp h6 X Gn M4 ["question","places"] ?_ rfl rfl ?_ ?_) rfl ?_ ?_<;>walk_at "lk"
   .refine lkF (qp h7 X Gn j0f ["question","place"] ?_ rfl rfl ?_ ?_) rfl ?_ ?_<;>walk_at "lk"
   .refine lkF (qp h8 X Gn j2b ["row","spots"] ?_ rfl rfl ?_ ?_) rfl ?_ ?_<;>walk_at "lk"
   .refine lkF (qp h9 X Gn Ym ["places","order"] ?_ rfl rfl ?_ ?_) rfl ?_ ?_<;>walk_at "lk"
   .refine lkF (qp h10 X Gn M6 ["question","one","other"] ?_ rfl rfl ?_ ?_) rfl ?_ ?_<;>walk_at "lk"
   .refine lkF (qp h11 X Gn Cz ["question"] ?_ rfl rfl ?_ ?_) rfl ?_ ?_<;>walk_at "lk"
   .refine lkF (qp h12 X Gn M5 ["part","places","order"] ?_ rfl rfl ?_ ?_) rfl ?_ ?_<;>walk_at "lk"
   .refine lkF (qp h13 X Gn j6p ["_law_script","_law_k"] ?_ rfl rfl ?_ ?_) rfl ?_ ?_<;>walk_at "lk"
   .refine lkF (qp h14 X Gn j3t ["_law_cell_here","_law_many"] ?_ rfl rfl ?_ ?_) rfl ?_ ?_<;>walk_at "lk"
   .refine lkF (qp h15 X Gn jax ["_law_row_here","_law_kind","_law_cell_here"] ?_ rfl rfl ?_ ?_) rfl ?_ ?_<;>walk_at "lk"
   .refine lkF (qp h16 X Gn Kd ["_law_script","_law_at","_law_most"] ?_ rfl rfl ?_ ?_) rfl ?_ ?_<;>walk_at "lk"
   .refine lkF (qp h17 X Gn j6o ["_law_found","_law_due"] ?_ rfl rfl ?_ ?_) rfl ?_ ?_<;>walk_at "lk"
   .refine lkF (qp h18 X Gn j3v ["_law_e"] ?_ rfl rfl ?_ ?_) rfl ?_ ?_<;>walk_at "lk"
   .refine lkF (qp h19 X Gn jav ["_law_many","_law_number"] ?_ rfl rfl ?_ ?_) rfl ?_ ?_<;>walk_at "lk"
   .refine lkF (qp h20 X Gn j3u ["_law_cell_here","_law_many"] ?_ rfl rfl ?_ ?_) rfl ?_ ?_<;>walk_at "lk"
   .refine lkF (qp h21 X Gn Kc ["_law_places","_law_cell_here"] ?_ rfl rfl ?_ ?_) rfl ?_ ?_<;>walk_at "lk"
   .refine lkF (qp h22 X Gn Lb ["_law_answers","_law_many","_law_mask"] ?_ rfl rfl ?_ ?_) rfl ?_ ?_<;>walk_at "lk"
   .refine lkF (qp h23 X Gn jaw ["_law_answers","_law_many","_law_one","_law_other"] ?_ rfl rfl ?_ ?_) rfl ?_ ?_<;>walk_at "lk"
   .refine lkF (qp h24 X Gn j0h ["_law_question_here","_law_one","_law_other"] ?_ rfl rfl ?_ ?_) rfl ?_ ?_<;>walk_at "lk"
   .refine lkF (qp h25 X Gn O6 ["_law_part","_law_places","_law_order_here"] ?_ rfl rfl ?_ ?_) rfl ?_ ?_<;>walk_at "lk"
   .refine lkF (qp h26 X Gn j3s ["_law_order_here","_law_strange_here","_law_cell_here"] ?_ rfl rfl ?_ ?_) rfl ?_ ?_<;>walk_at "lk"
   .refine lkF (qp h27 X Gn j9m ["_law_script"] ?_ rfl rfl ?_ ?_) rfl ?_ ?_<;>walk_at "lk"
  exact all (x,F) (lookup_mem hx)
 have bt:=jjl X Gn bz;have gl:∀x d,gs.lookup x=a4 d->∃u v,mg x=a4 u/\RelV v u/\∀H,Enc K H d v:=by
  intro x d hx;have hm:=lookup_mem hx;simp only[gs,xn,bO,or_false,Prod.mk.injEq]at hm;rcases hm with ⟨e1,e2⟩|⟨e1,e2⟩|⟨e1,e2⟩
  .subst e1 e2;exact⟨.int 1 gt0,.int 1,cV X Gn gn0,⟨_,rfl⟩,λ_=>rfl⟩
  .subst e1 e2;exact⟨.int 6 gt1,.int 6,cV X Gn gn1,⟨_,rfl⟩,λ_=>rfl⟩
  .subst e1 e2;exact⟨.ref ga2,.ref ga2,cV X Gn gn2,rfl,λH=>⟨ga2,[.int 0,.int 1],rfl,.inr ⟨_,_,_,ga2l,rfl,rfl,rfl,(by show 2<=ak;decide),(.cons ⟨_,rfl⟩ (.cons ⟨_,rfl⟩ .nil))⟩,⟨_,_,rfl,rfl,⟨_,_,rfl,rfl,rfl⟩⟩⟩⟩
 have qn:∀f∈qs,∃fa,mg f=a4 (.ref fa)/\PySem.W.keepIn K (.ref fa)=a6:=by exact λf hf=>nomatch hf
 have el:=jji xz;have L:LkH l.prog w K mg base "_law_kinds" Et:=jfp h18 X Gn j3w (by walk_at "sc") (by decide) rfl (by walk_at "bnd");have tb:Tb l.prog w K mg base G:=ji3 bt gl exa (λp hp=>by
  have hp:p.1∈jt:=by
   simp only[xs,xn,bO,or_false]at hp
   rcases hp with rfl|rfl|rfl|rfl|rfl|rfl|rfl|rfl|rfl|rfl|rfl<;>decide
  exact⟨hp,el _ hp⟩
  ) (λ_=>el) hKb hNb qn (λp hp=>by
  simp only[xs,xn,bO,or_false]at hp
  rcases hp with rfl|rfl|rfl|rfl|rfl|rfl|rfl|rfl|rfl|rfl|rfl
  all_goals exact j0j (fu:=0) L bt exa el hKb hNb (by rfl) (by rfl)) (jiw tz X Gn)
 exact jfs hT tb (F:=j32) (by rfl) rfl hfa (Yy lk c k) _ (by walk_at "sc") rfl rfl (j9m _) hlaw
end K50
end
open PySem (Str sizeLine argBest)
open L2
namespace K50
open KL KW KV
theorem j30:T "_law_cell" = a4 KL.fL_cell:=by rfl
theorem j8a:T "all_choices" = a4 KL.fP_all_choices:=by rfl
theorem jle:T "_law_bit" = a4 KW.fL_bit:=by rfl
theorem gA:G "ANSWERS" = a4 (.tup [.int 0,.int 1]):=by rfl
theorem Qh{b:Int}:∀{m i:Nat}{z:Int},i<m->(jz b m z)[i]?=a4 (z/b^(m-1-i)%b)
 |m+1,0,z,_=>by rw[jz,dn];simp
 |m+1,i+1,z,h=>by rw[jz,tu,Qh nofun];congr 3;congr 1;omega
theorem j0i {fu n m:Nat} {z b:Int} (hm:m<=6) (hb:b=2\/b=3) (hz:0<=z/\z<b^m):evP fu G T (n+1) "number_of" [.tup ((jz b m z).map .int),.int b]=.val (.int z):=by
 rw[jr (F:=Vs) (by rfl) rfl];simp only[Vs,Z2,enter];ext;have z0:z/b^m=0:=cj hz.1 hz.2;refine Vm (λi ρ=>∃s3,ρ=[.val (.tup ((jz b m z).map .int)),.val (.int b),.val (.int (z/b^(m-i))),s3]) ⟨.un,by rw[kD,z0]⟩ ?_ ?_
 .rintro i d ρ hi ⟨s3,rfl⟩;obtain⟨v,hv,rfl⟩:=Mq hi;have hlt:i<m:=by have:=(Xb.mp hv).1;rw[vp]at this;exact this
  rw[Qh hlt]at hv;cases hv;simp only[vy];ext;refine⟨_,rfl,?_⟩;have e1:m-i=(m-1-i)+1:=by omega
  have e2:m-(i+1)=m-1-i:=by omega
  have e3:z/b^(m-i)*b+z/b^(m-1-i)%b=z/b^(m-(i+1)):=by rw[e1,e2,<-j8p z b nofun,dJ];exact Int.mul_ediv_add_emod _ _
  rw[e3];exact⟨_,rfl⟩
 .rintro ρ' ⟨s3,rfl⟩;ext;simp[vp]
theorem j49 {n m:Nat} {z:Int} (h:1<=m/\m<=6) (hz:0<=z/\z<2^m):evP 1000 G T (n+2) "row_number" [vd (jz 2 m z)]=.val (.int z):=by
 rw[jr (F:=V4) (by rfl) rfl];simp only[V4,Qe,enter];ext;simp only[gA];ext;have e:evP 1000 G T (n+1) "number_of" [vd (jz 2 m z),.int 2]=.val (.int z):=j0i h.2 (.inl rfl) hz;have e2:(((0+1+1:Nat):Int))=2:=rfl
 first|rw[e]|(rw[e2,e])
 ext
noncomputable def qD(ws:List af)(a:List Int):D:=.tup [.tup (ws.map D.str),.tup (a.map D.int)]
theorem Qw{p:List Int}{k:Nat}(h:k<p.length):atI (p.map D.int) (k:Int)=a4 (.int (p.getD k 0)):=by
 have:=j1v h
 rwa [Xv]at this
theorem j0v {n m k:Nat} {ws:List af} {a:List Int} (hm:1<=m/\m<=6) (ha:a.length=2^m) (hk:k<2^m):evP 1000 G T (n+3) "answer_to" [qD ws a,vd (jz 2 m (k:Int))]=.val (.int (a.getD k 0)):=by
 rw[jr (F:=Vu) (by rfl) rfl];simp only[Vu,Z4,enter,qD];have pc:((2^m:Nat):Int)=(2:Int)^m:=by simp
 have i1:atI [D.tup (ws.map D.str),.tup (a.map D.int)] 1=a4 (.tup (a.map D.int)):=rfl;ext;erw[i1,j49 (n:=n) hm nofun,Qw nofun]
theorem at0(a b:D):atI [a,b] 0=a4 a:=rfl
theorem at1(a b:D):atI [a,b] 1=a4 b:=rfl
theorem gF:G "FEWEST_PLACES" = a4 (.int 1):=by rfl
theorem gM:G "MOST_PLACES" = a4 (.int 6):=by rfl
theorem j4b {fu n:Nat} {m:Int} (h:1<=m/\m<=6):evP fu G T (n+1) "refuse_wrong_size" [.int m]=.val .non:=by rw[jr (F:=Jm) (by rfl) rfl];simp only[Jm,vh,enter];ext;simp only[gF];ext;simp only[gM];ext
theorem jbf {fu n m:Nat} (h:1<=m/\m<=6):evP fu G T (n+2) "rows_of" [.int m]=.fresh (Jw (Qt m)):=by
 rw[jr (F:=Uk) (by rfl) rfl];simp only[Uk,Vb,enter];ext;rw[j4b (n:=n) nofun];ext;simp only[gA];have hrep:(ao (m:Int).toNat [D.tup [.int 0,.int 1]]).flatten=Jw (ao m [0,1]):=by
  rw[X5];have:∀k:Nat,(ao k [D.tup [.int 0,.int 1]]).flatten=Jw (ao k [0,1]):=by
   intro k;induction k with
   |zero=>rfl
   |succ k ih=>rw[Ph,Te,ih];rfl
  exact this m
 ext;rw[hrep,j02 j8a (λf hf=>by rw[(T7.mp hf).2];decide) (by rw[dM];omega)];ext;have hc:zp (ao m [0,1])=Qt m:=by
  rw[j39];have:∀k:Nat,Uc (ao k [0,1])=Qt k:=by
   intro k;induction k with
   |zero=>rfl
   |succ k ih=>rw[Ph,Uc,ih,Qt];simp
  exact this m
 rw[hc]
theorem Qo(a:List af):D.depL (a.map D.str)<=90:=by
 induction a with
 |nil=>simp[D.depL]
 |cons x a ih=>rw[X3,D.depL];simp[D.dep];exact ih
theorem Eg:∀{ws:List af}{p:af},p∈ws->ixD (.str p) (ws.map D.str)=a4 (ws.idxOf p)
 |[],p,h=>by cases h
 |w::ws,p,h=>by
  unfold ixD;rw[X3];dsimp only;rw[Wm];by_cases z:w=p
  .subst z;simp
  .have z':(w==p)=a5:=by simpa using z
   rw[z',if_neg (by simp),Eg (by simpa [bF z]using h),iZ,z'];rfl
theorem Wa{ws:List af}{p:af}(s:List D->D)(hs:s=D.tup\/s=D.lst):vg .notin (.str p) (s (ws.map D.str))=a4 (!ws.contains p):=by
 have e:((ws.map D.str).any λe=>deq e (.str p))=ws.contains p:=by
  induction ws with
  |nil=>rfl
  |cons x ws ih=>rw[X3,T5,ih,Wm,ir,jQ]
 have hd:=Qo ws;rcases hs with z|z<;>subst z<;>simp only[vg,D.sqv]<;>rw[if_pos ⟨hd,by simp[D.dep]⟩,e]
theorem jkd{ws:List af}{p:af}(hp:p∈ws):Yn (a4 (.v (.e (.tup (ws.map D.str))))) (a4 (.v (.e (.str p))))=a4 (.v (.e (.int ((ws.idxOf p:Nat):Int)))):=by
 have hdl:D.depL (ws.map D.str)<=90/\(D.str p).dep<=90:=⟨Qo ws,by simp[D.dep]⟩
 simp only[Yn,Rk.d,if_pos hdl,Eg hp];rfl
theorem Ng {fu n:Nat} {ws:List af} {a:List Int} {p:af} (hp:p∈ws):evP fu G T (n+1) "spot_of" [qD ws a,.str p]=.val (.int ((ws.idxOf p:Nat):Int)):=by rw[jr (F:=Qx) (by rfl) rfl];simp only[Qx,Z1,enter,qD];have hc:ws.contains p=a6:=T8.mpr hp;ext;rw[at0];ext;rw[Wa _ (.inl rfl),hc];ext;erw[at0,jkd hp]
noncomputable def rv(ws:List af)(r:List Int)(p:af):Int:=r.getD (ws.idxOf p) 0
theorem Dv:∀a b:List af,qx (a.map D.str) (b.map D.str)=decide (a=b)
 |[],[]=>by simp[qx]
 |[],_::_=>by simp[qx]
 |_::_,[]=>by simp[qx]
 |x::a,y::b=>by rw[X3,X3,qx,Dv a b,show deq (.str x) (.str y)=(x==y) from rfl];by_cases h1:x=y<;>by_cases h2:a=b<;>simp[h1,h2]
theorem jh5{l:List D}{k:Nat}(h:k<=l.length):cutD l a7 (a4 (k:Int))=l.take k:=by unfold cutD;rw[HT.sIx_none,HT.sIx_nat,cg,kD,jB h]
theorem j5l{l:List D}{k:Nat}(h:k<=l.length):cutD l (a4 (k:Int)) a7=l.drop k:=by unfold cutD;rw[HT.sIx_none,HT.sIx_nat,jB h,Tf (by rw[Pa];omega)]
theorem Dl{α:Type}{f:D->En->So}{h:α->D}{p:α->Bool}{r:α->Rc}{g:En->So}{R:Rc}{W:En->Prop}:∀{L:List α}{ρ:En},W ρ->(∀x∈L,∀ρ,W ρ->p x=a5->∃ρ',f (h x) ρ=.next ρ'/\W ρ')->(∀x∈L,∀ρ,W ρ->p x=a6->f (h x) ρ=.ret (r x)) ->
  (∀x,L.find? p=a4 x->r x=R)->(L.find? p=a7->∀ρ',W ρ'->fin (g ρ')=R)->fin (Qg (zr f (L.map h) ρ) g)=R
 |[],ρ,w,_,_,_,hn=>by rw[bP,j50,V0];exact hn rfl ρ w
 |x::L,ρ,w,h1,h2,hs,hn=>by
  rw[X3];cases e:p x with
  |true =>rw[Nu (h2 x (xq ..) ρ w e),Ma,Fg];exact hs x (by rw[fC,e])
  |false =>
   obtain⟨ρ',e1,w1⟩:=h1 x (xq ..) ρ w e;rw[Oq e1];refine Dl w1 (λy hy=>h1 y (xg _ hy)) (λy hy=>h2 y (xg _ hy)) (λy q=>hs y ?_) (λq=>hn ?_)
   .rw[fC,e];exact q
   .rw[fC,e];exact q
noncomputable def vl:List Int->Int
 |[]=>0
 |x::r=>x*2^r.length+vl r
theorem Ln:∀{r:List Int},(∀x∈r,x=0\/x=1)->0<=vl r/\vl r<2^r.length
 |[],_=>by simp[vl]
 |x::r,h=>by have ih:=Ln (r:=r) λy hy=>h y (xg _ hy);have p:(0:Int)<2^r.length:=di (by decide);rw[vl,X4,dH];rcases h x (xq ..)with z|z<;>rw[z]<;>omega
theorem j1x:∀{r:List Int},(∀x∈r,x=0\/x=1)->jz 2 r.length (vl r)=r
 |[],_=>rfl
 |x::r,h=>by
  have h':=λy hy=>h y (xg _ hy);have ih:=j1x (r:=r) h';have bd:=Ln (r:=r) h';have p:(0:Int)<2^r.length:=di (by decide);rw[X4,jz,vl];congr 1
  .rw[gY,Int.add_mul_ediv_right _ _ nofun,cj bd.1 bd.2,Xv];rcases h x (xq ..)with z|z<;>rw[z]<;>rfl
  .rw[show x*2^r.length+vl r=vl r+2^r.length*x from by rw[dJ,gY],Uo (by decide) _ _ (X7 _),ih]
theorem jap:∀(m:Nat)(z:Int),0<=z->z<2^m->vl (jz 2 m z)=z:=by
  intro m;induction m with
  |zero=>intro z h1 h2;simp at h2;rw[jz,vl];omega
  |succ m ih =>
   intro z h1 h2;have p:(0:Int)<2^m:=di (by decide);rw[dH]at h2;have e:z=z%2^m+2^m*(z/2^m):=(Int.emod_add_mul_ediv z (2^m)).symm;have q1:0<=z/2^m:=Int.ediv_nonneg h1 nofun
   have q2:z/2^m<2:=Int.ediv_lt_of_lt_mul p nofun
   have d1:jz 2 m z=jz 2 m (z%2^m):=by
    conv=>lhs;rw[e]
    exact Uo (by decide) _ _ (X7 _)
   rw[jz,vl,vp,d1,ih _ (pq _ nofun) (P0 _ p),show z/2^m%2=z/2^m from eY q1 q2,dJ];omega
theorem Dt{α β:Type}(f:α->β):∀(l:List α)(k:Nat),(l.map f).eraseIdx k=(l.eraseIdx k).map f
 |[],_=>rfl
 |_::_,0=>rfl
 |x::l,k+1=>by rw[X3,gv,gv,X3,Dt f l k]
theorem Ow{n:Nat}{z:Int}(h:0<=z/\z<n):ixN n z=a4 z.toNat:=by unfold ixN;rw[if_pos h.1,if_pos h.2]
theorem Bj{α:Type}:∀(l:List α)(k:Nat)(h:k<l.length),(l[k]::l.eraseIdx k).Perm l
 |[],_,h=>absurd h (jA _)
 |x::l,0,_=>du _
 |x::l,k+1,h=>(i7 x _ _).trans ((Bj l k (by simpa using h)).cons x)
noncomputable def dg(m k:Nat):List Int:=jz 2 m (k:Int)
theorem j1a(m:Nat):Qt m=(au (2^m)).map (dg m):=(Kz m).symm
theorem Qz(m k:Nat):(dg m k).length=m:=vp 2 m _
noncomputable def xk(m k s:Nat):Nat:=(aY (k:Int) (2^(m-s-1))).toNat
theorem j8k:∀m:Fin 7,∀k:Fin 64,∀s:Fin 6,s.val<m.val->k.val<2^m.val ->
  (jz 2 m.val (k.val:Int)).set s.val (1-(jz 2 m.val (k.val:Int)).getD s.val 0)=jz 2 m.val ((xk m.val k.val s.val:Nat):Int)/\aY (k.val:Int) (2^(m.val-s.val-1))=((xk m.val k.val s.val:Nat):Int)/\xk m.val k.val s.val<2^m.val:=by decide +kernel
theorem Eu{m k s:Nat}(hm:m<=6)(hk:k<2^m)(hs:s<m):(jz 2 m (k:Int)).set s (1-(jz 2 m (k:Int)).getD s 0)=jz 2 m ((xk m k s:Nat):Int)/\aY (k:Int) (2^(m-s-1))=((xk m k s:Nat):Int)/\xk m k s<2^m:=by
 have h64:2^m<=64:=by
  have:m=0\/m=1\/m=2\/m=3\/m=4\/m=5\/m=6:=by omega
  rcases this with rfl|rfl|rfl|rfl|rfl|rfl|rfl<;>decide
 exact j8k ⟨m,by omega⟩ ⟨k,by omega⟩ ⟨s,by omega⟩ hs hk
theorem K5{i j:Int}:binI .bxor i j=a4 (aY i j):=(rfl)
theorem jlo(m k:Nat):∀x∈dg m k,x=0\/x=1:=λx hx=>jab m _ x hx
theorem ji2{m k:Nat}(h:k<2^m):vl (dg m k)=k:=by
 have pc:((2^m:Nat):Int)=(2:Int)^m:=by simp
 exact jap m k nofun nofun
theorem jac{m:Nat}{r:List Int}(hr:r.length=m)(h:∀x∈r,x=0\/x=1):(vl r).toNat<2^m/\dg m (vl r).toNat=r:=by
 have b:=Ln h;rw[hr]at b;have pc:((2^m:Nat):Int)=(2:Int)^m:=by simp
 refine⟨by omega,?_⟩;unfold dg;rw[eG b.1,<-hr];exact j1x h
noncomputable def an(a:List Int)(r:List Int):Int:=a.getD (vl r).toNat 0
theorem Rn{a:List Int}{m k:Nat}(h:k<2^m):an a (dg m k)=a.getD k 0:=by unfold an;rw[ji2 h,X5]
theorem jda {n m:Nat} {ws:List af} {a r:List Int} (hm:1<=m/\m<=6) (ha:a.length=2^m) (hr:r.length=m) (h:∀x∈r,x=0\/x=1):evP 1000 G T (n+3) "answer_to" [qD ws a,vd r]=.val (.int (an a r)):=by obtain⟨h1,h2⟩:=jac hr h;have:=j0v (n:=n) (ws:=ws) hm ha h1;rw[show jz 2 m (((vl r).toNat:Nat):Int)=r from h2]at this;exact this
noncomputable def byR(a:List Int)(m:Nat)(f:List Int->List Int):List Int:=(au (2^m)).map λk=>an a (f (dg m k))
theorem jd5(a:List Int)(m:Nat)(f:List Int->List Int):(byR a m f).length=2^m:=by simp[byR]
def Rw(m:Nat)(r:List Int):Prop:=r.length=m/\∀x∈r,x=0\/x=1
theorem Ua(m k:Nat):Rw m (dg m k):=⟨Qz m k,jlo m k⟩
theorem Be{r:List Int}(h:∀x∈r,x=0\/x=1)(i:Nat):r.getD i 0=0\/r.getD i 0=1:=by
 rw[xf];cases e:r[i]? with
 |none=>exact .inl rfl
 |some y=>exact h y (Xl e)
noncomputable def pk(L P:List af)(r:List Int):List Int:=L.map λw=>rv P r w
theorem j9q{L P:List af}{m:Nat}{r:List Int}(hL:L.length=m)(h:Rw m r):Rw m (pk L P r):=⟨by simp[pk,hL],λx hx=>by
 obtain⟨w,_,rfl⟩:=Xh.mp hx
 exact Be h.2 _⟩
noncomputable def xc(j:Nat)(r:List Int):List Int:=r.set j (1-r.getD j 0)
theorem Oc{s:List D->D}(hs:s=D.tup\/s=D.lst){ts:List af}(h:ts.length<64):Nf (a4 (.v (.e (s (ts.map D.str)))))=a4 (.v (.o ((Qs ts).map D.str))):=by rcases hs with z|z<;>subst z<;>simp only[Nf,Rk.d,Oa,if_pos h]
theorem j4t{a b:List af}:vg .ne (.lst ((Qs a).map D.str)) (.lst ((Qs b).map D.str))=a4 (!decide (a.Perm b)):=by rw[j8r (Qo _) (Qo _),Dv];congr 2;rw[decide_eq_decide];exact j6s
theorem Rq {n:Nat} {s t:List D->D} (hs:s=D.tup\/s=D.lst) (ht:t=D.tup\/t=D.lst) {A B:List af} (h1:A.length<64) (h2:B.length<64) (hp:B.Perm A):evP 1000 G T (n+1) "refuse_other_order" [s (A.map D.str),t (B.map D.str)]=.val .non:=by rw[jr (F:=zj) (by rfl) rfl];simp only[zj,zq,enter];ext;rw[Oc hs h1,Oc ht h2];ext;rw[j4t,decide_eq_true hp];ext
theorem gNP:G (bang "NoPlace")=a4 (.lst [.str "NoPlace"]):=by rfl
theorem Ej:(G (bang "NoPlace")).isSome=a6:=by rfl
theorem j2i {n:Nat} {s t:List D->D} (hs:s=D.tup\/s=D.lst) (ht:t=D.tup\/t=D.lst) {A B:List af} (h1:A.length<64) (h2:B.length<64) (hp:¬B.Perm A):evP 1000 G T (n+1) "refuse_other_order" [s (A.map D.str),t (B.map D.str)]=.err "NoPlace":=by rw[jr (F:=zj) (by rfl) rfl];simp only[zj,zq,enter];ext;rw[Oc hs h1,Oc ht h2];ext;rw[j4t,decide_eq_false hp];ext;rw[gNP];ext
theorem Rr {α:Type} {n m:Nat} {r:List Int} {l:List α} {f:α->Nat} (hr:r.length=m) (hi:∀x∈l,f x<m) (hl:l.length<=1000):evP 1000 G T (n+1) "picked" [vd r,.lst (l.map λx=>D.int (f x:Int))]=.val (vd (l.map λx=>r.getD (f x) 0)):=by
 rw[jr (F:=Wi) (by rfl) rfl];simp only[Wi,Yk,enter,vd];ext;rw[jo (l:=l.map λx=>D.int (r.getD (f x) 0)) (by rfl) (by rw[xj];omega) ?_ (.inl rfl)]
 .ext;rw[Xg];rfl
 .refine ji λx hx=>qg (by ext) ?_;have:=hi x hx;ext;rw[Qw nofun];ext
theorem len_str{s:List D->D}(hs:s=D.tup\/s=D.lst){P:List af}:qy .len (a4 (.a [.e (s (P.map D.str))]))=a4 (.v (.e (.int (P.length:Int)))):=by rcases hs with z|z<;>subst z<;>simp only[qy,Q6,Rk.d,xj]<;>rfl
theorem jat{s:List D->D}(hs:s=D.tup\/s=D.lst){P:List af}:qy .tuple (a4 (.a [.e (s (P.map D.str))]))=a4 (.v (.e (.tup (P.map D.str)))):=by rcases hs with z|z<;>subst z<;>rfl
theorem N8{s:List D->D}(hs:s=D.tup\/s=D.lst){P:List af}{p:af}(hp:p∈P):Yn (a4 (.v (.e (s (P.map D.str))))) (a4 (.v (.e (.str p))))=a4 (.v (.e (.int ((P.idxOf p:Nat):Int)))):=by
 have hdl:D.depL (P.map D.str)<=90/\(D.str p).dep<=90:=⟨Qo P,by simp[D.dep]⟩
 rcases hs with z|z<;>subst z<;>(simp only[Yn,Rk.d,if_pos hdl,Eg hp];rfl)
theorem j6j{i:Nat}{c e:En->Option W}{ρ:En}{d:D}(hc:c (ρ.set i (.val d))=a4 (.a [])){d':D}(he:e (ρ.set i (.val d))=a4 (.v (.t d')))(hn:Q7 d'=a6):Qc [i] c e ρ d=a4 (a4 d'):=by simp[Qc,qz,hc,he,Rk.st,hn]
theorem jir(r:List Int):Q7 (vd r)=a6:=vo r
theorem j76{n m:Nat}{s:List D->D}(hs:s=D.tup\/s=D.lst){L P:List af}{a:List Int}(hm:1<=m/\m<=6)(hL:L.length=m)(ha:a.length=2^m)(hp:L.Perm P) :
  evP 1000 G T (n+4) "put_in_order" [qD L a,s (P.map D.str)]=.val (qD P (byR a m (pk L P))):=by
 have hP:P.length=m:=by rw[<-hp.length_eq,hL]
 rw[jr (F:=Qy) (by rfl) rfl];simp only[Qy,Jx,enter,qD];have p64:2^m<=64:=Xf (bL (by decide) hm.2) (by decide);ext;erw[at0,Rq (n:=n+2) (.inl rfl) hs nofun nofun hp.symm,at0];rw[jo (l:=L.map λw=>D.int ((P.idxOf w:Nat):Int)) (by rfl) (by rw[xj];omega) ?_ (.inl rfl)];rotate_left
 .refine ji λw hw=>qg (by ext) ?_;ext;rw[N8 hs (hp.mem_iff.mp hw)];ext
 ext;rw[len_str hs];ext;rw[hP,jbf (n:=n+1) hm];ext;rw[jo (l:=(au (2^m)).map λk=>vd (pk L P (dg m k))) (by rfl) (by rw[j1a];simp[Jw];omega) ?_ (.inl rfl)];rotate_left
 .rw[j1a,Jw,Xg];refine ji λk hk=>j6j (by ext) ?_ (jir _);ext;have e:=Rr (n:=n+2) (r:=dg m k) (l:=L) (f:=λw=>P.idxOf w) (Qz m k) (λw hw=>by
   have:=cM (hp.mem_iff.mp hw)
   omega) nofun
  simp only[dQ];rw[e,j9r];rfl
 ext;rw[jat hs];ext;rw[jo (l:=(byR a m (pk L P)).map D.int) (by rfl) (by rw[xj,Xw];omega) ?_ (.inr (vo _))]
 .ext
 .rw[byR,Xg];refine ji λk hk=>qg (by ext) ?_;have e:evP 1000 G T (n+3) "answer_to" [.tup [.tup (L.map D.str),.tup (a.map D.int)],vd (pk L P (dg m k))]=_:=jda (n:=n) (ws:=L) hm ha (j9q hL (Ua m k)).1 (j9q hL (Ua m k)).2;ext;rw[e];ext;rfl
theorem Km {fu n:Nat} {ws:List af} {a:List Int} {p:af} (hp:p∉ws) (hr:(aI p).length<=2000):evP fu G T (n+1) "spot_of" [qD ws a,.str p]=.err "NoPlace":=by
 rw[jr (F:=Qx) (by rfl) rfl];simp only[Qx,Z1,enter,qD];have hc:ws.contains p=a5:=by
  cases e:ws.contains p with
  |false=>rfl
  |true=>exact absurd (T8.mp e) hp
 have rai:∀ρ:En,Nm "NoPlace" (Mt (a4 (.a [.e (.str (aI p)),.e (.str " is no place of the question")]))) (G (bang "NoPlace")) ρ=.err "NoPlace" ρ:=λρ=>by
  rw[gNP,jgd (ys:=[aI p," is no place of the question"]) (by simp only[X4,cD];omega) (by
   have e:Ji (.str (aI p))=a4 (aI p):=by unfold Ji;exact if_pos nofun
   have s1:Ji (.str " is no place of the question")=a4 (dz " is no place of the question"):=by unfold Ji;exact if_pos (by decide)
   simp only[Jk,Rk.d,e,s1])]
  rfl
 ext;rw[at0];ext;rw[Wa _ (.inl rfl),hc];ext;erw[jeb nofun,rai]
noncomputable def swp(i j k:Nat):Nat:=if k=i then j else if k=j then i else k
theorem jb0(i j k:Nat):swp i j (swp i j k)=k:=by unfold swp;split<;>split<;>(try split)<;>omega
theorem j6q(i j k:Nat):swp i j k=swp j i k:=by unfold swp;split<;>split<;>omega
theorem Ke{i j k m:Nat}(hi:i<m)(hj:j<m)(hk:k<m):swp i j k<m:=by unfold swp;split<;>(try split)<;>omega
noncomputable def sw{α:Type}(i j:Nat)(d:α)(l:List α):List α:=(au l.length).map λk=>l.getD (swp i j k) d
theorem vf{α:Type}{i j:Nat}{d:α}{l:List α}:(sw i j d l).length=l.length:=by simp[sw]
theorem O8{α:Type}{i j k:Nat}{d:α}{l:List α}(hk:k<l.length):(sw i j d l)[k]?=a4 (l.getD (swp i j k) d):=by unfold sw;rw[xx,Xu hk];rfl
theorem Z9{α:Type}{i j k:Nat}{d:α}{l:List α}(hk:k<l.length):(sw i j d l).getD k d=l.getD (swp i j k) d:=by rw[xf,O8 hk];rfl
theorem Og{α:Type}{i j:Nat}{d:α}{l:List α}(hi:i<l.length)(hj:j<l.length):(l.set i (l.getD j d)).set j (l.getD i d)=sw i j d l:=by
 refine Xz λk=>?_;by_cases hk:k<l.length
 .rw[O8 hk];unfold swp;by_cases h2:k=j
  .subst h2;rw[cf (by simp;omega)];by_cases h1:k=i
   .subst h1;rw[if_pos rfl]
   .rw[if_neg h1,if_pos rfl]
  .rw[t8 (bF h2)];by_cases h1:k=i
   .subst h1;rw[cf hk,if_pos rfl]
   .rw[t8 (bF h1),if_neg h1,if_neg h2,xf,kh hk];rfl
 .rw[Xc (by simp;omega),Xc (by rw[vf];omega)]
theorem j10{α:Type}{i j:Nat}{d:α}{l:List α}(hi:i<l.length)(hj:j<l.length):(sw i j d l).Perm l:=by
 rw[<-Og hi hj];have e1:l.getD j d=l[j]:=by rw[xf,kh hj];rfl
 have e2:l.getD i d=l[i]:=by rw[xf,kh hi];rfl
 rw[e1,e2];exact List.set_set_perm hi hj
theorem jim {L:List af} {m i j:Nat} {r:List Int} (hL:L.length=m) (hn:L.Nodup) (hr:r.length=m) (hi:i<m) (hj:j<m):pk L (sw i j ("":af) L) r=sw i j 0 r:=by
 refine Xz λk=>?_;unfold pk;rw[xx];by_cases hk:k<m
 .rw[kh nofun,O8 nofun];show a4 (rv (sw i j ("":af) L) r L[k])=_;unfold rv;have pn:(sw i j ("":af) L).Nodup:=(j10 nofun nofun).nodup_iff.mpr hn;have hs:=Ke hi hj hk;have e:(sw i j ("":af) L)[swp i j k]'(by rw[vf];omega)=L[k]:=by
   have:=O8 (d:=("":af)) (l:=L) (i:=i) (j:=j) (k:=swp i j k) nofun
   rw[jb0,kh (by rw[vf];omega)]at this;rw[aw this,xf,kh nofun];rfl
  rw[<-e,pn.idxOf_getElem _ (by rw[vf];omega)]
 .rw[Xc nofun,Xc (by rw[vf];omega)];rfl
theorem j2g{m i j:Nat}{r:List Int}(h:Rw m r):Rw m (sw i j 0 r):=⟨by rw[vf];exact h.1,λx hx=>by
 obtain⟨k,_,rfl⟩:=Xh.mp hx
 exact Be h.2 _⟩
def May(a:List Int)(m i j:Nat):Prop:=∀r,Rw m r->an a (sw i j 0 r)=an a r
theorem j6b{m:Nat}{p:List Int->Prop}:(∀r,Rw m r->p r) ↔ ∀k,k<2^m->p (dg m k):=by
 refine⟨λh k hk=>h _ (Ua m k),λh r hr=>?_⟩;obtain⟨h1,h2⟩:=jac hr.1 hr.2;have:=h _ h1
 rwa [h2]at this
theorem jd4{a:List Int}{m i j:Nat}(ha:a.length=2^m):byR a m (sw i j 0)=a↔May a m i j:=by
 unfold May;rw[j6b];refine⟨λh k hk=>?_,λh=>Xz λk=>?_⟩
 .have:=congrArg (λl:List Int=>l.getD k 0) h;rw[Rn hk,<-this];show _=(byR a m (sw i j 0)).getD k 0;unfold byR;rw[xf,xx,Xu hk];rfl
 .by_cases hk:k<2^m
  .unfold byR;rw[xx,Xu hk];show a4 (an a (sw i j 0 (dg m k)))=_;rw[h k hk,Rn hk,xf,kh nofun];rfl
  .rw[Xc (by rw[jd5];omega),Xc nofun]
theorem j65{a:List Int}{m:Nat}{f g:List Int->List Int}(h:∀r,Rw m r->f r=g r):byR a m f=byR a m g:=cJ λk _=>by rw[h _ (Ua m k)]
theorem O9{m:Nat}{r s:List Int}(hr:r.length=m)(hs:s.length=m)(h:∀k,k<m->r.getD k 0=s.getD k 0):r=s:=by
 refine Xz λk=>?_;by_cases hk:k<m
 .have:=h k hk;rw[xf,xf,kh nofun,kh nofun]at this;rw[kh nofun,kh nofun];exact congrArg a4 this
 .rw[Xc nofun,Xc nofun]
theorem Mp{a:List Int}{m i:Nat}:May a m i i:=λr hr=>by congr 1;refine O9 (m:=m) (by rw[vf];exact hr.1) hr.1 λk hk=>?_;rw[Z9 (by rw[hr.1];exact hk)];unfold swp;split<;>(try split)<;>(subst_vars;rfl)
theorem Iv{a:List Int}{m i j:Nat}(h:May a m i j):May a m j i:=λr hr=>by rw[<-h r hr];congr 1;unfold sw;exact cJ λk _=>by rw[j6q]
theorem j4y{a:List Int}{m i j k:Nat}(hi:i<m)(hj:j<m)(hk:k<m)(h1:May a m i j)(h2:May a m j k):May a m i k:=λr hr=>by
 by_cases e1:i=j
 .subst e1;exact h2 r hr
 by_cases e2:j=k
 .subst e2;exact h1 r hr
 by_cases e3:i=k
 .subst e3;exact Mp r hr
 have e:sw i k 0 r=sw i j 0 (sw j k 0 (sw i j 0 r)):=by refine O9 (m:=m) (by rw[vf];exact hr.1) (by rw[vf,vf,vf];exact hr.1) λx hx=>?_;have l1:=hr.1;have b1:=Ke hi hj hx;have b2:=Ke hj hk b1;rw[Z9 nofun,Z9 (by rw[vf,vf];omega),Z9 (by rw[vf];omega),Z9 nofun];congr 1;unfold swp;split<;>(try split)<;>(try split)<;>(try split)<;>(try split)<;>(try split)<;>omega
 rw[e,h1 _ (j2g (j2g hr)),h2 _ (j2g hr),h1 _ hr]
theorem j4u {L:List af} {i:Nat} (hn:L.Nodup) (hi:i<L.length):L.getD i "" ∈ L/\L.idxOf (L.getD i "")=i:=by
 have e:L.getD i "" = L[i]:=by rw[xf,kh hi];rfl
 rw[e];exact⟨Py hi,hn.idxOf_getElem i hi⟩
theorem Ey(l:List Int):D.depL (l.map D.int)+1<=90:=by
 have:D.depL (l.map D.int)<=0:=D.depL_of λd hd=>by obtain⟨x,_,rfl⟩:=Xh.mp hd;simp[D.dep]
 omega
open Classical in
theorem Iw{n m i j:Nat}{L:List af}{a:List Int}(hm:1<=m/\m<=6)(hL:L.length=m)(hn:L.Nodup)(ha:a.length=2^m)(hi:i<m)(hj:j<m) :
  evP 1000 G T (n+5) "may_exchange" [qD L a,.str (L.getD i ""),.str (L.getD j "")]=.val (.bl (decide (May a m i j))):=by
 have p64:2^m<=64:=Xf (bL (by decide) hm.2) (by decide);obtain⟨i1,i2⟩:=j4u (L:=L) (i:=i) hn nofun
 obtain⟨j1,j2⟩:=j4u (L:=L) (i:=j) hn nofun
 have s1:evP 1000 G T (n+4) "spot_of" [.tup [.tup (L.map D.str),.tup (a.map D.int)],.str (L.getD i "")]=_:=Ng (n:=n+3) (a:=a) i1;have s2:evP 1000 G T (n+4) "spot_of" [.tup [.tup (L.map D.str),.tup (a.map D.int)],.str (L.getD j "")]=_:=Ng (n:=n+3) (a:=a) j1;rw[i2]at s1;rw[j2]at s2;have hp:L.Perm (sw i j ("":af) L):=(j10 nofun nofun).symm;have w1:=j76 (n:=n) (s:=D.lst) (.inr rfl) hm hL ha hp;rw[j65 (g:=sw i j 0) λr hr=>jim hL hn hr.1 hi hj]at w1;unfold qD at w1;have e5:((L.map D.str).set i (.str (L.getD j ""))).set j (.str (L.getD i ""))=(sw i j ("":af) L).map D.str:=by rw[<-Og nofun nofun,eT,eT]
 have l1:(L.map D.str).length=m:=by rw[xj,hL]
 have l2:((L.map D.str).set i (.str (L.getD j ""))).length=m:=by rw[Ti,l1]
 rw[jr (F:=zx) (by rfl) rfl];simp only[zx,v9,enter,qD];ext;erw[s1,s2,at0,Ie (n:=i) (by rw[l1,Ow nofun];simp)];rw[Ie (n:=j) (by rw[l2,Ow nofun];simp),e5];ext;rw[w1];ext;rw[at1,at1];ext;rw[j8t (by rw[D.dep];exact Ey _) (by rw[D.dep];exact Ey _),Dw];ext;congr 2;exact decide_eq_decide.mpr (jd4 ha)
theorem j11{m i j:Nat}{r:List Int}(hr:Rw m r)(hi:i<m)(hj:j<m)(h:r.getD i 0≠r.getD j 0):sw i j 0 r=xc j (xc i r):=by
 have hij:i≠j:=λe=>h (by rw[e]);have l:=hr.1;refine O9 (m:=m) (by rw[vf];exact l) (by simp[xc,l]) λk hk=>?_;rw[Z9 nofun];have bi:=Be hr.2 i;have bj:=Be hr.2 j;have e1:∀{t:List Int}{q:Nat},t.length=m->q<m->(xc q t).getD k 0=if k=q then 1-t.getD q 0 else t.getD k 0:=λ{t q} ht hq=>by
  unfold xc;rw[xf,Tq];by_cases z:q=k
  .subst z;rw[if_pos rfl,if_pos rfl,if_pos nofun];rfl
  .rw[if_neg z,if_neg (bF z),<-xf]
 have lx:(xc i r).length=m:=by simp[xc,l]
 rw[e1 lx hj,e1 l hi];have ej:(xc i r).getD j 0=r.getD j 0:=by unfold xc;rw[xf,t8 hij,<-xf]
 rw[ej];unfold swp;by_cases k1:k=i
 .subst k1;rw[if_pos rfl,if_neg hij,if_pos rfl];omega
 .rw[if_neg k1];by_cases k2:k=j
  .subst k2;rw[if_pos rfl,if_pos rfl];omega
  .rw[if_neg k2,if_neg k2,if_neg k1]
theorem jb1{m i j:Nat}{r:List Int}(hr:r.length=m)(h:r.getD i 0=r.getD j 0):sw i j 0 r=r:=by
 refine O9 (m:=m) (by rw[vf];exact hr) hr λk hk=>?_;rw[Z9 nofun];unfold swp;split
 .rename_i e;subst e;exact h.symm
 .split
  .rename_i e;subst e;exact h
  .rfl
noncomputable def tw(m i j k:Nat):Nat:=xk m (xk m k i) j
theorem Wx{m i j k:Nat}(hm:m<=6)(hi:i<m)(hj:j<m)(hk:k<2^m):dg m (tw m i j k)=xc j (xc i (dg m k))/\tw m i j k<2^m/\aY (aY (k:Int) (2^(m-i-1))) (2^(m-j-1))=((tw m i j k:Nat):Int):=by obtain⟨a1,a2,a3⟩:=Eu hm hk hi;obtain⟨b1,b2,b3⟩:=Eu hm a3 hj;refine⟨?_,b3,by rw[a2];exact b2⟩;unfold tw dg xc;rw[<-b1,<-a1]
noncomputable def bad(a:List Int)(m i j k:Nat):Bool:=!decide ((dg m k).getD i 0=(dg m k).getD j 0) && !decide (a.getD (tw m i j k) 0=a.getD k 0)
open Classical in
theorem j25{a:List Int}{m i j:Nat}(hm:m<=6)(hi:i<m)(hj:j<m):(au (2^m)).find? (bad a m i j)=a7↔May a m i j:=by
 rw[iq];unfold May;rw[j6b];refine⟨λh k hk=>?_,λh k hk' hb=>?_⟩
 .have hb:=h k (Xa.mpr hk);obtain⟨t1,t2,_⟩:=Wx (k:=k) hm hi hj hk;by_cases e:(dg m k).getD i 0=(dg m k).getD j 0
  .rw[jb1 (Qz m k) e]
  .rw[j11 (Ua m k) hi hj e,<-t1,Rn t2,Rn hk];unfold bad at hb;rw[decide_eq_false e]at hb;simpa using hb
 .have hk:=Xa.mp hk';obtain⟨t1,t2,_⟩:=Wx (k:=k) hm hi hj hk;unfold bad at hb;rw[Xd]at hb;have e:¬(dg m k).getD i 0=(dg m k).getD j 0:=by simpa using hb.1
  have q:=h k hk;rw[j11 (Ua m k) hi hj e,<-t1,Rn t2,Rn hk]at q;rw[q,decide_eq_true rfl]at hb;exact absurd hb.2 (by decide)
theorem Mh {n m k:Nat} (hm:m<=6):evP 1000 G T (n+1) "_law_row" [.int (m:Int),.int (k:Int)]=.val (vd (dg m k)):=by
 rw[jr (F:=Er) (by rfl) rfl];simp only[Er,Bw,enter];ext;rw[X5];refine Vm (λi ρ=>∃s3,ρ=[.val (.int (m:Int)),.val (.int (k:Int)),.own (((dg m k).take i).map D.int),s3]) ⟨_,rfl⟩ ?_ ?_
 .rintro i d ρ hi ⟨s3,rfl⟩;obtain⟨hlt,rfl⟩:=Z8 hi;simp only[vy];have et:((m:Int)-(0+(i:Int))-1).toNat=m-1-i:=by omega
  have p:=p2k (k:=m-1-i) nofun
  rw[<-et]at p;have ll:((dg m k).take i).length<=6:=by rw[Xm];omega
  ext;refine⟨_,rfl,.val (.int (0+(i:Int))),?_⟩;rw[cc,show dg m k=jz 2 m (k:Int)from rfl,Qh hlt,Xp,et,bM];rfl
 .rintro ρ' ⟨s3,rfl⟩;ext;rw[jn,Tf (by rw[Qz];exact X7 _)]
theorem j2s{α:Type}{f:D->En->So}{h:α->D}{p:α->Bool}{g:En->So}{R:Rc}{W:En->Prop}{L:List α}{ρ:En}(w:W ρ)(h1:∀x∈L,∀ρ,W ρ->p x=a5->∃ρ',f (h x) ρ=.next ρ'/\W ρ'){r:Rc}(h2:∀x∈L,∀ρ,W ρ->p x=a6->f (h x) ρ=.ret r)(hs:(∃x,L.find? p=a4 x)->r=R)(hn:L.find? p=a7->∀ρ',W ρ'->fin (g ρ')=R):fin (Qg (zr f (L.map h) ρ) g)=R :=
 Dl (r:=λ_=>r) w h1 h2 (λx hx=>hs ⟨x,hx⟩) hn
open Classical in
theorem j51{n m i j:Nat}{a:List Int}(hm:1<=m/\m<=6)(ha:a.length=2^m)(hi:i<m)(hj:j<m) :
  evP 1000 G T (n+2) "_law_may" [.tup (a.map D.int),.int (m:Int),.int (i:Int),.int (j:Int)]=.val (.bl (decide (May a m i j))):=by
 rw[jr (F:=Es) (by rfl) rfl];simp only[Es,Bx,enter];have p64:2^m<=64:=Xf (bL (by decide) hm.2) (by decide);have p2:=j79 (m:=m) nofun
 have pc:((2^m:Nat):Int)=(2:Int)^m:=by simp
 have e3:(1*2^m:Int).toNat=2^m:=by rw[bM,<-pc];exact X5 _
 ext;rw[X5];ext;rw[e3,v4];refine j2s (p:=bad a m i j) (r:=.val (.bl a5)) (W:=λρ=>∃s4 s5 s6,ρ=[.val (.tup (a.map D.int)),.val (.int (m:Int)),.val (.int (i:Int)),.val (.int (j:Int)),s4,s5,s6]) ⟨_,_,_,rfl⟩ ?_ ?_ ?_ ?_
 .rintro k hk ρ ⟨s4,s5,s6,rfl⟩ hb;have hk:=Xa.mp hk;obtain⟨t1,t2,t3⟩:=Wx (k:=k) hm.2 hi hj hk;have gi:=Qw (p:=dg m k) (k:=i) (by rw[Qz];exact hi);have gj:=Qw (p:=dg m k) (k:=j) (by rw[Qz];exact hj);have ga:=Qw (p:=a) (k:=k) nofun
  have gt:=Qw (p:=a) (k:=tw m i j k) nofun
  have ei:((m:Int)-(i:Int)-1).toNat=m-i-1:=by omega
  have ej:((m:Int)-(j:Int)-1).toNat=m-j-1:=by omega
  simp only[vy,Xv];ext;rw[Mh (n:=n) hm.2];ext;rw[gi,gj];ext;by_cases e:(dg m k).getD i 0=(dg m k).getD j 0
  .ext;exact⟨_,rfl,_,_,_,rfl⟩
  .have ea:a.getD (tw m i j k) 0=a.getD k 0:=by unfold bad at hb;rw[decide_eq_false e]at hb;simpa using hb
   ext;rw[ei,ej,K5];ext;rw[K5,bM,bM,t3];ext;rw[gt,ga];ext;exact⟨_,rfl,_,_,_,rfl⟩
 .rintro k hk ρ ⟨s4,s5,s6,rfl⟩ hb;have hk:=Xa.mp hk;obtain⟨t1,t2,t3⟩:=Wx (k:=k) hm.2 hi hj hk;have gi:=Qw (p:=dg m k) (k:=i) (by rw[Qz];exact hi);have gj:=Qw (p:=dg m k) (k:=j) (by rw[Qz];exact hj);have ga:=Qw (p:=a) (k:=k) nofun
  have gt:=Qw (p:=a) (k:=tw m i j k) nofun
  have ei:((m:Int)-(i:Int)-1).toNat=m-i-1:=by omega
  have ej:((m:Int)-(j:Int)-1).toNat=m-j-1:=by omega
  unfold bad at hb;rw[Xd]at hb;have e:(dg m k).getD i 0≠(dg m k).getD j 0:=by simpa using hb.1
  have ea:a.getD (tw m i j k) 0≠a.getD k 0:=by simpa using hb.2
  simp only[vy,Xv];ext;rw[Mh (n:=n) hm.2];ext;rw[gi,gj];ext;rw[ei,ej,K5];ext;rw[K5,bM,bM,t3];ext;rw[gt,ga];ext
 .rintro⟨x,hx⟩;have:¬May a m i j:=λh=>by rw[(j25 hm.2 hi hj).mpr h]at hx;cases hx
  rw[decide_eq_false this]
 .rintro hn ρ' ⟨s4,s5,s6,rfl⟩;ext;rw[decide_eq_true ((j25 hm.2 hi hj).mp hn)]
open Classical in
noncomputable def my(a:List Int)(m i j:Nat):Bool:=decide (May a m i j)
theorem Wc{a:List Int}{m i j:Nat}:my a m i j=a6↔May a m i j:=by
 classical
 unfold my;exact decide_eq_true_iff
noncomputable def rep(a:List Int)(m k:Nat):Bool:=(au k).all λj=>!my a m k j
theorem Lr{a:List Int}{m k:Nat}:rep a m k=a6 ↔ ∀j,j<k->¬May a m k j:=by
 unfold rep;rw[Xy];refine⟨λh j hj z=>?_,λh j hj=>?_⟩
 .have:=h j (Xa.mpr hj);rw[Wc.mpr z]at this;cases this
 .cases e:my a m k j with
  |false=>rfl
  |true=>exact absurd (Wc.mp e) (h j (Xa.mp hj))
theorem j55{a:List Int}{m:Nat}:∀i k,k<m->i<m->May a m k i->∃r,r<=i/\rep a m r=a6/\May a m k r:=by
 intro i;induction i using Nat.strongRecOn with
 |_ i ih =>
  intro k hk hi h;by_cases z:rep a m i=a6
  .exact⟨i,X7 _,z,h⟩
  .have:∃j,j<i/\May a m i j:=by refine ff λq=>z (Lr.mpr λj hj y=>q ⟨j,hj,y⟩)
   obtain⟨j,hj,y⟩:=this;obtain⟨r,h1,h2,h3⟩:=ih j hj k hk nofun (j4y hk hi nofun h y)
   exact⟨r,by omega,h2,h3⟩
noncomputable def cls(a:List Int)(m:Nat)(L:List af)(k:Nat):List af:=((au m).filter λj=>my a m k j).map λj=>L.getD j ""
noncomputable def gto(a:List Int)(m:Nat)(L:List af)(i:Nat):List (List af):=((au i).filter λk=>rep a m k).map λk=>cls a m L k
noncomputable def gD(gs:List (List af)):List D:=gs.map λg=>D.lst (g.map D.str)
theorem Ui{a:List Int}{m:Nat}{L:List af}{i:Nat}:gto a m L (i+1)=if rep a m i=a6 then gto a m L i++[cls a m L i]else gto a m L i:=by unfold gto;rw[List.range_succ,eK,Xp];cases e:rep a m i<;>simp[List.filter_cons,e]
theorem Vh{a:List Int}{m:Nat}{L:List af}{i:Nat}:(gto a m L i).length<=i:=by unfold gto;rw[xj];exact Xf (t6 _ _) (by rw[Xw];exact X7 _)
theorem j5c {a:List Int} {m:Nat} {L:List af} {k i:Nat} (hL:L.length=m) (hn:L.Nodup) (hi:i<m):(cls a m L k).contains (L.getD i "")=my a m k i:=by
 have gi:∀{j},j<m->L.getD j "" = L[j]!:=λ{j} hj=>by rw[xf,List.getElem!_eq_getElem?_getD];rfl
 have inj:∀{x y},x<m->y<m->L.getD x "" = L.getD y ""->x=y:=λ{x y} hx hy e=>by
  have hx':x<L.length:=by omega
  have hy':y<L.length:=by omega
  rw[xf,xf,kh hx',kh hy']at e;exact(cy hn).mp e
 rw[bX,T8];unfold cls;rw[Xh];refine⟨λ⟨j,hj,e⟩=>?_,λh=>⟨i,Pn.mpr ⟨Xa.mpr hi,h⟩,rfl⟩⟩;obtain⟨h1,h2⟩:=Pn.mp hj;rw[<-inj (Xa.mp h1) hi e];exact h2
theorem jd9 {a:List Int} {m:Nat} {L:List af} {i:Nat} (hL:L.length=m) (hn:L.Nodup) (hi:i<m):((gto a m L i).any λg=>g.contains (L.getD i "")) = !rep a m i:=by
 unfold gto;rw[gB];cases e:rep a m i with
 |true =>have e:=Lr.mp e;rw[List.any_eq_false.mpr];rfl;intro k hk;obtain⟨h1,h2⟩:=Pn.mp hk;show ¬(cls a m L k).contains (L.getD i "")=a6;rw[j5c hL hn hi,Wc];exact λz=>e k (Xa.mp h1) (Iv z)
 |false =>
  have:∃j,j<i/\May a m i j:=by refine ff λq=>?_;have:rep a m i=a6:=Lr.mpr λj hj y=>q ⟨j,hj,y⟩;rw[e]at this;cases this
  obtain⟨j,hj,y⟩:=this;obtain⟨r,h1,h2,h3⟩:=j55 j i hi nofun y;rw[List.any_eq_true.mpr];rfl;refine⟨r,Pn.mpr ⟨Xa.mpr nofun,h2⟩,?_⟩;show(cls a m L r).contains (L.getD i "")=a6;rw[j5c hL hn hi,Wc];exact Iv h3
theorem in_str{ws:List af}{p:af}:vg .isin (.str p) (.lst (ws.map D.str))=a4 (ws.contains p):=by
 have e:((ws.map D.str).any λe=>deq e (.str p))=ws.contains p:=by
  induction ws with
  |nil=>rfl
  |cons x ws ih=>rw[X3,T5,ih,Wm,ir,jQ]
 simp only[vg,D.sqv];rw[if_pos ⟨Qo ws,by simp[D.dep]⟩,e]
theorem j1e:∀l:List Bool,qb (l.map D.bl)=a6
 |[]=>rfl
 |_::l=>by rw[X3,qb,j1e l];rfl
noncomputable abbrev gC:Ex:=.not (.blt .any (.cons (.comp [3] (.cmp .isin (.var 2) (.var 3)) (.seq (.var 1)) .nil) .nil))
noncomputable abbrev gE:Ex:=.comp [4] (.var 4) (.seq (.ix (.var 0) (.lit (.int 0)))) (.cons (.call "may_exchange" (.cons (.var 0) (.cons (.var 2) (.cons (.var 4) .nil)))) .nil)
noncomputable abbrev gR(L:List af)(a:List Int)(gs:List D)(p:af):En:=[.val (qD L a),.own gs,.val (.str p),.un,.un]
theorem Dy{n m i:Nat}{L:List af}{a:List Int}(hL:L.length=m)(hn:L.Nodup)(hi:i<m)(hm:m<=6) :
  truth (ev (evP 1000 G T n) G gC (gR L a (gD (gto a m L i)) (L.getD i "")))=a4 (rep a m i):=by
 have gl:=Vh (a:=a) (m:=m) (L:=L) (i:=i);ext;rw[jo (l:=((gto a m L i).map λg=>g.contains (L.getD i "")).map D.bl) (by rfl) (by simp[gD];omega) ?_ (.inr (j1e _))]
 .ext;rw[gB];have:=jd9 (a:=a) hL hn hi;show a4 (!((gto a m L i).any λg=>g.contains (L.getD i "")))=_;rw[this,Bool.not_not]
 .rw[gD,Xg];refine ji λg hg=>qg (by ext) ?_;ext;rw[in_str];ext;rfl
theorem j0c{n m i:Nat}{L:List af}{a:List Int}{gs:List D}(hm:1<=m/\m<=6)(hL:L.length=m)(hn:L.Nodup)(ha:a.length=2^m)(hi:i<m) :
  ev (evP 1000 G T (n+5)) G gE (gR L a gs (L.getD i ""))=a4 (.v (.o ((cls a m L i).map D.str))):=by
 have eL:L.map D.str=(au m).map λj=>D.str (L.getD j ""):=by
  refine Xz λk=>?_;rw[xx,xx];by_cases hk:k<m
  .rw[Xu hk,kh nofun];show _=a4 (D.str (L.getD k ""));rw[xf,kh nofun];rfl
  .rw[Xc nofun,Xc (by simp;omega)];rfl
 have e0:ev (evP 1000 G T (n+5)) G (.seq (.ix (.var 0) (.lit (.int 0)))) (gR L a gs (L.getD i ""))=a4 (.i (L.map D.str)):=by unfold gR qD;ext;rw[at0];ext
 rw[j1w];show K3 [4] (ev _ G (.seq (.ix (.var 0) (.lit (.int 0)))) (gR L a gs (L.getD i ""))) _ _ a5 (gR L a gs (L.getD i ""))=_;rw[e0,jo (l:=(cls a m L i).map D.str) (by rfl) (by rw[xj];omega) ?_ (.inl rfl)];rw[eL,cls,Xg];refine Jp (g:=λj=>D.str (L.getD j "")) (p:=λj=>my a m i j) λj hj=>Qf (b:=my a m i j) ?_ λ_=>?_
 .ext;rw[Iw (n:=n) hm hL hn ha hi (Xa.mp hj)];ext;rfl
 .ext
theorem j1p{n:Nat}{L:List af}{a:List Int}{s1 s2 s3 s4:Sv}:ev (evP 1000 G T n) G (.seq (.ix (.var 0) (.lit (.int 0)))) [.val (qD L a),s1,s2,s3,s4]=a4 (.i (L.map D.str)):=by unfold qD;ext;rw[at0];ext
theorem j3y {L:List af} {m i:Nat} {d:D} (hL:L.length=m) (h:(L.map D.str)[i]?=a4 d):i<m/\d=.str (L.getD i ""):=by
 rw[xx]at h;cases e:L[i]? with
 |none=>rw[e]at h;cases h
 |some w =>rw[e]at h;cases h;have:=(Xb.mp e).1;exact⟨by omega,by rw[xf,e];rfl⟩
theorem Fd(gs:List (List af))(g:List af):gD (gs++[g])=gD gs++[.lst (g.map D.str)]:=by simp[gD]
theorem j0l {n m:Nat} {L:List af} {a:List Int} (hm:1<=m/\m<=6) (hL:L.length=m) (hn:L.Nodup) (ha:a.length=2^m):evP 1000 G T (n+6) "groups_of" [qD L a]=.fresh (gD (gto a m L m)):=by
 rw[jr (F:=Vt) (by rfl) rfl];simp only[Vt,Z3,enter];rw[Za,j17];show fin (Qg (orE (U9 1 (a4 (.v (.o []))) [.val (qD L a),.un,.un,.un,.un]) _ _) _)=_;rw[j43,Ij,V0,Za,Kv];show fin (Qg (j2t [2] (ev (evP 1000 G T (n+5)) G (.seq (.ix (.var 0) (.lit (.int 0)))) [.val (qD L a),.own [],.un,.un,.un]) _ [.val (qD L a),.own [],.un,.un,.un]) _)=_;rw[j1p,j1k];refine Vm (λi ρ=>∃s2,ρ=[.val (qD L a),.own (gD (gto a m L i)),s2,.un,.un]) ⟨_,rfl⟩ ?_ ?_
 .rintro i d ρ hi ⟨s2,rfl⟩;obtain⟨him,rfl⟩:=j3y hL hi;have gl:=Vh (a:=a) (m:=m) (L:=L) (i:=i);have gl2:(gD (gto a m L i)).length<=6:=by simp[gD];omega
  simp only[vy];show ∃ρ',run 1000 (evP 1000 G T (n+5)) G (.seq (.ife gC (.seq (.app 1 gE) .nop) .nop) .nop) (gR L a (gD (gto a m L i)) (L.getD i ""))=.next ρ'/\_;rw[Za,j18,Dy hL hn him hm.2];cases e:rep a m i with
  |false =>
   refine⟨gR L a (gD (gto a m L i)) (L.getD i ""),?_,.val (.str (L.getD i "")),?_⟩
   .simp only[ja6,Nj,V0]
   .rw[Ui,e];rfl
  |true =>
   refine⟨gR L a (gD (gto a m L i)++[.lst ((cls a m L i).map D.str)]) (L.getD i ""),?_,.val (.str (L.getD i "")),?_⟩
   .simp only[ja5,Za,j19,j0c hm hL hn ha him,Nj];show Qg (Qg (Y0 1 (a4 (.own (gD (gto a m L i)))) (a4 (.v (.o ((cls a m L i).map D.str)))) _) _) _=_;rw[j6a nofun];rfl
   .rw[Ui,e,if_pos rfl,Fd]
 .rintro ρ' ⟨s2,rfl⟩;rw[xj,hL];ext
theorem j1s{n m:Nat}{L:List af}{a:List Int}(hm:1<=m/\m<=6)(hL:L.length=m)(hn:L.Nodup)(ha:a.length=2^m):∀(q i:Nat)(s2:Sv),i+q=m ->
  Vr 1 2 (λρ=>truth (ev (evP 1000 G T (n+5)) G gC ρ)) (λρ=>ev (evP 1000 G T (n+5)) G gE ρ) ((L.map D.str).drop i) [.val (qD L a),.own (gD (gto a m L i)),s2,.un,.un] (gD (gto a m L i))=a4 (gD (gto a m L m))
 |0,i,s2,h=>by rw[List.drop_of_length_le (by rw[xj];omega),show i=m by omega];rfl
 |q+1,i,s2,h=>by
  have hi:i<m:=by omega
  have hd:(L.map D.str).drop i=.str (L.getD i "")::(L.map D.str).drop (i+1):=by
   have hlt:i<(L.map D.str).length:=by rw[xj];omega
   obtain⟨_,e⟩:=j3y hL (kh hlt);rw[d6 hlt,e]
  have gl:=Vh (a:=a) (m:=m) (L:=L) (i:=i);have gl2:(gD (gto a m L i)).length<ak:=lt_size (by simp[gD];omega);have ih:=j1s (n:=n) hm hL hn ha q (i+1) (.val (.str (L.getD i ""))) nofun
  rw[hd,Vr];show j8e (truth (ev _ G gC (gR L a (gD (gto a m L i)) (L.getD i "")))) (ev _ G gE (gR L a (gD (gto a m L i)) (L.getD i ""))) _ (Vr 1 2 _ _ _ (gR L a (gD (gto a m L i)) (L.getD i "")) _) _=_;rw[Dy hL hn hi hm.2,j0c hm hL hn ha hi];rw[Ui]at ih;cases e:rep a m i with
  |false=>rw[e]at ih;exact ih
  |true =>rw[e,if_pos rfl,Fd]at ih;show(if _ then _ else _)=_;rw[if_pos gl2];exact ih
theorem jcl {n m:Nat} {L:List af} {a:List Int} (hm:1<=m/\m<=6) (hL:L.length=m) (hn:L.Nodup) (ha:a.length=2^m):evP 1000 G T (n+6) (gq "groups_of") [qD L a]=.hnd (M7 [qD L a] (gD (gto a m L m))):=by
 have hq:gq "groups_of" = "&groups_of":=by decide +kernel
 rw[hq,jr (F:=Vq) (by rfl) rfl];have e:=j1s (n:=n) hm hL hn ha m 0 .un nofun
 have eg:Uj 1 2 (.seq (.ix (.var 0) (.lit (.int 0)))) gC gE 1000 (evP 1000 G T (n+5)) G [.val (qD L a),.un,.un,.un,.un]=.ret (.hnd (M7 [qD L a] (gD (gto a m L m)))):=by unfold Uj;rw[if_pos ⟨by show 1<5;decide,by decide⟩];show j8d [qD L a] (j8c (ev _ G _ [.val (qD L a),.own [],.un,.un,.un]) _)=_;rw[j1p];show j8d [qD L a] (Vr 1 2 _ _ (L.map D.str) [.val (qD L a),.own [],.un,.un,.un] [])=_;rw[cg]at e;have z:gD (gto a m L 0)=[]:=rfl;rw[z]at e;rw[e];rfl
 simp only[Vq,enter];rw[Za,Ni];show fin (Qg (Uj 1 2 (.seq (.ix (.var 0) (.lit (.int 0)))) gC gE 1000 (evP 1000 G T (n+5)) G [.val (qD L a),.un,.un,.un,.un]) _)=_;rw[eg];rfl
theorem j0m{f:D->En->So}{ds:List D}{ρ:En}{g:En->So}{Q:Rc->Prop}(W:Nat->En->Prop)(h0:W 0 ρ)(hs:∀i d ρ,ds[i]?=a4 d->W i ρ->∃ρ',f d ρ=.next ρ'/\W (i+1) ρ')(hk:∀ρ',W ds.length ρ'->Q (fin (g ρ'))):Q (fin (Qg (zr f ds ρ) g)):=by
 obtain⟨ρ',e,w⟩:=Qm (f:=f) W (k:=0) (ds:=ds) (ρ:=ρ) h0 λi d ρ hi w=>by rw[Td]at w ⊢;exact hs i d ρ hi w
 rw[e];rw[Td]at w;exact hk ρ' w
theorem jjo{i j:Int}:binI .band i j=a4 (cH i j):=(rfl)
theorem j0y:∀(l:List Int)(x:Int),vl (l++[x])=2*vl l+x
 |[],x=>by simp[vl]
 |y::l,x=>by rw[cz,vl,j0y l x,vl,Xe,gX,dH,<-gw,dJ _ (2:Int)];omega
theorem j8n(ks:List Nat):Q8 (ks.map λ(k:Nat)=>D.int (k:Int))=(au ks.length).map λ(i:Nat)=>D.tup [.int (i:Int),.int ((ks.getD i 0:Nat):Int)]:=by
 refine Xz λi=>?_;rw[Du,xx,xx];by_cases h:i<ks.length
 .rw[Xu h,kh h];simp[h]
 .rw[Xc nofun,Xc (by simp;omega)];rfl
theorem j9h {n m:Nat} {a:List Int} {mask:Int} (hm:1<=m/\m<=6) (ha:a.length=2^m):∃a':List Int,a'.length=2^m/\evP 1000 G T (n+2) "_law_alike_for" [.tup (a.map D.int),.int (m:Int),.int mask]=.val (.tup (a'.map D.int)):=by
 rw[jr (F:=Vv) (by rfl) rfl];simp only[Vv,Z6,enter];have p64:2^m<=64:=Xf (bL (by decide) hm.2) (by decide);have p2:=j79 (m:=m) nofun
 have pc:((2^m:Nat):Int)=(2:Int)^m:=by simp
 have e3:(1*2^m:Int).toNat=2^m:=by rw[bM,<-pc];exact X5 _
 ext;rw[X5];ext;rw[e3];refine j0m (Q:=λr=>∃a':List Int,a'.length=2^m/\r=.val (.tup (a'.map D.int))) (λi ρ=>∃(l:List Int)(s4 s5 s6 s7 s8 s9 s10 s11:Sv),l.length=i/\ρ=[.val (.tup (a.map D.int)),.val (.int (m:Int)),.val (.int mask),.own (l.map D.int),s4,s5,s6,s7,s8,s9,s10,s11]) ⟨[],_,_,_,_,_,_,_,_,rfl,rfl⟩ ?_ ?_
 .rintro i d ρ hi ⟨l,s4,s5,s6,s7,s8,s9,s10,s11,hl,rfl⟩;obtain⟨hlt,rfl⟩:=Z8 hi;simp only[vy,Xv];obtain⟨p,ep⟩:∃p:Nat->Bool,∀k:Nat,p k=decide (cH (mask/2^k) 1=1):=⟨_,λ_=>rfl⟩
  obtain⟨ks,eks⟩:∃ks:List Nat,ks=(au m).filter p:=⟨_,rfl⟩
  have kl:ks.length<=m:=by rw[eks];exact Xf (t6 _ _) (by rw[Xw];exact X7 _)
  have km:∀k∈ks,k<m:=λk hk=>by rw[eks]at hk;exact Xa.mp (Pn.mp hk).1
  ext;rw[Mh (n:=n) hm.2];ext;rw[jo (l:=ks.map λ(k:Nat)=>D.int (k:Int)) (by rfl) (by rw[jn];omega) ?_ (.inl rfl)];rotate_left
  .rw[X5,v4,eks];refine Jp (g:=λ(k:Nat)=>D.int (k:Int)) (p:=p) λk hk=>Qf (b:=p k) ?_ λ_=>?_
   .have hk:=Xa.mp hk;ext;rw[jjo];ext;rw[Xv,X5,ep];rfl
   .ext;rw[Xv]
  ext;rw[jo (l:=(ks.map λk=>(dg m i).getD k 0).map D.int) (by rfl) (by rw[xj];omega) ?_ (.inr (vo _))];rotate_left
  .rw[Xg];refine ji λk hk=>qg (by ext) ?_;ext;rw[Qw (by rw[Qz];exact km k hk)];ext;rfl
  ext;generalize (ks.map λk=>(dg m i).getD k 0).sum=y;rw[j8n];refine Y8 (λ_ ρ=>∃(r:List Int)(s7 s9:Sv),Rw m r/\ρ=[.val (.tup (a.map D.int)),.val (.int (m:Int)),.val (.int mask),.own (l.map D.int),.val (.int (i:Int)),.own (r.map D.int),.val (.lst (ks.map λ(k:Nat)=>D.int (k:Int))),s7,.val (.int y),s9,s10,s11]) ⟨_,_,_,Ua m i,rfl⟩ ?_ ?_
  .rintro j d ρ hj ⟨r,s7',s9',hr,rfl⟩;rw[xx]at hj;have hjl:j<ks.length:=by refine Nat.lt_of_not_le λh=>?_;rw[Xc (by simp;omega)]at hj;cases hj
   rw[Xu hjl]at hj;cases hj;have hkj:ks.getD j 0<m:=km _ (by rw[xf,kh hjl];exact Py hjl);simp only[jd7];generalize ks.getD j 0=kj at hkj;ext;erw[show cmpI .lt (j:Int) y=a4 (decide ((j:Int)<y))from rfl,Ie (n:=kj) (by rw[xj,hr.1,Ow nofun];simp)];refine⟨_,rfl,r.set kj (if decide ((j:Int)<y)=a6 then 1 else 0),_,_,?_,by rw[eT]⟩;refine⟨by rw[Ti];exact hr.1,λx hx=>?_⟩;rcases List.mem_or_eq_of_mem_set hx with h|h
   .exact hr.2 x h
   .rw[h];split<;>omega
  .rintro ρ' ⟨r,s7',s9',hr,rfl⟩;ext;refine Y8 (λj ρ=>∃(s11:Sv),ρ=[.val (.tup (a.map D.int)),.val (.int (m:Int)),.val (.int mask),.own (l.map D.int),.val (.int (i:Int)),.val (.lst (r.map D.int)),.val (.lst (ks.map λ(k:Nat)=>D.int (k:Int))),s7',.val (.int y),s9',.val (.int (vl (r.take j))),s11]) ⟨_,rfl⟩ ?_ ?_
   .rintro j d ρ hj ⟨s11',rfl⟩;rw[xx]at hj;cases e:r[j]? with
    |none=>rw[e]at hj;cases hj
    |some x =>
     rw[e]at hj;cases hj;simp only[vy];ext;refine⟨_,rfl,.val (.int x),?_⟩;rw[cc,e];show _=[_,_,_,_,_,_,_,_,_,_,Sv.val (.int (vl (r.take j++[x]))),_]
     rw[j0y]
   .rintro ρ' ⟨s11',rfl⟩;rw[xj,cw];obtain⟨v1,v2⟩:=Ln hr.2;rw[hr.1]at v2;obtain⟨w,ew⟩:∃w:Nat,vl r=(w:Int):=⟨(vl r).toNat,by omega⟩
    rw[ew]at v1 v2 ⊢;have hw:w<2^m:=by rw[<-pc]at v2;omega
    ext;rw[Qw nofun];ext;refine⟨_,rfl,l++[a.getD w 0],.val (.int (i:Int)),.val (.lst (r.map D.int)),.val (.lst (ks.map λ(k:Nat)=>D.int (k:Int))),s7',.val (.int y),s9',.val (.int (w:Int)),s11',by rw[Xe,hl];rfl,?_⟩;rw[Xp];rfl
 .rintro ρ' ⟨l,s4,s5,s6,s7,s8,s9,s10,s11,hl,rfl⟩;rw[jn]at hl;ext;exact⟨l,hl,rfl⟩
noncomputable def oD(k:Nat):D:=.int (k:Int)
theorem j7c {n m:Nat} {c:Int} (hm:1<=m/\m<=6):∃os:List Nat,os.Perm (au m)/\evP 1000 G T (n+1) "_law_order" [.int c,.int (m:Int)]=.fresh (os.map oD):=by
 obtain⟨ρ',e1,d,s3,left,out,er,h1,h2⟩:=Qm (f:=Ut [3] (run 1000 (evP 1000 G T n) G (.seq (.set 5 (.bin .mod (.bin .add (.bin .add (.bin .mul (.var 5) (.lit (.int 48271))) (.bin .mul (.lit (.int 7)) (.var 3))) (.lit (.int 1))) (.lit (.int 2147483647)))) (.seq (.apop 4 2 (.bin .mod (.bin .fdiv (.var 5) (.lit (.int 32))) (.blt .len (.cons (.var 2) .nil)))) .nop))))
   (λi ρ=>∃(d:Int)(s3:Sv)(left out:List Nat),ρ=[.val (.int c),.val (.int m),.own (left.map oD),s3,.own (out.map oD),.val (.int d)]/\left.length+i=m/\(left++out).Perm (au m))
   (ds:=upto 0 m) (ρ:=[.val (.int c),.val (.int m),.own ((au m).map oD),.un,.own [],.val (.int (c%2147483647))]) (k:=0) ⟨_,_,au m,[],rfl,by simp,by rw[Xx]⟩ λi x ρ hi ⟨d,s3,left,out,er,h1,h2⟩=>by
  obtain⟨hi6,ex⟩:=Z8 hi;subst er ex;have hl:0<left.length:=by omega
  obtain⟨u,eu⟩:∃u:Int,u=(d*48271+7*(0+(i:Int))+1)%2147483647:=⟨_,rfl⟩
  have hb:0<=u/32%(left.length:Int)/\u/32%(left.length:Int)<(left.length:Int):=⟨pq _ nofun,P0 _ nofun⟩
  obtain⟨k,ek⟩:∃k:Nat,k=(u/32%(left.length:Int)).toNat:=⟨_,rfl⟩
  have hk:k<left.length:=by omega
  have ol:out.length<=6:=by have:=h2.length_eq;rw[Xe,Xw]at this;omega
  refine⟨[.val (.int c),.val (.int m),.own ((left.eraseIdx k).map oD),.val (.int (0+(i:Int))),.own ((out++[left[k]]).map oD),.val (.int u)],?_,u,_,left.eraseIdx k,out++[left[k]],rfl,?_,?_⟩
  .simp only[vy];ext;erw[<-eu,jd8 (k:=k) (d:=oD left[k]) (by rw[xj,Ow hb,ek]) (by rw[xx,kh hk];rfl) (by decide) (by rw[xj];omega) (by rw[xj];omega)];rw[Dt,Xp];rfl
  .rw[List.length_eraseIdx_of_lt hk];omega
  .refine List.Perm.trans ?_ h2;rw[<-Tp];refine(List.perm_append_comm (l₁:=left.eraseIdx k++out) (l₂:=[left[k]])).trans ?_;rw[gW,<-cz];exact(Bj left k hk).append_right out
 have hlen:left=[]:=by rw[Td,jn]at h1;exact List.eq_nil_of_length_eq_zero nofun
 rw[hlen,fB]at h2;refine⟨out,h2,?_⟩;rw[jr (F:=Mv) (by rfl) rfl];simp only[Mv,Uw,enter];ext;rw[jo (l:=(au m).map oD) (by rfl) (by rw[jn,X5];omega) ?_ (.inl rfl)]
 .ext;rw[X5,e1,er];ext
 .rw[X5,v4];refine ji λk hk'=>qg (by ext) ?_;ext;rw[Xv];rfl
theorem j07{n m:Nat}{L P:List af}{p:List Int}(hm:1<=m/\m<=6)(hL:L.length=m)(hp:L.Perm P)(hl:p.length=m) :
  evP 1000 G T (n+2) "part_carried" [vd p,.tup (L.map D.str),.lst (P.map D.str)]=.val (vd (P.map λw=>p.getD (L.idxOf w) 0)):=by
 have hP:P.length=m:=by rw[<-hp.length_eq,hL]
 have e:=Rr (n:=n) (r:=p) (l:=P) (f:=λw=>L.idxOf w) hl (λw hw=>by
  rw[<-hL];exact cM (hp.mem_iff.mpr hw)) nofun
 rw[jr (F:=Jd) (by rfl) rfl];simp only[Jd,Jf,enter];ext;rw[Rq (n:=n) (.inl rfl) (.inr rfl) nofun nofun hp.symm];ext;rw[jo (l:=P.map λw=>D.int ((L.idxOf w:Nat):Int)) (by rfl) (by rw[xj];omega) ?_ (.inl rfl)]
 .ext;rw[e];ext
 .refine ji λw hw=>qg (by ext) ?_;ext;rw[N8 (.inl rfl) (hp.mem_iff.mpr hw)]
theorem j0q{n:Nat}{L P:List af}{p:List Int}(h1:L.length<64)(h2:P.length<64)(hp:¬P.Perm L) :
  evP 1000 G T (n+2) "part_carried" [vd p,.tup (L.map D.str),.lst (P.map D.str)]=.err "NoPlace":=by
 rw[jr (F:=Jd) (by rfl) rfl];simp only[Jd,Jf,enter];have e:=j2i (n:=n) (s:=D.tup) (t:=D.lst) (.inl rfl) (.inr rfl) h1 h2 hp;ext;rw[e];ext;simp only[U3,U0,Wl,Wj,Zy];ext;simp only[Zy,Bl,Ri,X3,bP,Rk.d];rw[e];simp only[Bk Ej];ext
theorem Iz {n:Nat} {L:List af} {a:List Int} {p q:af} (hp:p∉L) (hr:(aI p).length<=2000):evP 1000 G T (n+2) "may_exchange" [qD L a,.str p,.str q]=.err "NoPlace":=by have sp:evP 1000 G T (n+1) "spot_of" [.tup [.tup (L.map D.str),.tup (a.map D.int)],.str p]=_:=Km (n:=n) (a:=a) hp hr;rw[jr (F:=zx) (by rfl) rfl];simp only[zx,v9,enter,qD];ext;rw[sp];ext;simp only[U3,U0,Wl,Wj,Zy];ext;simp only[Zy,Bl,Ri,X3,bP,Rk.d];rw[sp];simp only[Bk Ej];ext
theorem j7j {n:Nat} {L:List af} {a:List Int} {p q:af} (hq:q∈L) (hp:p∉L) (hr:(aI p).length<=2000):evP 1000 G T (n+2) "may_exchange" [qD L a,.str q,.str p]=.err "NoPlace":=by have s1:evP 1000 G T (n+1) "spot_of" [.tup [.tup (L.map D.str),.tup (a.map D.int)],.str q]=_:=Ng (n:=n) (a:=a) hq;have sp:evP 1000 G T (n+1) "spot_of" [.tup [.tup (L.map D.str),.tup (a.map D.int)],.str p]=_:=Km (n:=n) (a:=a) hp hr;rw[jr (F:=zx) (by rfl) rfl];simp only[zx,v9,enter,qD];ext;erw[s1,sp];simp only[U3,U0,Wl,Wj,Zy];ext;simp only[Zy,Bl,Ri,X3,bP,Rk.d];rw[sp];simp only[Bk Ej];ext
theorem j9y:vg .eq (.lst [.str "NoPlace"]) (.lst [.str "NoPlace"])=a4 a6:=by rw[j01 (by simp[D.dep,D.depL]) (by simp[D.dep,D.depL])];rfl
theorem Vk {n:Nat} {q:D} {x y:af} (h:evP 1000 G T (n+2) "may_exchange" [q,.str x,.str y]=.err "NoPlace"):evP 1000 G T (n+3) "_law_strange" [q,.str x,.str y]=.val (.bl a6):=by rw[jr (F:=Ul) (by rfl) rfl];simp only[Ul,Vc,enter];ext;rw[h];ext;simp only[U3,U0,Wl,Wj,Zy];ext;simp only[Zy,Bl,Ri,X3,bP,Rk.d];rw[h];simp only[Bk Ej];ext;erw[Ka gNP,j9y]
theorem j4p {n:Nat} {p L:D} {B:List D} (h:evP 1000 G T (n+2) "part_carried" [p,L,.lst B]=.err "NoPlace"):evP 1000 G T (n+3) "_law_not_carried" [p,L,.lst B]=.val (.bl a6):=by rw[jr (F:=Zh) (by rfl) rfl];simp only[Zh,Q9,enter];ext;rw[h];ext;simp only[U3,U0,Wl,Wj,Zy];ext;simp only[Zy,Bl,Ri,X3,bP,Rk.d];rw[h];simp only[Bk Ej];ext;erw[Ka gNP,j9y]
theorem Ms {P:List af} {k:Nat} (h:k<P.length):atI (P.map D.str) (k:Int)=a4 (.str (P.getD k "")):=by rw[Rj (v:=.str (P.getD k "")) (by rw[xx,xf,kh h];rfl)]
theorem Mr {P:List af} {k:Nat} (h:k<P.length):P.getD k "" ∈ P:=by rw[xf,kh h];exact Py h
theorem Wb{A B:List af}(h:A.length≠B.length):¬A.Perm B:=λp=>h p.length_eq
theorem j6e{n m:Nat}{P:List af}{c:Int}{st:af}(hm:1<=m/\m<=6)(hP:P.length=m)(hn:P.Nodup)(su:st∉P) :
  ∃B:List af,B.length<64/\(¬B.Perm P)/\evP 1000 G T (n+1) "_law_wrong" [.lst (P.map D.str),.str st,.int c]=.fresh (B.map D.str):=by
 have hb:0<=c/8%(m:Int)/\c/8%(m:Int)<(m:Int):=⟨pq _ nofun,P0 _ nofun⟩
 obtain⟨t,et⟩:∃t:Nat,c/8%(m:Int)=(t:Int):=⟨(c/8%(m:Int)).toNat,by omega⟩
 have ht:t<m:=by omega
 have lP:(P.map D.str).length=m:=by rw[xj,hP]
 rw[jr (F:=Mu) (by rfl) rfl];simp only[Mu,Uv,enter];have e1:(t:Int)+1=((t+1:Nat):Int):=by omega
 have k1:cutD (P.map D.str) a7 (a4 (t:Int))=(P.take t).map D.str:=by rw[jh5 nofun,List.map_take]
 have k2:cutD (P.map D.str) (a4 ((t:Int)+1)) a7=(P.drop (t+1)).map D.str:=by rw[e1,j5l nofun,jO]
 have k3:cutD (P.map D.str) (a4 (t:Int)) a7=(P.drop t).map D.str:=by rw[j5l nofun,jO]
 have l1:(cutD (P.map D.str) a7 (a4 (t:Int))).length<=6:=by rw[k1];simp;omega
 have l2:(cutD (P.map D.str) (a4 ((t:Int)+1)) a7).length<=6:=by rw[k2];simp;omega
 have l3:(cutD (P.map D.str) (a4 (t:Int)) a7).length<=6:=by rw[k3];simp;omega
 ext;rw[hP,et];ext;by_cases c0:c%4=0
 .refine⟨P.take t++[st]++P.drop (t+1),by simp;omega,λz=>su (z.mem_iff.mp (by simp)),?_⟩;ext;rw[k1,k2,Xp,Xp];rfl
 by_cases c1:c%4=1
 .refine⟨P.take t++P.drop (t+1),by simp;omega,Wb (by simp;omega),?_⟩;ext;rw[k1,k2,Xp]
 have hmx:1<=(if (m:Int)-1>1 then(m:Int)-1 else 1)/\(if (m:Int)-1>1 then(m:Int)-1 else 1)<18446744073709551616:=by omega
 have hb2:0<=((t:Int)+1+c/64%(if (m:Int)-1>1 then(m:Int)-1 else 1))%(m:Int)/\((t:Int)+1+c/64%(if (m:Int)-1>1 then(m:Int)-1 else 1))%(m:Int)<(m:Int):=⟨pq _ nofun,P0 _ nofun⟩
 obtain⟨j,ej⟩:∃j:Nat,((t:Int)+1+c/64%(if (m:Int)-1>1 then(m:Int)-1 else 1))%(m:Int)=(j:Int):=⟨_,(eG hb2.1).symm⟩
 have hj:j<m:=by omega
 have a1:atI (P.map D.str) (j:Int)=a4 (.str (P.getD j "")):=Ms nofun
 have nj:1<m->j≠t:=λh1 e=>by
  subst e;have r1:=pq (c/64) (show(if (m:Int)-1>1 then(m:Int)-1 else 1)≠0 by omega);have r2:=P0 (c/64) (show 0<(if (m:Int)-1>1 then(m:Int)-1 else 1)by omega);generalize c/64%(if (m:Int)-1>1 then(m:Int)-1 else 1)=r at *;have r3:r<(m:Int)-1:=by split at r2<;>omega
  by_cases z:(j:Int)+1+r<m
  .rw[eY nofun z]at ej;omega
  .have:((j:Int)+1+r)%(m:Int)=(j:Int)+1+r-m:=by rw[<-Int.sub_emod_right,eY nofun nofun]
   omega
 ext;rw[hP];ext;rw[ej,a1];ext;by_cases h1:c%4=2/\1<m
 .refine⟨P.take t++[P.getD j ""]++P.drop (t+1),by simp;omega,λz=>?_,?_⟩
  .have hm':P.getD t "" ∈ P.take t++[P.getD j ""]++P.drop (t+1):=z.mem_iff.mpr (Mr nofun);have gt:P.getD t "" = P[t]:=by rw[xf,kh nofun];rfl
   have gj:P.getD j "" = P[j]:=by rw[xf,kh nofun];rfl
   rw[gt,gj]at hm';simp only[ph,X6]at hm';rcases hm' with (y|y)|y
   .obtain⟨i,hi,e⟩:=List.mem_iff_getElem.mp y;rw[List.getElem_take]at e;have:=(cy hn).mp e;rw[Xm]at hi;omega
   .exact nj h1.2 ((cy hn).mp y).symm
   .obtain⟨i,hi,e⟩:=List.mem_iff_getElem.mp y;rw[List.getElem_drop]at e;have:=(cy hn).mp e;omega
  .have c2:=h1.1;have b1:cmpI .gt (m:Int) 1=a4 a6:=Cg nofun
   ext;rw[k1,k2,Xp,Xp];rfl
 .refine⟨P.take t++[P.getD j ""]++P.drop t,by simp;omega,Wb (by simp;omega),?_⟩;by_cases c2:c%4=2
  .have h2:¬1<m:=λz=>h1 ⟨c2,z⟩;have b1:cmpI .gt (m:Int) 1=a4 a5:=Ci nofun
   ext;rw[k1,k3,Xp,Xp];rfl
  .ext;rw[k1,k3,Xp,Xp];rfl
noncomputable def low(c:Nat):Bool:=decide (97<=c)&&decide (c<=122)
def asc(l:List Nat):Prop:=∀c∈l,c<128
theorem jfi(n:Int):lt n=0\/low (lt n)=a6:=by
 unfold lt;have h:∀c∈letters,low c=a6:=by decide
 rw[xf];cases e:letters[n.toNat]? with
 |none=>exact .inl rfl
 |some c=>exact .inr (h c (Xl e))
theorem Rg{n:Int}(h:0<=n/\n<26):low (lt n)=a6:=by
 rcases jfi n with z|z
 .obtain⟨i,rfl⟩:∃i:Nat,n=(i:Int):=⟨n.toNat,by omega⟩
  have key:∀i:Fin 26,letters.getD i.val 0≠0:=by decide
  exact absurd z (key ⟨i,by omega⟩)
 .exact z
theorem j1j{c:Nat}(h:low c=a6):c<128:=by unfold low at h;rw[Xd]at h;have:=of_decide_eq_true h.2;omega
theorem jam{c:Int}{m k:Nat}:∀x∈wrd c m k,low x=a6:=by
 have hl:∀x∈Zu c,low x=a6:=λx hx=>by obtain⟨k,_,rfl⟩:=Xh.mp hx;exact Rg nofun
 have hs:∀x∈Qq c (szN c),low x=a6:=λx hx=>by obtain⟨k,_,rfl⟩:=Xh.mp hx;exact Rg nofun
 intro x hx;unfold wrd at hx;split at hx
 .split at hx
  .exact hl x (bK hx)
  .exact hl x (dS hx)
 .rcases ph.mp hx with z|z
  .exact hs x (bK z)
  .rcases xn.mp z with z|z
   .rw[z];exact Rg nofun
   .exact hs x (dS z)
theorem j6g{c:Int}{m k:Nat}:(wrd c m k).length<=8:=by
 have a:=K6 c;have l8:=J4 c;have ls:=z8 c (szN c);unfold wrd;split
 .split
  .rw[Xm];omega
  .rw[Pa];omega
 .rw[Xe,X4,Xm,Pa];omega
theorem jbi{l:List Nat}(ha:asc l)(h:l.length<=100):(aI (sL l)).length<=2000:=by have:=PySem.StrLaws.reprText_len (sL l) (by rw[j47];exact λc hc=>Xk (ha c hc) (by decide));rw[zf]at this;omega
theorem El{n:Nat}(h:1<=n):aB a7 (a4 (-1)) 1 n=aB (a4 ((0:Nat):Int)) (a4 ((n-1:Nat):Int)) 1 n:=by
 have e:max (0:Int) (min 0 (n:Int))=0:=by omega
 have e2:((n-1:Nat):Int)=(n:Int)-1:=by omega
 have e3:max (0:Int) (min (-1+(n:Int)) (n:Int))=max (0:Int) (min ((n:Int)-1) (n:Int)):=by omega
 have e4:¬((n:Int)-1<0):=by omega
 simp[aB,e,e2,e3,e4]
theorem sub_len:∀{l ws:List af},l.Nodup->(∀x∈l,x∈ws)->l.length<=ws.length
 |[],_,_,_=>T9 _
 |x::l,ws,hn,hs=>by
  have hx:=hs x (xq ..);have hn':=Xq.mp hn;have q:=sub_len (ws:=ws.erase x) hn'.2 λy hy=>by have ne:y≠x:=λz=>hn'.1 (by rw[<-z];exact hy);exact(List.mem_erase_of_ne ne).mpr (hs y (xg _ hy))
  rw[List.length_erase_of_mem hx]at q;have:=List.length_pos_of_mem hx;rw[X4];omega
theorem j2e{l:List Nat}(h:1<=l.length):bc (sL l) a7 (a4 (-1))=sL (l.take (l.length-1)):=by rw[M8 (a:=0) (b:=l.length-1) (by rw[zf];exact El h) (T9 _) nofun];simp
theorem Ue:∀F:List af,qb (F.map D.str)=a6
 |[]=>rfl
 |x::F=>by rw[X3,qb,Ue F];rfl
noncomputable def cands(l:List Nat)(s:Nat):List (List Nat):=[l++[s],s::l,l.drop 1,l.take (l.length-1),l.take (l.length-1)++[s]]++letters.map λc=>[c]
noncomputable def okC(L:List af)(y:List Nat):Bool:=(decide ((0:Int)<(y.length:Int))&&decide ((y.length:Int)<9)) && !L.contains (sL y)
theorem j5v{l:List Nat}{s:Nat}(h:asc l)(hs:s<128):∀y∈cands l s,asc y:=by
 intro y hy;unfold cands at hy;simp only[ph,xn,bO,or_false,Xh]at hy;rcases hy with (rfl|rfl|rfl|rfl|rfl)|⟨c,hc,rfl⟩
 .intro x hx;rcases ph.mp hx with z|z
  .exact h x z
  .rw[X6.mp z];exact hs
 .intro x hx;rcases xn.mp hx with z|z
  .rw[z];exact hs
  .exact h x z
 .exact λx hx=>h x (dS hx)
 .exact λx hx=>h x (bK hx)
 .intro x hx;rcases ph.mp hx with z|z
  .exact h x (bK z)
  .rw[X6.mp z];exact hs
 .intro x hx;rw[X6.mp hx];have:∀c∈letters,c<128:=by decide
  exact this c hc
theorem j5u{l:List Nat}{s:Nat}(h:l.length<=8):∀y∈cands l s,y.length<=20:=by intro y hy;unfold cands at hy;simp only[ph,xn,bO,or_false,Xh]at hy;rcases hy with (rfl|rfl|rfl|rfl|rfl)|⟨c,hc,rfl⟩<;>simp<;>omega
theorem j3a{L:List af}(hw:L.length<=6)(l:List Nat)(s:Nat):0<((cands l s).filter (okC L)).length:=by
 refine Nat.pos_of_ne_zero λz=>?_;have e:=List.length_eq_zero_iff.mp z;rw[List.filter_eq_nil_iff]at e;have q:(letters.map λc=>sL [c]).length<=L.length:=sub_len (by decide) λy hy=>by obtain⟨c,hc,rfl⟩:=Xh.mp hy;have m:[c]∈cands l s:=Xo _ (Xh.mpr ⟨c,hc,rfl⟩);have:=e _ m;unfold okC at this;simpa using this
 have:(letters.map λc=>sL [c]).length=26:=by decide
 omega
theorem jdl:chs ("mdkbvqhzcgrnapxolsiefwtyju":af)=(letters.map λc=>[c]).map λy=>D.str (sL y):=by unfold chs;rw[j1i,Xg];rfl
theorem Le{n m:Nat}{L:List af}{c:Int}(hw:L.length=m)(hm:1<=m/\m<=6)(hc:∀p∈L,∃l,p=sL l/\1<=l.length/\l.length<=8/\asc l) :
  ∃y,y∉L/\(aI y).length<=2000/\evP 1000 G T (n+1) "_law_stranger" [.tup (L.map D.str),.int c]=.val (.str y):=by
 have hz1:=pq c (show(m:Int)≠0 by omega);have hz2:=P0 c (show(0:Int)<m by omega);obtain⟨k,ek⟩:∃k:Nat,c%(m:Int)=(k:Int):=⟨(c%(m:Int)).toNat,by omega⟩
 have hk:k<L.length:=by omega
 obtain⟨l,el,l1,l8,lc⟩:=hc _ (Mr hk);obtain⟨s,es⟩:∃s,s=lt (c/64%26):=⟨_,rfl⟩
 have s128:s<128:=by have:=j1j (show low s=a6 by rw[es];exact Rg nofun);exact this
 obtain⟨F,eF⟩:∃F,F=(cands l s).filter (okC L):=⟨_,rfl⟩
 have fp:0<F.length:=by rw[eF];exact j3a nofun l s
 have cl:(cands l s).length=31:=by simp[cands,letters]
 have fle:F.length<=31:=by rw[eF];exact Xf (t6 _ _) nofun
 obtain⟨w,ew⟩:∃w:Int,w=(if (F.length:Int)<6 then(F.length:Int)else 6):=⟨_,rfl⟩
 have hw1:1<=w/\w<=F.length/\w<=6:=by rw[ew];split<;>omega
 have hz3:=pq (c/8) (show w≠0 by omega);have hz4:=P0 (c/8) (show(0:Int)<w by omega);obtain⟨j,ej⟩:∃j:Nat,c/8%w=(j:Int):=⟨(c/8%w).toNat,by omega⟩
 have hj:j<F.length:=by omega
 obtain⟨y,ey⟩:∃y,F[j]?=a4 y:=⟨_,kh hj⟩
 have yin:y∈F:=Xl ey;rw[eF,Pn]at yin;have yb:=yin.2;unfold okC at yb;rw[Xd,Xd]at yb;have yn:sL y∉L:=by simpa using yb.2
 have y9:y.length<9:=by have:=of_decide_eq_true yb.1.2;omega
 refine⟨sL y,yn,jbi (j5v lc s128 y yin.1) nofun,?_⟩;rw[jr (F:=Yq) (by rfl) rfl];simp only[Yq,Zz,enter];have sl:(sL l).length=l.length:=zf;have ss:(sL [s]).length=1:=rfl;have ll:=j2w;have l26:letters.length=26:=rfl;have c3:Qi .add (a4 (.v (.e (.str (sL (l.take (l.length-1))))))) (a4 (.v (.e (.str (sL [s])))))=a4 (.v (.e (.str (sL (l.take (l.length-1)++[s]))))):=by rw[j5t (by rw[ss,zf,Xm];omega),<-Qk]
 have d1:bc (sL l) (a4 1) a7=sL (l.drop 1):=U8 (k:=1) l1;have d2:=j2e l1;have a1:(⟨#[lt (c/64%26)]⟩:af)=sL [s]:=by rw[es];rfl
 ext;rw[hw,ek,Ms hk,el];ext;erw[Lz nofun,a1];rw[Qk,show sL [s]++sL l=sL (s::l)from Qk (l:=[s]) (m:=l),d1,d2,c3];ext;rw[je4 (by decide +kernel),jdl,jo (l:=(letters.map λc=>[c]).map λy=>D.str (sL y)) (by rfl) (by decide) ?_ (.inr ?_)];rotate_left
 .refine ji λy hy=>qg (by ext) ?_;ext
 .have:=Ue ((letters.map λc=>[c]).map sL);rw[Xg]at this;exact this
 ext;rw[jo (l:=F.map λy=>D.str (sL y)) (by rfl) (by show((cands l s).map λy=>D.str (sL y)).length<=1000000;rw[xj];omega) ?_ (.inr ?_)];rotate_left
 .show Jj _ ((cands l s).map λy=>D.str (sL y))=_;rw[eF];refine Jp (g:=λy=>D.str (sL y)) (p:=okC L) λy hy=>Qf (b:=okC L y) ?_ λ_=>?_
  .have yl:(sL y).length=y.length:=zf;have y20:y.length<=20:=j5u l8 y hy;ext;rw[yl];unfold okC;cases(decide ((0:Int)<(y.length:Int))&&decide ((y.length:Int)<9)) with
   |false=>ext;rfl
   |true =>ext;rw[Wa _ (.inl rfl)];ext;rfl
  .ext
 .have:=Ue (F.map sL);rw[Xg]at this;exact this
 ext;rw[<-ew,ej,Rj (v:=.str (sL y)) (by rw[xx,ey];rfl)];ext
theorem ja4:∀{bs:List Bool},a6∈bs->ixD (.bl a6) (bs.map D.bl)=a4 (bs.idxOf a6)
 |[],h=>by cases h
 |b::bs,h=>by
  unfold ixD;rw[X3];dsimp only;rw[show deq (.bl b) (.bl a6)=(b==a6)from by cases b<;>rfl,iZ];cases b with
  |true=>rfl
  |false =>
   have h2:a6∈bs:=by simpa using h
   rw[ja4 h2];rfl
theorem jck{a:List Int}{m k:Nat}(hk:k<m):decide ((((au m).map λj=>my a m k j).idxOf a6:Int)=(k:Int))=rep a m k:=by
 have hl:k<((au m).map λj=>my a m k j).length:=by simpa using hk
 have key:=List.findIdx_eq (p:=λx=>x==a6) hl;rw[bX,decide_eq_true_eq];have e:((au m).map λj=>my a m k j).idxOf a6=((au m).map λj=>my a m k j).findIdx λx=>x==a6:=rfl;rw[e,Int.ofNat_inj,key,Lr];simp only[List.getElem_map,List.getElem_range,beq_true];refine⟨λh j hj y=>?_,λh=>⟨Wc.mpr Mp,λj hj=>?_⟩⟩
 .have:=h.2 j hj;rw[Wc.mpr y]at this;cases this
 .cases z:my a m k j with
  |false=>rfl
  |true=>exact absurd (Wc.mp z) (h j hj)
theorem jd6{a:List Int}{m k:Nat}(hk:k<m):a6∈(au m).map λj=>my a m k j:=Xh.mpr ⟨k,Xa.mpr hk,Wc.mpr Mp⟩
theorem j66{a:List Int}{m k j:Nat}(hj:j<m):atI (((au m).map λj=>my a m k j).map D.bl) (j:Int)=a4 (.bl (my a m k j)):=by rw[Rj (v:=.bl (my a m k j)) (by rw[xx,xx,Xu hj];rfl)]
theorem j2z:T "_law_same" = a4 KL.fL_same:=by rfl
theorem jb8 {n:Nat} {b:Bool}:evP 1000 G T (n+1) "_law_same" [.bl b,.bl b]=.val (.bl a6):=W7 j2z 0 (by simp[D.dep]) (by simp[J7])
theorem j6z {n:Nat} {r:List Int} (h:r.length<=1000):evP 1000 G T (n+2) "_law_same" [vd r,vd r]=.val (.bl a6):=by
 refine W7 j2z 1 ?_ (j53 h);have d1:D.depL (r.map D.int)<=0:=D.depL_of λd hd=>by obtain⟨x,_,rfl⟩:=Xh.mp hd;simp[D.dep]
 unfold vd;rw[D.dep];omega
theorem Em{a:List Int}{m:Nat}{L:List af}{i:Nat}:∀g∈gto a m L i,g.length<=m:=λg hg=>by obtain⟨k,_,rfl⟩:=Xh.mp hg;unfold cls;rw[xj];exact Xf (t6 _ _) (by rw[Xw];exact X7 _)
theorem j46 {n:Nat} {gs:List (List af)} (h1:gs.length<=1000) (h2:∀g∈gs,g.length<=1000):evP 1000 G T (n+3) "_law_same" [.lst (gD gs),.lst (gD gs)]=.val (.bl a6):=by
 refine W7 j2z 2 ?_ ?_
 .have:D.depL (gD gs)<=1:=D.depL_of λd hd=>by
   obtain⟨g,_,rfl⟩:=Xh.mp hd;rw[D.dep];have:D.depL (g.map D.str)<=0:=D.depL_of λd hd=>by obtain⟨x,_,rfl⟩:=Xh.mp hd;simp[D.dep]
   omega
  rw[D.dep];omega
 .simp only[J7];refine⟨by simp[gD];exact h1,Yg λd hd=>?_⟩;obtain⟨g,hg,rfl⟩:=Xh.mp hd;simp only[J7];exact⟨by simpa using h2 g hg,Yg λd hd=>by obtain⟨x,_,rfl⟩:=Xh.mp hd;simp[J7]⟩
theorem j93{Γ:af->List D->Rc}{f:af}{x y z w:D}:J8 Γ f (a4 (.a [.e x,.e y,.e z,.e w]))=rcW (Γ f [x,y,z,w]):=Zn rfl
noncomputable abbrev lB:Sx:=(.seq (.fgt 9) (.seq (.set 8 (.comp [9] (.call "_law_may" (.cons (.var 2) (.cons (.var 3) (.cons (.var 7) (.cons (.var 9) .nil))))) (.range (.cons (.var 3) .nil)) .nil)) (.seq (.loop [9] (.range (.cons (.var 3) .nil)) (.seq (.ife (.not (.call "_law_same" (.cons (.call "may_exchange" (.cons (.var 5) (.cons (.ix (.var 1) (.var 7)) (.cons (.ix (.var 1) (.var 9)) .nil)))) (.cons (.ix (.var 8) (.var 9)) .nil)))) (.seq (.ret (.lit (.bl a5))) .nop) .nop) .nop)) (.seq (.ife (.cmp .eq (.tix (.var 8) (.lit (.bl a6))) (.var 7)) (.seq (.fgt 9) (.seq (.app 6 (.comp [9] (.ix (.var 1) (.var 9)) (.range (.cons (.var 3) .nil)) (.cons (.ix (.var 8) (.var 9)) .nil))) .nop)) .nop) .nop))))
noncomputable abbrev lR(s0:Sv)(L:List af)(a:List Int)(m:Nat)(s4:Sv)(gs:List D)(s7 s8 s9:Sv):En:=[s0,.val (.tup (L.map D.str)),.val (.tup (a.map D.int)),.val (.int (m:Int)),s4,.val (.tup [.tup (L.map D.str),.tup (a.map D.int)]),.own gs,s7,s8,s9,.un,.un,.un,.un,.un,.un,.un,.un,.un]
theorem jc3{n m k:Nat}{L:List af}{a:List Int}{s0 s4 s7 s8 s9:Sv}(hm:1<=m/\m<=6)(hL:L.length=m)(hn:L.Nodup)(ha:a.length=2^m)(hk:k<m) :
  ∃ρ',Ut [7] (run 1000 (evP 1000 G T (n+6)) G lB) (.int (k:Int)) (lR s0 L a m s4 (gD (gto a m L k)) s7 s8 s9)=.next ρ'/\∃s7 s8 s9,ρ'=lR s0 L a m s4 (gD (gto a m L (k+1))) s7 s8 s9:=by
 have gl:=Vh (a:=a) (m:=m) (L:=L) (i:=k);have gl2:(gD (gto a m L k)).length<=6:=by simp[gD];omega
 simp only[vy];ext;rw[jo (l:=((au m).map λj=>my a m k j).map D.bl) (by rfl) (by rw[jn];omega) ?_ (.inl rfl)];rotate_left
 .rw[X5,v4,Xg];refine ji λj hj=>qg (by ext) ?_;ext;rw[Xv,j93,j51 (n:=n+4) hm ha hk (Xa.mp hj)];ext;rfl
 ext;rw[X5];refine Y8 (λj ρ=>∃s9,ρ=lR s0 L a m s4 (gD (gto a m L k)) (.val (.int (k:Int))) (.own (((au m).map λj=>my a m k j).map D.bl)) s9) ⟨_,rfl⟩ ?_ ?_
 .rintro j d ρ hj ⟨s9,rfl⟩;obtain⟨hjm,rfl⟩:=Z8 hj;simp only[vy,Xv];have mm:evP 1000 G T (n+6) "may_exchange" [.tup [.tup (L.map D.str),.tup (a.map D.int)],.str (L.getD k ""),.str (L.getD j "")]=.val (.bl (my a m k j)):=Iw (n:=n+1) hm hL hn ha hk hjm;ext;rw[Ms nofun,Ms nofun];ext;rw[mm,j66 hjm];ext;rw[jb8];ext;exact⟨_,rfl,_,rfl⟩
 .rintro ρ' ⟨s9,rfl⟩;have dl:D.depL (((au m).map λj=>my a m k j).map D.bl)<=90/\(D.bl a6).dep<=90:=⟨Xf (D.depL_of (n:=0) λd hd=>by
   obtain⟨x,_,rfl⟩:=Xh.mp hd
   simp[D.dep]) (by decide),by simp[D.dep]⟩
  ext;have ti:Yn (a4 (.v (.w (((au m).map λj=>my a m k j).map D.bl)))) (a4 (.v (.e (.bl a6))))=a4 (.v (.e (.int ((((au m).map λj=>my a m k j).idxOf a6:Nat):Int)))):=by simp only[Yn,Rk.d,if_pos dl,ja4 (jd6 hk)];rfl
  rw[ti];ext;rw[Fq,jck hk,Ui];cases e:rep a m k with
  |false =>ext;exact⟨_,rfl,_,_,_,rfl⟩
  |true =>
   ext;have ec:(cls a m L k).map D.str=((au m).filter λj=>my a m k j).map λj=>D.str (L.getD j ""):=by rw[cls,Xg];rfl
   rw[jo (l:=(cls a m L k).map D.str) (by rfl) (by rw[jn];omega) ?_ (.inl rfl)];rotate_left
   .rw[X5,v4,ec];refine Jp (g:=λj=>D.str (L.getD j "")) (p:=λj=>my a m k j) λj hj=>Qf (b:=my a m k j) ?_ λ_=>?_
    .ext;rw[Xv,j66 (Xa.mp hj)];ext
    .have:=Xa.mp hj;ext;rw[Xv,Ms nofun];ext
   ext;rw[if_pos trivial,Fd];exact⟨_,rfl,_,_,_,rfl⟩
noncomputable def depth:Nat:=8
theorem jga:T "_law_words" = a4 KW.fL_words:=by rfl
theorem jgb:T "_law_question" = a4 KW.fL_question:=by rfl
theorem j1u {L:List af}:(au L.length).map (λk=>L.getD k "")=L:=by
 refine Xz λk=>?_;rw[xx];by_cases h:k<L.length
 .rw[Xu h,kh h];show a4 (L.getD k "")=_;rw[xf,kh h];rfl
 .rw[Xc (by simpa using h),Xc nofun];rfl
theorem jc4 {L:List af} {m:Nat} (hL:L.length=m) (hm:1<=m):atI (L.map D.str) (-1)=a4 (.str (L.getD (m-1) "")):=by
 unfold atI;have e:ixN (L.map D.str).length (-1)=a4 (m-1):=by unfold ixN;rw[xj,hL,if_neg (by decide),if_pos nofun];exact congrArg a4 nofun
 rw[e];show(L.map D.str)[m-1]?=_;rw[xx,xf,kh nofun];rfl
noncomputable def part(c:Int)(m:Nat):List Int:=(au m).map λk=>c/([1,3,9,27,81,243]:List Int).getD k 0%3
theorem j7b{c:Int}{m:Nat}:(part c m).length=m:=by simp[part]
noncomputable abbrev lT:Sx:=(.seq (.prm (Ft 10 11 "groups_of" (.cons (.var 5) .nil) (.not (.call "_law_same" (.cons (.var 10) (.cons (.var 6) .nil)))))) (.seq (.set 12 (.comp [13] (.ix (.var 1) (.var 13)) (.seq (.call "_law_order" (.cons (.call "_law_cell" (.cons (.var 0) (.cons (.lit (.int 4)) .nil))) (.cons (.var 3) .nil)))) .nil)) (.seq (.fgt 7) (.seq (.set 14 (.blt .tuple (.cons (.comp [7] (.bin .mod (.bin .fdiv (.call "_law_cell" (.cons (.var 0) (.cons (.lit (.int 5)) .nil))) (.ix (.lst (.cons (.lit (.int 1)) (.cons (.lit (.int 3)) (.cons (.lit (.int 9)) (.cons (.lit (.int 27)) (.cons (.lit (.int 81)) (.cons (.lit (.int 243)) .nil))))))) (.var 7))) (.lit (.int 3))) (.range (.cons (.var 3) .nil)) .nil) .nil))) (.seq (.set 15 (.blt .tuple (.cons (.comp [16] (.ix (.var 14) (.tix (.var 1) (.var 16))) (.seq (.var 12)) .nil) .nil))) (.seq (.ife (.not (.call "_law_same" (.cons (.call "part_carried" (.cons (.var 14) (.cons (.var 1) (.cons (.blt .list (.cons (.var 12) .nil)) .nil)))) (.cons (.var 15) .nil)))) (.seq (.ret (.lit (.bl a5))) .nop) .nop) (.seq (.set 17 (.call "_law_stranger" (.cons (.var 1) (.cons (.call "_law_cell" (.cons (.var 0) (.cons (.lit (.int 6)) .nil))) .nil)))) (.seq (.ife (.or (.not (.call "_law_strange" (.cons (.var 5) (.cons (.var 17) (.cons (.ix (.var 1) (.lit (.int 0))) .nil))))) (.not (.call "_law_strange" (.cons (.var 5) (.cons (.ix (.var 1) (.neg (.lit (.int 1)))) (.cons (.var 17) .nil)))))) (.seq (.ret (.lit (.bl a5))) .nop) .nop) (.seq (.ife (.not (.call "_law_strange" (.cons (.var 5) (.cons (.var 17) (.cons (.var 17) .nil))))) (.seq (.ret (.lit (.bl a5))) .nop) .nop) (.seq (.set 18 (.call "_law_wrong" (.cons (.var 12) (.cons (.var 17) (.cons (.call "_law_cell" (.cons (.var 0) (.cons (.lit (.int 7)) .nil))) .nil))))) (.seq (.ret (.and (.call "_law_not_carried" (.cons (.var 14) (.cons (.var 1) (.cons (.var 18) .nil)))) (.call "_law_same" (.cons (.call "groups_of" (.cons (.var 5) .nil)) (.cons (.var 6) .nil))))) .nop)))))))))))
theorem j8w{m:Nat}{L:List af}{a:List Int}{s0 s4 s7 s8 s9:Sv}(hm:1<=m/\m<=6)(hL:L.length=m)(hn:L.Nodup)(ha:a.length=2^m) :
  Ft 10 11 "groups_of" (.cons (.var 5) .nil) (.not (.call "_law_same" (.cons (.var 10) (.cons (.var 6) .nil)))) 1000 (evP 1000 G T 8) G (lR s0 L a m s4 (gD (gto a m L m)) s7 s8 s9)=.next (lR s0 L a m s4 (gD (gto a m L m)) s7 s8 s9):=by
 have gl:=Vh (a:=a) (m:=m) (L:=L) (i:=m);have h3:=jcl (n:=2) hm hL hn ha;have sg:=j46 (n:=5) (gs:=gto a m L m) nofun λg hg=>Xf (Em g hg) nofun
 unfold Ft;rw[if_pos]
 .rfl
 .refine⟨[.e (qD L a)],[qD L a],gD (gto a m L m),?_,rfl,h3,by simp,by simp,by decide,?_⟩
  .unfold qD;ext
  .show truth (ev (evP 1000 G T 8) G _ [s0,.val (.tup (L.map D.str)),.val (.tup (a.map D.int)),.val (.int (m:Int)),s4,.val (.tup [.tup (L.map D.str),.tup (a.map D.int)]),.own (gD (gto a m L m)),s7,s8,s9,.own (gD (gto a m L m)),.un,.un,.un,.un,.un,.un,.un,.un])=_;ext;rw[sg];ext
theorem j3x{m:Nat}{L:List af}{a ns:List Int}{s4 s7 s8 s9:Sv}(hns:ns.length<=63)(hm:1<=m/\m<=6)(hL:L.length=m)(hn:L.Nodup)(ha:a.length=2^m)(hc:∀p∈L,∃l,p=sL l/\1<=l.length/\l.length<=8/\asc l) :
  fin (run 1000 (evP 1000 G T 8) G lT (lR (.val (.lst (ns.map D.int))) L a m s4 (gD (gto a m L m)) s7 s8 s9))=.val (.bl a6):=by
 have gl:=Vh (a:=a) (m:=m) (L:=L) (i:=m);have sg:=j46 (n:=5) (gs:=gto a m L m) nofun λg hg=>Xf (Em g hg) nofun
 have gq:evP 1000 G T 8 "groups_of" [.tup [.tup (L.map D.str),.tup (a.map D.int)]]=_:=j0l (n:=2) hm hL hn ha;have ce:∀k:Nat,k<64->evP 1000 G T 8 "_law_cell" [.lst (ns.map D.int),.int (k:Int)]=.val (.int (ju ns k)):=λk hk=>V1 (n:=7) (k:=k) j30 nofun
 have c4:evP 1000 G T 8 "_law_cell" [.lst (ns.map D.int),.int 4]=.val (.int (ju ns 4)):=ce 4 (by decide);have c5:evP 1000 G T 8 "_law_cell" [.lst (ns.map D.int),.int 5]=.val (.int (ju ns 5)):=ce 5 (by decide);have c6:evP 1000 G T 8 "_law_cell" [.lst (ns.map D.int),.int 6]=.val (.int (ju ns 6)):=ce 6 (by decide);have c7:evP 1000 G T 8 "_law_cell" [.lst (ns.map D.int),.int 7]=.val (.int (ju ns 7)):=ce 7 (by decide);obtain⟨os,hos,eo⟩:=j7c (n:=7) (c:=ju ns 4) hm;obtain⟨P,eP⟩:∃P:List af,P=os.map λk=>L.getD k "":=⟨_,rfl⟩
 have hp:L.Perm P:=by have:=hos.map λk=>L.getD k "";rw[<-eP,<-hL,j1u]at this;exact this.symm
 have ol:os.length=m:=by rw[hos.length_eq,Xw]
 have om:∀k∈os,k<m:=λk hk=>Xa.mp (hos.mem_iff.mp hk);have hP:P.length=m:=by rw[<-hp.length_eq,hL]
 obtain⟨p,ep⟩:∃p,p=part (ju ns 5) m:=⟨_,rfl⟩
 have pl:p.length=m:=by rw[ep,j7b]
 have w1:=j07 (n:=6) hm hL hp pl;have s1:=j6z (n:=6) (r:=P.map λw=>p.getD (L.idxOf w) 0) (by rw[xj];omega);obtain⟨y,yn,yr,ey⟩:=Le (n:=7) (c:=ju ns 6) hL hm hc;have t1:evP 1000 G T 8 "_law_strange" [.tup [.tup (L.map D.str),.tup (a.map D.int)],.str y,.str (L.getD 0 "")]=_:=Vk (n:=5) (Iz (n:=5) (a:=a) yn yr);have t2:evP 1000 G T 8 "_law_strange" [.tup [.tup (L.map D.str),.tup (a.map D.int)],.str (L.getD (m-1) ""),.str y]=_:=Vk (n:=5) (j7j (n:=5) (a:=a) (Mr nofun) yn yr);have t3:evP 1000 G T 8 "_law_strange" [.tup [.tup (L.map D.str),.tup (a.map D.int)],.str y,.str y]=_:=Vk (n:=5) (Iz (n:=5) (a:=a) yn yr);obtain⟨B,hB,nB,eB⟩:=j6e (n:=7) (P:=P) (c:=ju ns 7) (st:=y) hm hP (hp.nodup_iff.mp hn) λz=>yn (hp.mem_iff.mpr z);have t4:=j4p (n:=5) (j0q (n:=5) (L:=L) (P:=B) (p:=p) nofun hB λz=>nB (z.trans hp));have a0:atI (L.map D.str) 0=a4 (.str (L.getD 0 "")):=Ms (k:=0) nofun
 have a9:=jc4 hL hm.1;unfold vd at *;rw[Za,Ni,j8w hm hL hn ha,V0];ext;erw[c4,eo];rw[jo (l:=P.map D.str) (by rfl) (by rw[xj];omega) ?_ (.inl rfl)];rotate_left
 .rw[eP,Xg];refine ji λk hk=>qg (by ext) ?_;have:=om k hk;unfold oD;ext;rw[Ms nofun];ext;rfl
 ext;rw[jo (l:=p.map D.int) (by rfl) (by rw[jn];omega) ?_ (.inr (vo _))];rotate_left
 .rw[X5,v4,ep,part,Xg];refine ji λk hk=>qg (by ext) ?_;have hk:=Xa.mp hk;obtain⟨g,hg,g1⟩:∃g:Int,([1,3,9,27,81,243]:List Int).getD k 0=g/\1<=g/\g<=243:=⟨_,rfl,by
   have:k=0\/k=1\/k=2\/k=3\/k=4\/k=5:=by omega
   rcases this with z|z|z|z|z|z<;>subst z<;>decide⟩
  have ga:atI [D.int 1,.int 3,.int 9,.int 27,.int 81,.int 243] (k:Int)=a4 (.int g):=by rw[<-hg];exact Qw (p:=[1,3,9,27,81,243]) (by show k<6;omega)
  ext;rw[c5];ext;rw[Xv,ga];ext;rw[<-hg];rfl
 ext;rw[jo (l:=(P.map λw=>p.getD (L.idxOf w) 0).map D.int) (by rfl) (by rw[xj];omega) ?_ (.inr (vo _))];rotate_left
 .rw[Xg];refine ji λw hw=>qg (by ext) ?_;have hwl:=hp.mem_iff.mpr hw;have:=cM hwl;ext;erw[N8 (.inl rfl) hwl,Qw nofun];rfl
 ext;rw[Zn (xs:=[.e (.tup (p.map D.int)),.e (.tup (L.map D.str)),.o (P.map D.str)]) rfl,w1];ext;erw[s1,c6,ey,a0,t1,a9,t2,t3,c7];rw[j0a,eB];ext;rw[jii (Ue B)];ext;rw[U4 (xs:=[.e (.tup (p.map D.int)),.e (.tup (L.map D.str)),.w (B.map D.str)]) rfl];simp only[X3,bP,Rk.d];erw[t4,gq,sg]
theorem j6f{c:Int}{m:Nat}(hm:m<=6):(∀k,k<m->(wrd c m k).length=stN c m+k+1)\/∀k,k<m->(wrd c m k).length=szN c+1:=by
 have a:=K6 c;have l8:=J4 c;have ls:=z8 c (szN c);have st:=j2c (c:=c) hm;by_cases h:c%4<2
 .refine .inl λk hk=>?_;unfold wrd;rw[if_pos h];split
  .rw[Xm];omega
  .rw[Pa];omega
 .refine .inr λk hk=>?_;unfold wrd;rw[if_neg h,Xe,X4,Xm,Pa];omega
theorem jao{c:Int}{m:Nat}(hm:m<=6):∀p∈v6 c m,∃l,p=sL l/\1<=l.length/\l.length<=8/\asc l:=λp hp=>by obtain⟨k,hk,rfl⟩:=Xh.mp hp;refine⟨wrd c m k,rfl,?_,j6g,λx hx=>j1j (jam x hx)⟩;rcases j6f (c:=c) hm with z|z<;>(rw[z k (Xa.mp hk)];omega)
theorem lawTrue:∀ns:List Int,ns.length<=63->evP 1000 G T (depth+1) "law" [.lst (ns.map D.int)]=.val (.bl a6):=by
 intro ns hns;have qe:=Lh (fu:=1000) (n:=6) (G:=G) j30 jga jle jgb (ns:=ns) (a:=0) (most:=6) (by decide) (by decide);have hm:=j1h (ns:=ns) (a:=0) (most:=6) (by decide);obtain⟨m,em⟩:∃m:Nat,m=V8 ns 0 6:=⟨_,rfl⟩
 have al:(Yr 1000 G T 6 ns 0 6).length=2^m:=by simp[Yr,<-em]
 rw[<-em]at hm;rw[<-em]at qe;have qe:evP 1000 G T 8 "_law_question" [.lst (ns.map D.int),.int 0,.int 6]=_:=qe;have wl:=W0 (ju ns (0+1)) m;have wn:=K9 (c:=ju ns (0+1)) hm.2;have wo:=jao (c:=ju ns (0+1)) hm.2;generalize v6 (ju ns (0+1)) m=L at *;generalize Yr 1000 G T 6 ns 0 6=a at *;have c3:evP 1000 G T 8 "_law_cell" [.lst (ns.map D.int),.int 3]=.val (.int (ju ns 3)):=V1 (n:=7) (k:=3) j30 (by decide);obtain⟨a',la,ea⟩:=j9h (n:=6) (mask:=ju ns 3/3%64) hm al;have key:∀{b:List Int}{s4:Sv},b.length=2^m->fin (Qg (zr (Ut [7] (run 1000 (evP 1000 G T 8) G lB)) (upto 0 m) (lR (.val (.lst (ns.map D.int))) L b m s4 [] .un .un .un)) (run 1000 (evP 1000 G T 8) G lT))=.val (.bl a6):=λ{b s4} hb=>by
  refine Vm (λk ρ=>∃s7 s8 s9,ρ=lR (.val (.lst (ns.map D.int))) L b m s4 (gD (gto b m L k)) s7 s8 s9) ⟨_,_,_,rfl⟩ ?_ ?_
  .rintro k d ρ hk ⟨s7,s8,s9,rfl⟩;obtain⟨hkm,rfl⟩:=Z8 hk;rw[Xv];exact jc3 (n:=2) hm wl wn hb hkm
  .rintro ρ' ⟨s7,s8,s9,rfl⟩;rw[jn];exact j3x hns hm wl wn hb wo
 rw[jr (F:=j32) (by rfl) rfl];simp only[j32,j3d,enter,depth];unfold qD at *;ext;rw[qe];ext;rw[wl,c3];ext;by_cases h3:ju ns 3%3=0
 .ext;rw[ea];ext;rw[X5];exact key la
 .ext;rw[X5];exact key al
end K50
end
open PySem PySem.W PyProof.Rows
local macro_rules | `(tactic| walk_at "lf") => `(tactic| (refine' L2.lf_mk ?a ?l ?c ?k; (case a => k_is); (case l => k_is); (case c => k_is); (case k => k_is)))
set_option Elab.async false
namespace PySem.W.Fast
def tw411171518573463414:=0
def tw10181740122074077629:=0
def tw144988620734229256:=0
def tw4480159548967656873:=0
def tw18377459261171441056:=0
def tw3726293680951782956:=0
def tw1227353281794011428:=0
def tw489654218434660307:=0
def tw13830006937823615948:=0
def tw14457890155842044173:=0
def tw13990211865831948238:=0
def tw10593335285107134601:=0
def tw13778741119055989093:=0
def tw97905083982182953:=0
def tw9933398377198609931:=0
def tw17213017167298816289:=0
def tw16804473486097681544:=0
def tw6598735074113166264:=0
def tw13623022255264663398:=0
def tw567261524618947917:=0
def tw130663668547299990:=0
def tw10172708494149604923:=0
def tw14884914033059138566:=0
def tw15589876551998732219:=0
def tw7371061381885715444:=0
def tw8842954475834558175:=0
def tw12031095882149884470:=0
def tw14712189453727938022:=0
def tw12382718731313395909:=0
def tw13470490244777628319:=0
def tw11041387041817175626:=0
def tw15796396751727351614:=0
def tw8342794435238065234:=0
def tw6719767599364418063:=0
def tw131800007247427093:=0
def tw2706561678118784981:=0
def tw4993226919085966774:=0
def tw15699996234532949424:=0
def tw15166645085846223332:=0
def tw7937805301395332764:=0
def tw12159233713933925675:=0
def tw13951527792384415788:=0
def tw7880564347364703092:=0
def tw4657255304021762325:=0
def tw3818136660823873362:=0
def tw3924600642091674100:=0
def tw16834328969927567768:=0
def tw10332942175911496810:=0
def tw6457301766060210081:=0
def tw15072905455284683101:=0
def tw1868562707447741386:=0
def tw13948391714386333563:=0
def tw15719042762721450685:=0
def tw13762448423229092450:=0
def tw16449493895780888008:=0
def tw16118941219417058667:=0
def tw13986221998748287227:=0
def tw17110094953316101147:=0
def tw17570471433871741175:=0
def tw6210008390180427698:=0
def tw2576947059334668093:=0
def tw4404610511463790960:=0
def tw11792421618067142146:=0
def tw17536234496528501427:=0
def tw4583464847388095047:=0
def tw1500817275272787326:=0
def tw7301040342830053868:=0
def tw2055636034030642745:=0
def tw1624797685662094803:=0
def tw7128479350399845237:=0
def tw1480644359163230867:=0
def tw411862878714484149:=0
def tw14458568063337632694:=0
def tw13885954904417319285:=0
def tw8577910972360642107:=0
def tw464729480903545097:=0
def tw14290961474908954897:=0
def tw15434794693870910703:=0
def tw4633028794757010848:=0
def tw102225611850866503:=0
def tw10052088144576491275:=0
def tw10693480152309513151:=0
def tw11921412123297110776:=0
def tw12815567869587810552:=0
def tw6250005290921689610:=0
def tw15995846966084092619:=0
def tw13393468930688030588:=0
def tw14861546872392479078:=0
def tw1870208128986180133:=0
def tw8267759045453938340:=0
def tw12238789417058329000:=0
def tw1616888788208145197:=0
def tw12769853901240917470:=0
def tw16717467240635654120:=0
def tw3906879398020790947:=0
def tw12865272720686292246:=0
def tw15309601179546944053:=0
def tw12414602715940710271:=0
def tw3517417880050124897:=0
def tw13594496801617646093:=0
def tw4423996054709856455:=0
def tw8115882148207082623:=0
def tw7412475247691987181:=0
def tw3114647964387519784:=0
def tw13042631709567571000:=0
def tw2725349027429413906:=0
def tw10603565381393434818:=0
def tw7717966446129160763:=0
def tw442240501258009412:=0
def tw5269146453159103007:=0
def tw14113549222514352098:=0
def tw398785621641572125:=0
def tw10315954947030371451:=0
def tw14917450169088021807:=0
def tw3354242986484018830:=0
def tw3280048432137262953:=0
def tw14339216977819345958:=0
def tw1600352297393548067:=0
def tw9978307450668305125:=0
def tw16464050363334295524:=0
def tw6043871954614186303:=0
def tw16864863312940199500:=0
def tw10897290050220359777:=0
def tw12543474827567279591:=0
def tw8316566055895630523:=0
def tw16818366848296914676:=0
def tw5905446804477347502:=0
def tw286000643770645763:=0
def tw5215044648143362978:=0
def tw10142503506255838839:=0
def tw7361404820107385133:=0
def tw11724664528524248063:=0
def tw12564633053119539707:=0
def tw5713145384904732343:=0
def tw8787066865525939479:=0
def tw2061866012101107534:=0
def tw4669190557836020999:=0
def tw5384748002868739881:=0
def tw856936171372507806:=0
def tw18354000579306530559:=0
def tw10914771894260506556:=0
def tw17037807218448246379:=0
def tw13937798519129080859:=0
def tw7859322019873704533:=0
def tw7084278284398322628:=0
def tw3564170214356934573:=0
def tw1559452632945743834:=0
def tw1921915128250147580:=0
def tw8530709631301977903:=0
def tw10658768450525888404:=0
def tw6198933160136971259:=0
def tw15773161372502964319:=0
def tw2747908625881456076:=0
def tw8101692324909726899:=0
def tw633355052171882643:=0
def tw8108581531748306015:=0
def tw12161127736836919303:=0
def tw13300129969164662827:=0
def tw646330607010770522:=0
def tw2600114445467359484:=0
def tw14176652752585503163:=0
def tw2782506272084810312:=0
def tw18027612892300667609:=0
def tw3469996500115550048:=0
def tw1589202848050780303:=0
def tw11209801124900631382:=0
def tw5468281288002553373:=0
def tw12108643207871874582:=0
def tw4983296727011487020:=0
def tw6803285996306434707:=0
def tw5966046537881784098:=0
def tw17641379605804938889:=0
def tw8662461770835081141:=0
def tw2213188935117611880:=0
def tw16120798515063336474:=0
def tw16913555970032260666:=0
def tw16878819638620519207:=0
def tw9492523595626852932:=0
def tw674728747379947200:=0
def tw13317544204506318879:=0
def tw5464140712317650882:=0
def tw7795680332987675634:=0
def tw1600494891218228525:=0
def tw3721851153694069896:=0
def tw1523629353797605995:=0
def tw5212498348797240566:=0
def tw14134135499639455921:=0
def tw7737006752905967271:=0
def tw17814842260921383230:=0
def tw1254212014976469420:=0
def tw13593835947754532165:=0
def tw8661984488876492781:=0
def tw8702111035376849667:=0
def tw1309846039685160285:=0
def tw14345389099115167007:=0
def tw15611802393803541672:=0
def tw13633310976774202722:=0
def tw17586234986062383247:=0
def tw17987367457568473325:=0
def tw2068963175986215250:=0
def tw16769348534260244315:=0
def tw11275307542379477541:=0
def tw6112737992278203318:=0
def tw2394739752344063580:=0
def tw9256519814668939140:=0
def tw5656886065328575213:=0
def tw17336187852650282127:=0
def tw7903618842696165590:=0
def tw14032159385813100568:=0
def tw9658573314172620080:=0
def tw16279563438941972329:=0
def tw6660821428795264494:=0
def tw14343075452456373978:=0
def tw17600537215224607366:=0
def tw7515151727423162140:=0
def tw11621333381992734945:=0
def tw440335172875427574:=0
def tw18434141227663948032:=0
def tw304451886252129844:=0
def tw6973442866668607352:=0
def tw10159940356428939663:=0
def tw7537522793314883952:=0
def tw5554270879044222608:=0
def tw7778359177251322491:=0
def tw9239458946026739823:=0
def tw9725328248214654241:=0
def tw8942966506924070970:=0
def tw17636819811173386412:=0
def tw12250970721194608699:=0
def tw8268100014157392313:=0
def tw8678316848243960443:=0
def tw571944283824963743:=0
def tw18206053633050098040:=0
def tw9838150413350886238:=0
def tw17800546848317258913:=0
def tw3029596897466372274:=0
def tw16315221433655440641:=0
def tw6841659934487123728:=0
def tw10918776855428701998:=0
def tw4639129441821017044:=0
def tw18248267604789341856:=0
def tw938899168830767021:=0
def tw3506046186079842883:=0
def tw2309776176603708048:=0
def tw5460909609196452664:=0
def tw17369126707242295877:=0
def tw366685321732375296:=0
def tw556528329153169579:=0
def tw10153747049464968461:=0
end PySem.W.Fast
set_option maxRecDepth 100000 in
set_option maxHeartbeats 0 in
theorem PySem.Challenge.cw_leastasks_k50_groups_holds : PySem.Challenge.rw_leastasks_k50_groups.Holds := by
  w_on; o_law; k_head; (case hw => w_witness2)
  k_fill
  refine L2.walkL (l := PySem.Challenge.rw_leastasks_k50_groups) (k := L2.lv (K50.depth + 1)) (x := "_law_script") (by decide) rfl rfl (ts := []) (fun w h Y => ⟨PySem.W.kIn_of Y, fun _ h => nomatch h⟩) ?tz ?F
  case tz => intro w; kernel_rfl
  case F =>
    intro w mg fa h KX Gn hmg tz
    refine' K50.head KX Gn hmg ?h0 ?h1 ?h2 ?h3 ?h4 ?h5 ?h6 ?h7 ?h8 ?h9 ?h10 ?h11 ?h12 ?h13 ?h14 ?h15 ?h16 ?h17 ?h18 ?h19 ?h20 ?h21 ?h22 ?h23 ?h24 ?h25 ?h26 ?h27 ?bz tz ?gn0 ?gn1 ?ga2l ?gn2 ?exa ?xz K50.lawTrue
    (case h0 => walk_at "lf")
    (case h1 => walk_at "lf")
    (case h2 => walk_at "lf")
    (case h3 => walk_at "lf")
    (case h4 => walk_at "lf")
    (case h5 => walk_at "lf")
    (case h6 => walk_at "lf")
    (case h7 => walk_at "lf")
    (case h8 => walk_at "lf")
    (case h9 => walk_at "lf")
    (case h10 => walk_at "lf")
    (case h11 => walk_at "lf")
    (case h12 => walk_at "lf")
    (case h13 => walk_at "lf")
    (case h14 => walk_at "lf")
    (case h15 => walk_at "lf")
    (case h16 => walk_at "lf")
    (case h17 => walk_at "lf")
    (case h18 => walk_at "lf")
    (case h19 => walk_at "lf")
    (case h20 => walk_at "lf")
    (case h21 => walk_at "lf")
    (case h22 => walk_at "lf")
    (case h23 => walk_at "lf")
    (case h24 => walk_at "lf")
    (case h25 => walk_at "lf")
    (case h26 => walk_at "lf")
    (case h27 => walk_at "lf")
    (case gn0 => k_is)
    (case gn1 => k_is)
    (case gn2 => k_is)
    (case ga2l => k_is)
    (case bz => kernel_rfl)
    (case exa => kernel_rfl)
    (case xz => kernel_rfl)
#print axioms PySem.Challenge.cw_leastasks_k50_groups_holds