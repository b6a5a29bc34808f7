import PyProof.Rows.All
import Wide.All
import OpenK.AllK
import Wide.FinOn
import Lean
import PyProof.EqAt
import PyProof.EqKinds
import PyProof.TupleCall
import PyProof.Rows.SetFrom
import KE.KDictList
import KE.KMinKey
import PyProof.ListRange
import KE.KRevIter
import PyProof.TupleOfGen
import PyProof.StrBlockL
import PySem.Challenge.RW_leastasks_k31_whole_plans_cost_least
set_option Elab.async false
set_option linter.all false
set_option maxRecDepth 100000
set_option maxHeartbeats 4000000
set_option genSizeOf false
set_option genInjectivity false
open Option renaming some→a3,none→a9,getD_some→dE,isSome_some→eQ,join_some→iT,getD_none→iU,map_some→jC,bind→kC
open Bool renaming false→a4,true→a6,or_eq_true→cj,true_and→dF,eq_iff_iff→dZ,false_and→gn,and_false→gr,or_false→gO,and_true→gP,not_eq_true'→jI,false_or→kE
open List renaming replicate→a5,range→aq,mem_append_left→bS,getElem?_append_right→bT,drop_zero→bU,map_nil→bY,filterMap_cons→cc,filter_append→ck,getElem?_cons_zero→cu,eraseIdx_cons_zero→cw,range_succ_eq_map→cH,length_singleton→cM,take_length→cN,length→cP,getElem?_set_ne→cQ,range_succ→cT,getD_cons_zero→cV,nodup_nil→d8,length_zipIdx→d9,foldl→de,getElem?_set→dz,drop_length→dO,cons_append→dP,of_mem_zip→dY,take_append_drop→eB,toList_toArray→eR,mem_map_of_mem→eS,getD_cons_succ→eT,any_cons→eX,set_eq_take_append_cons_drop→fi,eraseIdxIfInBounds_toArray→fC,not_mem_nil→fF,nodup_range→fG,eq_nil_of_length_eq_zero→fQ,mem_or_eq_of_mem_set→gD,set_set→i3,drop_of_length_le→i4,all_map→i5,countP_le_length→ip,getLast?_append→iC,getElem?_zipIdx→iD,getElem?_mapIdx→iE,dropLast_concat→iF,zip_cons_cons→iV,map_replicate→iW,getElem_range→iX,countP_append→iY,reverse_cons→jE,pairwise_map→jF,getLast?_map→jG,filter_congr→jH,getElem_inj→jO,any_toArray→jP,sum_append→jZ,set_append→k5,mem_zipIdx→k6,find?_cons→k7,filter_map→k8,countP_map→k9,all_append→ka,map_set→kP,all_nil→kQ
open PySem renaming wpAny_bind→a7,starEach→a8,Value→aa,Addr→ae,Shared→af,Str→ah,wpAny_pure→ai,Expr→aj,sizeLine→ak,wpAny→ar,mainGlobals→au,Program→av,model→ax,eval→ay,World→az,foldedSetIterable→aA,Around→aB,Heap→aC,keywordEach→aD,wpAny_Call_Name_kw→aG,behindInMarks→aH,attributeBase→aI,wpAny_newObj_type→aJ,swapsWith→aK,backTo→aL,Pos→aM,FuncData→aN,compareOp→aO,cellsFrom→aP,Keyword→aS,backToKw→aT,cLine→aV,Stmt→aX,argBest→aZ,bootBuiltins→b7,binaryOp→b8,Scope→b9,wpAny_truthy_bool→bc,codeAny_builtin→bg,codeAny_mono→bh,assignEach→bj,NameKind→bq,wpAny_pyIter_list→bu,wpAny_holding→bx,call_meets→bA,wpAny_call_entry→bE,wpAny_callSpecial?_slot→bF,wpAny_typeNameOfWhole_valiter→bJ,wpAny_mono→bL,wpAny_passesOwn→bP,swapsWithSole→bQ,swappedStores→bR,wpAny_typeNameOf_valiter→cC,plainId_quiet→cD,holding→cF,codeAny→cG,wpAny_field→cL,assign→cU,sliceBounds→d4,strKind→du,Obj→dw,BindsTo→dy,PassesOwn→dB,Arguments→dC,wpAny_seqItems→dJ,closureFor→dM,builtinsNs→dN,Env→dR,wpAny_standAt→dU,rawInt→dW,pyNext→dX,draw→eC,boot_len→eD,wpAny_pyNext_list_item→eK,wpAny_call→eL,sysModules→eM,Builtin→eN,wpAny_execs_nil→eO,letOwnedTupleGo→eP,wpAny_isOneOf_valiter→eW,wpAny_tryCatch→eY,wpAny_setField→eZ,recursionLimit→f6,intItems→f7,firstArgMember→f9,bindArgs→fb,JoinOk→fc,IsPart→fe,GenState→ff,tupleKind→fj,intKind→fm,codeAmong→fq,sizeLine_eq→fE,wpAny_pyIter_tuple→fK,typeIs_int→fL,isTrue→fM,defaultsOf→fN,Result→fO,wpAny_dictEntries→fX,standAt→fY,concat_meets→fZ,callerA→g6,CmpOp→g9,seqItems?→gv,scanBound→gx,noFill_tuple_add→gB,DictEntry→gC,wpAny_of_eq→gJ,wpAny_letGo→gK,numAt→gL,wpAny_updateSeq→gR,wpAny_dictEpoch→gW,spliced→hJ,Tok→hV,typeIs_str→ib,pyIter→ic,newFunctionEnv→ie,wpAny_binaryOp_repeat_ref→iA,evalArgs_none→iB,wpAny_comprehension_free→iI,seq_tuple_add→iJ,call→iK,assignInOrder→iL,wpAny_Call_method0_late→iO,pushCells→iP,bindL→iQ,bindC→iR,again→iS,seqSlot_of→ja,seqIndex_neg→js,getItem→jv,ItemsOf→jA,wpAny_pyNext_list_end→jM,wpAny_isTrue_Compare1→jN,seqIndex_of→jR,richCompare→jS,lookup_relabel_local→jT,intItems_at→jU,bindName→jV,atKey→jW,Operator→jX,wpAny_Name→kv,tupleKind_room_in1→kx,rule→ky,entryOfKey→kz,wpAny_pyIter_enum→kJ,wpAny_assign_Name→kK,wpAny_Return_some→kL,call_sum_walkAnyS→kM,Model→kN,wpAny_execs_cons→lq,seqIndex?→lr,lastMarks→lz,wpAny_loadPart'→lW,pushCells_keeps→lX,codeAny_of_tree→lY,wpAny_runValue→mi,wpAny_fieldsOf→mj,wpAny_bindName→mq,wpAny_Compare1→mr,newExc→mw,fitsIndex_both→mx,Params→my,Meets→mz,wpAny_handled→mF,wpAny_attempt→mG,rangeSize_one→mH,intBits_le_64→mI,evalPart_none→mJ,call_list_seq→mK,Sem→mL
open Option.some renaming inj→aw
open PySem.Builtin.Str renaming strSliceIndices→aE,tooLong→cK,occurrences→fD,glued→mh
open PySem.Value renaming ref→aF,none→aQ,int→bf,bool→bC,str→bG,type→bO,notImplemented→i6,isInt→kH
open False renaming elim→aR
open Or renaming inl→aU,inr→br
open PySem.Builtin.SmallTypes renaming nextOf→aW
open PySem.Builtin.Tuple renaming tupleExact→aY,tupleTooMany→eU,tupleItemsOf→l7,tupleCompareSizes→l9
open PySem.NameKind renaming free→ba,cell→bD
open PyProof.Rows renaming envOfC→bB,IntsAre→cX,AllBare→dS,seqObj→fg,assignInOrder_cons→fP,IsTup→ig,subscriptTail_builtinR→jB,slot_tuple_getitem→kA,boot_range→kB,assignInOrder_nil→kO,get?_update_seq→lZ,boot_isinstance→m8,tail_any→mB,slicePart_none→mC,boot_min→mD,subscriptTail→mM,Constant_none→mN
open PySem.Builtin.Slice renaming slicePlaces→bH,sliceAdjust→cO,sliceApplied→eV,slicePartIndex→lh,sliceFields→lj
open PyProof.Rows.F renaming plain_set_update_loop→bI,entry_set_update_loop→dD
open PySem.W renaming nsIn→bK,OpenLaw→dA,KdlSrc→fH,WalkO→iH,CodeHd→iZ,Frag→md
open PySem.Txt renaming slice→bM,join→eJ,mul→j2
open PySem.Builtin.List renaming listTooLong→bN,listExtendWith→lV
open PySem.Obj renaming mapSeq→bV,data_mapFields→dh,mapFields→gQ,isFreed_of_fields→iw,cls_mapFields→jJ
open PySem.PassesOwn renaming never→bW,leaving→gY
open PySem.AutoSeq1 renaming wpAny_loadPart'→bX
open ForInStep renaming yield→bZ
open Array renaming getElem?_eq_getElem→c7,length_toList→c9,append_inj_right→gX,toList→kF
open PySem.F renaming slot_tuple_iterator_next→c8,slot_list_pop→d7,args_tuple_add_2→di,entry_tuple_add→dq,slot_tuple_add→dG,entry_min_loop→dH,slot_list_append→dQ,slot_int_rmul→eG,args_dict_valueiterator_next_1→fJ,entry_dict_valueiterator_next→fR,type_list_append→fV,args_tuple_iterator_next_1→gu,type_list_pop→gG,entry_tuple_iterator_next→gH,slot_tuple_count→i7,slot_list_extend→i8,slot_dict_values→i9,slot_list_count→iy,slot_dict_values_iter→iz,slot_str_join→iN,args_object_init_2→j3,args_tuple_mul_2→jQ,plain_tuple_new→kc,plain_list_iadd→ke,entry_tuple_mul→kg,args_int_rmul_2→ki,slot_tuple_mul→kq,entry_list_pop→kr,entry_int_rmul→ku,fills_int_mul→kI
open Ne renaming symm→cb
open PySem.Builtin.Dict_items renaming ownsTuple→cg,newIterator→jK,dictOf→jL
open Nat renaming lt_of_le_of_lt→cq,zero_le→cy,le_of_lt→cJ,pow_le_pow_right→cR,gcd→d5,pos_of_ne_zero→dk,gcd_zero_right→fh,sub_self→fA,mul_comm→fB,sub_zero→ij,lt_or_ge→il,one_le_two_pow→jD,mod_eq_of_lt→jY,min_eq_left→kn,succ_mul→lA,min_self→lB,gcd_comm→lC,add_zero→lD,mod_lt→mE
open Int renaming pow_pos→cA,one_mul→cS,natCast_mul→cW,mul_comm→d6,add_mul_ediv_left→eE,mul_add→fT,fdiv_eq_ediv_of_nonneg→gE,pow_succ→iq,ne_of_gt→ir,add_comm→iu,mul_ediv_add_emod→iG,add_mul→iM,natCast_add→ko,mul_nonneg→kD,mul_assoc→kR,le_of_lt→lG,neg_mul→m9,mul_one→ma
open PySem.Calls renaming callWith_builtin→cB,spliced_cons→d0,spliced_nil→dn,Name_function_global→fW,evalArgs_plain→ia
open PySem.Heap renaming SameBut→cE,get?_update_self→eA,ExtBut→eF,get?_update_other→gZ
open PySem.Str renaming ofString→cY,cps→kS,length→mf
open PySem.SeqAt renaming EqAt→cZ,RcAt→fU
open Function renaming comp→df
open Classical renaming propDecidable→dm
open Sum renaming inr→fv,inl→fw
open List.Pairwise renaming nil→gc,imp_of_mem→lE,filter→lF
open PySem.EqMixed renaming ne_str_int→kT,ne_str_bool→kU,ne_int_str→kW,ne_bool_str→kX,eq_str_int→kY,eq_str_bool→kZ,eq_int_str→l5,eq_bool_str→l6
open PySem.EqNone renaming ne_str_none→lH,ne_none_str→lI,ne_none_none→lJ,ne_none_int→lK,ne_none_bool→lL,ne_int_none→lM,ne_bool_none→lN,eq_str_none→lO,eq_none_str→lP,eq_none_none→lQ,eq_none_int→lR,eq_none_bool→lS,eq_int_none→lT,eq_bool_none→lU
def kh:=@List.getElem?_eq_getElem
def kj:=@List.getD_eq_getElem?_getD
def km:=@List.length_map
def xf:=@List.mem_cons_of_mem
def xg:=@Bool.false_ne_true
def xj:=@PySem.Heap.get?_push_of_some
def xm:=@List.map_cons
def xn:=@List.mem_cons
def xq:=@List.mem_cons_self
def xr:=@List.mem_singleton
def xu:=@Nat.le_refl
def xx:=@List.getElem?_map
def X3:=@PySem.Heap.lt_size
def X4:=@List.size_toArray
def X5:=@PySem.Heap.get?_push_size
def X6:=@Int.toNat_natCast
def X7:=@List.length_cons
def X8:=@List.getElem?_eq_some_iff
def Xa:=@List.length_append
def Xb:=@List.mem_range
def Xc:=@Nat.ne_of_lt
def Xd:=@Bool.and_eq_true
def Xe:=@List.map_append
def Xf:=@List.mem_of_getElem?
def Xg:=@List.length_replicate
def Xh:=@List.length_range
def Xi:=@List.nodup_cons
def Xj:=@List.map_map
def Xk:=@List.mem_filter
def Xl:=@Nat.le_trans
def Xm:=@List.mem_map
def Xn:=@Nat.lt_of_lt_of_le
def Xo:=@List.mem_append_right
def Xp:=@List.lookup_cons
def Xq:=@List.length_take
def Xr:=@List.sum_cons
def Xu:=@List.getElem?_eq_none
def Xv:=@List.replicate_succ
def Xw:=@Option.map_eq_some_iff
def Xx:=@List.append_nil
def Xy:=@List.all_eq_true
def Xz:=@Option.isSome_iff_exists
def ph:=@Bool.false_eq_true
def pq:=@List.getElem_mem
def Pa:=@List.filter_cons_of_neg
def Pb:=@List.set_cons_succ
def Pg:=@Nat.lt_irrefl
def Ph:=@Nat.lt_trans
def Pj:=@Nat.zero_add
def Pk:=@List.filter_cons_of_pos
def Pn:=@List.mem_append
def Pq:=@List.set_cons_zero
def Pr:=@Nat.le_succ
def Pu:=@List.countP_cons
def Px:=@List.getElem?_append_left
def Py:=@List.drop_eq_getElem_cons
def Pz:=@PySem.mem_of_lookup
def t6:=@List.getElem?_range
def t7:=@List.length_filter_le
def t8:=@Int.le_refl
def tu:=@List.getElem?_cons_succ
def T3:=@PySem.Around.under_plainId
def T4:=@Nat.pow_succ
def T5:=@List.getElem?_set_self
def T6:=@List.take_of_length_le
def T7:=@PySem.F.plain_min_loop
def T8:=@List.length_set
def T9:=@PySem.F.slot_dict_valueiterator_next
def Tc:=@Nat.ne_of_gt
def Td:=@PySem.F.plainAttrs_list
def Te:=@List.flatten_cons
def Tf:=@List.append_assoc
def Tg:=@List.length_nil
def Th:=@Int.emod_nonneg
def Ti:=@PySem.Heap.SameBut.update
def Tj:=@Int.toNat_of_nonneg
def Tn:=@Int.zero_add
def Tp:=@List.length_drop
def Tq:=@List.mem_filterMap
def Tt:=@List.foldl_cons
def Tu:=@List.mem_iff_getElem
def Tv:=@List.ext_getElem?
def Tw:=@List.take_add_one
def Tz:=@List.all_cons
def sr:=@PySem.W.mg_of
def su:=@List.getElem?_replicate
def sy:=@List.eraseIdx_cons_succ
def S5:=@Array.toList_append
def S6:=@List.map_congr_left
def S7:=@PySem.Heap.size_push
def S8:=@Nat.lt_succ_self
def S9:=@Int.ediv_eq_zero_of_lt
def Sd:=@Int.emod_lt_of_pos
def Sh:=@Array.getElem?_toList
def Sq:=@List.nil_append
def Sy:=@Nat.lt_succ_of_lt
def gf:=@Nat.lt_of_succ_le
def gj:=@List.nodup_append
def k9c:=@And.intro
abbrev k9d:=md
abbrev k9e:=aa→af→Prop
abbrev k9f:=List (ae×dw)
abbrev k9g:=ah→Option aa
abbrev k9h:=("__debug__":ah)
abbrev k9i:=("__classdict__":ah)
local macro_rules | `(tactic| omega)=>`(tactic| first | with_reducible assumption | with_reducible exact Nat.le_of_lt (by assumption) | with_reducible exact Nat.le_refl _ | lia)
local macro_rules | `(nofun)=>`(by omega)
section
namespace L2
open PySem PySem.Spec PyProof.Rows
noncomputable abbrev Key:=Sum Int ah
noncomputable def jcf:Key->aa->Bool
 |.inl k,v=>kH k v
 |.inr x,v=>Value.isStrOf x v
noncomputable def jnr(w:az):Key->Int
 |.inl k=>hashInt k
 |.inr x=>hashStr w x
theorem vf:∀{k:Key}{v:aa},jcf k v=a6->(∃i t,k=fw i/\v=bf i t)\/(∃x t,k=fv x/\v=bG x t)
 |.inl i,v,h=>by obtain⟨t,e⟩:=Value.isInt_shape (k:=i) (v:=v) h;exact .inl ⟨i,t,rfl,e⟩
 |.inr x,v,h=>by obtain⟨t,e⟩:=Value.isStrOf_shape (x:=x) (v:=v) h;exact .inr ⟨x,t,rfl,e⟩
theorem jif(a b:Int):decide ((fw a:Key)=fw b)=(a==b):=by
 by_cases e:a=b
 .subst e;simp
 .have h:¬(fw a:Key)=fw b:=λq=>e (Sum.inl.inj q);rw[decide_eq_false h];exact(beq_eq_false_iff_ne.mpr e).symm
theorem jic(a b:ah):decide ((fv a:Key)=fv b)=decide (a=b):=by
 by_cases e:a=b
 .subst e;simp
 .have h:¬(fv a:Key)=fv b:=λq=>e (Sum.inr.inj q);rw[decide_eq_false h,decide_eq_false e]
theorem jie(a:Int)(b:ah):decide ((fw a:Key)=fv b)=a4:=decide_eq_false (λq=>nomatch q)
theorem jid(a:ah)(b:Int):decide ((fv a:Key)=fw b)=a4:=decide_eq_false (λq=>nomatch q)
noncomputable def j3v(prog:av)(w:az):PySem.KeyKind prog w Key where
 is:=jcf
 hash:=jnr w
 inj:=λv a b ha hb=>by
  rcases vf ha with ⟨i,t,rfl,rfl⟩|⟨x,t,rfl,rfl⟩
  .rcases vf hb with ⟨j,u,rfl,e⟩|⟨y,u,rfl,e⟩
   .injection e with e1 _;rw[e1]
   .exact nomatch e
  .rcases vf hb with ⟨j,u,rfl,e⟩|⟨y,u,rfl,e⟩
   .exact nomatch e
   .injection e with e1 _;rw[e1]
 byValue:=λk v h=>by rcases vf h with ⟨i,t,rfl,rfl⟩|⟨x,t,rfl,rfl⟩<;>rfl
 pyHash:=λhv h=>by
  rcases vf hv with ⟨i,t,rfl,rfl⟩|⟨x,t,rfl,rfl⟩
  .exact wpAny_pyHash_int h
  .exact wpAny_pyHash_str h
 eqBool:=λhu hv h=>by
  rcases vf hu with ⟨i,t,rfl,rfl⟩|⟨x,t,rfl,rfl⟩
  .rcases vf hv with ⟨j,u,rfl,rfl⟩|⟨y,u,rfl,rfl⟩
   .rw[jif]at h;exact wpAny_eqBool_int h
   .rw[jie]at h;exact SeqAt.EqAt.int_str i t y u _ _ _ _ h
  .rcases vf hv with ⟨j,u,rfl,rfl⟩|⟨y,u,rfl,rfl⟩
   .rw[jid]at h;exact SeqAt.EqAt.str_int x t j u _ _ _ _ h
   .rw[jic]at h;exact wpAny_eqBool_str h
 «strs»:=λk x t v h=>by
  rcases vf h with ⟨i,u,rfl,e⟩|⟨y,u,rfl,e⟩
  .exact nomatch e
  .injection e with e1 _;subst e1;cases v<;>rfl
set_option genInjectivity true in
inductive V where
 |non|bl (b:Bool)|int (i:Int)|str (x:ah)|byt (b:Array UInt8)|flt (b:UInt64)|ref (a:ae)|ty (n:String)
 deriving DecidableEq
def RelV:V->aa->Prop
 |.non,u=>u=aQ
 |.bl b,u=>u=bC b
 |.int i,u=>∃t,u=bf i t
 |.str x,u=>∃t,u=bG x t
 |.byt b,u=>∃t,u=Value.bytes b t
 |.flt b,u=>∃t,u=Value.float b t
 |.ref a,u=>u=aF a
 |.ty n,u=>u=bO n
abbrev Vals:List V->List aa->Prop:=Paired RelV
theorem Vals.length{xs:List V}{us:List aa}(r:Vals xs us):xs.length=us.length:=Paired.length r
theorem Vals.get:∀{xs:List V}{us:List aa}{i:Nat}{x:V},Vals xs us->xs[i]?=a3 x->∃u,us[i]?=a3 u/\RelV x u
 |_,_,_,_,.nil,e=>by simp at e
 |_,_,0,_,.cons r _,e=>by simp at e;subst e;exact⟨_,rfl,r⟩
 |_,_,i+1,x,.cons _ t,e=>by obtain⟨u,h1,h2⟩:=Vals.get (i:=i) (x:=x) t (by simpa using e);exact⟨u,by simpa using h1,h2⟩
theorem Vals.set{x:V}{u:aa}(r:RelV x u):∀{xs:List V}{us:List aa}(i:Nat),Vals xs us->Vals (xs.set i x) (us.set i u)
 |_,_,_,.nil=>.nil
 |_,_,0,.cons _ t=>.cons r t
 |_,_,i+1,.cons q t=>.cons q (Vals.set r i t)
theorem Vals.append:∀{xs ys:List V}{us ws:List aa},Vals xs us->Vals ys ws->Vals (xs++ys) (us++ws)
 |_,_,_,_,.nil,s=>s
 |_,_,_,_,.cons r t,s=>.cons r (Vals.append t s)
theorem Vals.take:∀{xs:List V}{us:List aa}(n:Nat),Vals xs us->Vals (xs.take n) (us.take n)
 |_,_,0,_=>.nil
 |_,_,_+1,.nil=>.nil
 |_,_,n+1,.cons r t=>.cons r (Vals.take n t)
theorem Vals.drop:∀{xs:List V}{us:List aa}(n:Nat),Vals xs us->Vals (xs.drop n) (us.drop n)
 |_,_,0,r=>r
 |_,_,_+1,.nil=>.nil
 |_,_,n+1,.cons _ t=>Vals.drop n t
def jk7:Option V->Option aa->Prop
 |some v,a3 u=>RelV v u
 |none,a9=>True
 |_,_=>False
def KV{κ:Type}:List (κ×V)->List (κ×aa)->Prop:=Paired λ(p:κ×V) (q:κ×aa)=>p.1=q.1/\RelV p.2 q.2
noncomputable def kV:Key->V
 |.inl i=>.int i
 |.inr x=>.str x
inductive HO where
 |lst (xs:List V)
 |tup (xs:List V)
 |dK (kvs:List (Key×V))|dT (kvs:List (List Key×V))
 |dI (xs:List (List Int×ae×aa)) (ep:Nat)
 |set (S:Int->Bool) (n:Nat)
 |ins (C dx:ae) (fs:List (ah×V))
 |own (x:ae)
 |xd (fs:List (ah×V))
 |met (f x:ae)
 |rng (lo hi:Int)
 |frz (o:dw) (u:HO)
 |tbl (ps:Array aa)
 |cod (q:ah)
 |ext (φ:aC->Prop)
noncomputable abbrev Hp:=ae->Option HO
noncomputable def upd(H:Hp)(a:ae)(o:HO):Hp:=λb=>if b=a then a3 o else H b
theorem j9{H:Hp}{a:ae}{o:HO}:upd H a o a=a3 o:=by unfold upd;rw[if_pos rfl]
theorem ji{H:Hp}{a b:ae}{o:HO}(h:b≠a):upd H a o b=H b:=by unfold upd;rw[if_neg h]
theorem vd{H:Hp}{a b:ae}{o:HO}(h:H a=a3 o)(h':H b=a9):a≠b:=by intro e;subst e;rw[h]at h';cases h'
def Vg(h:aC)(a:ae):Prop:=∀o,h.get? a=a3 o->o.dict=a9
theorem Vg.new(h:aC)(xs:Array aa):Vg (h.push { cls:=.type "tuple",data:=.seq xs }) h.objs.size:=λo e=>by have z:(h.push { cls:=.type "tuple",data:=.seq xs }).get? h.objs.size=a3 { cls:=.type "tuple",data:=.seq xs }:=X5 _ rfl;rw[z]at e;cases e;rfl
theorem Vg.of{h:aC}{a:ae}{d:Data}{c:aa}(e:h.get? a=a3 { cls:=c,data:=d }):Vg h a:=λo e'=>by rw[e]at e';cases e';rfl
def Ng(o:dw)(q:ah):Prop:=∃(vs:Array aa)(t:hV),o.data=.fields vs/\vs[1]?=a3 (.str q t)
section
variable(P:av)(w:az)
def jj(H:Hp)(h:aC)(a:ae):HO->Prop
 |.lst xs=>xs.length<=ak/\∃(its:List aa)(n:Nat),Vals xs its/\h.get? a=a3 { cls:=.type "list",data:=.seq its.toArray n }
 |.tup xs=>xs.length<=ak/\∃its:List aa,Vals xs its/\ig h a its.toArray/\Vg h a
 |.dK kvs=>kvs.length<=ak/\(a==eM)=a4/\∃vs,KV kvs vs/\h.DictOf (j3v P w) a vs
 |.dT kvs=>kvs.length<=ak/\(a==eM)=a4/\∃xs:List (List Key×ae×aa),
   Paired (λ(p:List Key×V) (q:List Key×ae×aa)=>p.1=q.1/\H q.2.1=a3 (.tup (p.1.map kV))/\RelV p.2 q.2.2) kvs xs /\
   ∃o es ep,h.get? a=a3 o/\o.ExactDict/\o.data=.dict es ep/\es.toList=xs.map (kz (fj (j3v P w)))/\(xs.map (·.1)).Nodup
 |.dI xs ep=>xs.length<=ak/\(a==eM)=a4/\(xs.map λx=>x.1).Nodup/\∃(o:dw)(es:Array gC),h.get? a=a3 o/\o.ExactDict/\o.data=.dict es ep/\es.toList=xs.map (kz (fj (fm P w)))
 |.set S n=>h.SetOf (fm P w) a S n
 |.ins C dx fs=>H dx=a3 (.own a)/\fs.length<=1000/\dx≠a/\h.get? a=a3 (W.instObj C dx) /\
   ∃mA,h.Ns1 dx mA/\(∀f,jk7 (fs.lookup f) (mA f))/\PySem.Within mA (fs.map (·.1))
 |.own _=>∃o,h.get? a=a3 o
 |.xd fs=>∃mA,h.Ns1 a mA/\∀f,jk7 (fs.lookup f) (mA f)
 |.rng lo hi=>∃t u v,h.get? a=a3 { cls:=.type "range",data:=.fields #[.int lo t,.int hi u,.int 1 v] }
 |.frz o u=>h.get? a=a3 o/\jj H h a u
 |.tbl ps=>h.get? a=a3 { cls:=.none,data:=.fields ps }
 |.cod q=>∃ps:Array aa,h.get? a=a3 (W.tabObj ps)/\TriplesOk ps.toList/\∀pos cv,fq pos ps.toList=a3 cv->∃(c:ae)(oc:dw),cv=.ref c/\H c=a3 (.frz oc (.own 0))/\Ng oc q
 |.met f x=>h.get? a=a3 (W.methodObj (.ref f) (.ref x))
 |.ext φ=>φ h/\(∃o,h.get? a=a3 o)/\∀h1 h2:aC,φ h1->(∀o,h1.get? a=a3 o->h2.get? a=a3 o)->φ h2
def HOk(H:Hp)(h:aC):Prop:=∀a o,H a=a3 o->jj P w H h a o
end
section
variable{P:av}{w:az}{H H':Hp}{h h':aC}{a:ae}{o:HO}
theorem jj.lt(x:jj P w H h a o):a<h.objs.size:=by
 cases o with
 |lst xs=>obtain⟨_,_,_,_,e⟩:=x;exact X3 e
 |tup xs=>obtain⟨_,_,_,p,_⟩:=x;exact p.lt
 |dK kvs=>obtain⟨_,_,_,_,o,_,_,e,_⟩:=x;exact X3 e
 |dT kvs=>obtain⟨_,_,_,_,o,_,_,e,_⟩:=x;exact X3 e
 |dI xs ep=>obtain⟨_,_,_,o,_,e,_⟩:=x;exact X3 e
 |set S n=>obtain⟨o,_,_,_,e,_⟩:=x;exact X3 e
 |ins C dx fs=>obtain⟨_,_,_,e,_⟩:=x;exact X3 e
 |own y=>obtain⟨_,e⟩:=x;exact X3 e
 |xd fs=>obtain⟨_,⟨_,_,_,e,_⟩,_⟩:=x;exact X3 e
 |rng lo hi=>obtain⟨_,_,_,e⟩:=x;exact X3 e
 |frz ob u=>obtain⟨e,_⟩:=x;exact X3 e
 |tbl ps=>exact X3 (show h.get? a=a3 _ from x)
 |cod q=>obtain⟨_,e,_⟩:=x;exact X3 e
 |met f y=>exact X3 (show h.get? a=a3 _ from x)
 |ext φ=>obtain⟨_,⟨_,e⟩,_⟩:=x;exact X3 e
theorem Paired.mapP{α β:Type}{F G:α->β->Prop}:∀{l₁:List α}{l₂:List β},Paired F l₁ l₂->(∀a b,F a b->G a b)->Paired G l₁ l₂
 |_,_,.nil,_=>.nil
 |_,_,.cons r t,f=>.cons (f _ _ r) (Paired.mapP t f)
theorem jj.stay(x:jj P w H h a o)(k:∀b u,(b=a\/H b=a3 (.own a))->h.get? b=a3 u->h'.get? b=a3 u)
  (ho:∀b,H b=a3 (.own a)->H' b=a3 (.own a)) (ht:∀b xs,H b=a3 (.tup xs)->H' b=a3 (.tup xs)) (hz:∀b o,(∃vs,o.data=.fields vs)->H b=a3 (.frz o (.own 0))->H' b=a3 (.frz o (.own 0))):jj P w H' h' a o:=by
 induction o with
 |lst xs=>obtain⟨z,its,n,r,e⟩:=x;exact⟨z,its,n,r,k _ _ (.inl rfl) e⟩
 |tup xs =>obtain⟨z,its,r,⟨ob,e,c⟩,nd⟩:=x;refine⟨z,its,r,⟨ob,k _ _ (.inl rfl) e,c⟩,λo q=>?_⟩;rw[k _ _ (.inl rfl) e]at q;cases q;exact nd _ e
 |dK kvs=>obtain⟨z,y,vs,r,ob,es,ep,e,c⟩:=x;exact⟨z,y,vs,r,ob,es,ep,k _ _ (.inl rfl) e,c⟩
 |dT kvs =>obtain⟨z,y,xs,r,ob,es,ep,e,c⟩:=x;exact⟨z,y,xs,Paired.mapP r λp q z=>⟨z.1,ht _ _ z.2.1,z.2.2⟩,ob,es,ep,k _ _ (.inl rfl) e,c⟩
 |dI xs ep=>obtain⟨z,y,nd,ob,es,e,c⟩:=x;exact⟨z,y,nd,ob,es,k _ _ (.inl rfl) e,c⟩
 |set S n=>obtain⟨ob,es,ep,t,e,c⟩:=x;exact⟨ob,es,ep,t,k _ _ (.inl rfl) e,c⟩
 |ins C dx fs =>obtain⟨d,z,ne,e,mA,⟨od,es,ep,e2,c⟩,r⟩:=x;exact⟨ho _ d,z,ne,k _ _ (.inl rfl) e,mA,⟨od,es,ep,k _ _ (.inr d) e2,c⟩,r⟩
 |own y=>obtain⟨ob,e⟩:=x;exact⟨ob,k _ _ (.inl rfl) e⟩
 |xd fs=>obtain⟨mA,⟨od,es,ep,e,c⟩,r⟩:=x;exact⟨mA,⟨od,es,ep,k _ _ (.inl rfl) e,c⟩,r⟩
 |rng lo hi=>obtain⟨t,u,v,e⟩:=x;exact⟨t,u,v,k _ _ (.inl rfl) e⟩
 |frz ob u ih=>obtain⟨e,q⟩:=x;exact⟨k _ _ (.inl rfl) e,ih q⟩
 |tbl ps =>have e:h.get? a=a3 { cls:=.none,data:=.fields ps }:=x;show h'.get? a=a3 { cls:=.none,data:=.fields ps };exact k a _ (.inl rfl) e
 |cod q=>obtain⟨ps,e,t,c⟩:=x;exact⟨ps,k _ _ (.inl rfl) e,t,λpos cv z=>let ⟨c,oc,e1,e2,e3⟩:=c pos cv z;⟨c,oc,e1,hz _ _ (let ⟨vs,_,z,_⟩:=e3;⟨vs,z⟩) e2,e3⟩⟩
 |met f y =>have e:h.get? a=a3 (W.methodObj (.ref f) (.ref y)):=x;show h'.get? a=a3 (W.methodObj (.ref f) (.ref y));exact k a _ (.inl rfl) e
 |ext φ=>obtain⟨p,⟨o,e⟩,st⟩:=x;exact⟨st _ _ p λo q=>k _ _ (.inl rfl) q,⟨o,k _ _ (.inl rfl) e⟩,st⟩
theorem HOk.lt(x:HOk P w H h)(e:H a=a3 o):a<h.objs.size:=(x a o e).lt
theorem HOk.fresh(x:HOk P w H h)(e:h.objs.size<=a):H a=a9:=by
 cases q:H a with
 |none=>rfl
 |some u=>exact absurd (Xn (x.lt q) e) (Pg _)
theorem HOk.kept(x:HOk P w H h)(k:∀b u,h.get? b=a3 u->h'.get? b=a3 u):HOk P w H h':=λa o e =>(x a o e).stay (λb u _ q=>k b u q) (λ_ q=>q) (λ_ _ q=>q) λ_ _ _ q=>q
theorem HOk.laid(x:HOk P w H h)(k:∀b u,h.get? b=a3 u->h'.get? b=a3 u)(hp:h.objs.size<=a)(new:jj P w (upd H a o) h' a o):HOk P w (upd H a o) h':=λb u e=>by
 have hn:=x.fresh hp;by_cases hb:b=a
 .subst hb;rw[j9]at e;cases e;exact new
 .rw[ji hb]at e;exact(x b u e).stay (λc v _ q=>k c v q) (λc q=>by rw[ji (vd q hn)];exact q) (λc xs q=>by rw[ji (vd q hn)];exact q) λc _ _ q=>by rw[ji (vd q hn)];exact q
end
def Rd(H:Hp)(a:ae)(u:HO):Prop:=H a=a3 u\/∃o,H a=a3 (.frz o u)
theorem Rd.ok{P:av}{w:az}{H:Hp}{h:aC}{a:ae}{u:HO}(r:Rd H a u)(x:HOk P w H h):jj P w H h a u:=by
 rcases r with r|⟨o,r⟩
 .exact x a u r
 .obtain⟨_,q⟩:=x a _ r;exact q
def Mut:Option HO->Prop
 |some (.lst _)=>True
 |some (.dK _)=>True
 |some (.dT _)=>True
 |some (.dI _ _)=>True
 |some (.set _ _)=>True
 |some (.ins _ _ _)=>True
 |some (.ext _)=>True
 |some (.cod _)=>True
 |_=>False
section
variable{P:av}{w:az}{H:Hp}{h h':aC}{x e:ae}{o':HO}
theorem HOk.write(ok:HOk P w H h)(mu:Mut (H x))(he:e=x\/H e=a3 (.own x))(k:∀b u,b≠e->h.get? b=a3 u->h'.get? b=a3 u)(heo:∃u,h'.get? e=a3 u)
  (new:jj P w (upd H x o') h' x o'):HOk P w (upd H x o') h':=λb u q=>by
 have nown:∀c y,H c=a3 (.own y)->c≠x:=λc y r z=>by subst z;rw[r]at mu;exact mu
 have ntup:∀c xs,H c=a3 (.tup xs)->c≠x:=λc xs r z=>by subst z;rw[r]at mu;exact mu
 have nfrz:∀c o u,H c=a3 (.frz o u)->c≠x:=λc o u r z=>by subst z;rw[r]at mu;exact mu
 by_cases hb:b=x
 .subst hb;rw[j9]at q;cases q;exact new
 .rw[ji hb]at q;by_cases hbe:b=e
  .have q':H b=a3 (.own x):=by
    rcases he with z|z
    .exact absurd (hbe.trans z) hb
    .rw[hbe];exact z
   rw[q]at q';cases q';obtain⟨v,hv⟩:=heo;exact⟨v,by rw[hbe];exact hv⟩
  .refine(ok b u q).stay (λc v hc r=>k c v ?_ r) (λc r=>by rw[ji (nown c b r)];exact r) (λc xs r=>by rw[ji (ntup c xs r)];exact r) λc o _ r=>by rw[ji (nfrz c o _ r)];exact r
   rcases hc with rfl|hc
   .exact hbe
   .rintro rfl;rcases he with z|z
    .exact nown c b hc z
    .rw[hc]at z;cases z;exact hb rfl
end
structure Un(fs ex:List ae)(H H':Hp)(h h':aC):Prop where
 keep:∀b o,h.get? b=a3 o->H b=a9->b∉fs->b∉ex->h'.get? b=a3 o
 slot:∀b o,h.get? b=a3 o->H b=a9->b∈fs->b∉ex->∃sl,h'.get? b=a3 { o with slots:=sl }
 free:∀b o,h.get? b=a3 o->H b=a9->b∉ex->H' b=a9
 there:∀b o,h.get? b=a3 o->b∉ex->∃o',h'.get? b=a3 o'
 tups:∀b xs,H b=a3 (.tup xs)->H' b=a3 (.tup xs)
 frzs:∀b o u,H b=a3 (.frz o u)->H' b=a3 (.frz o u)
 tbls:∀b ps,H b=a3 (.tbl ps)->∃more,H' b=a3 (.tbl (ps++more))
section
variable{fs fs' ex ex':List ae}{H H1 H2:Hp}{h h1 h2 h':aC}{a x e:ae}{o:HO}
theorem Un.any(u:Un fs ex H H1 h h1){b:ae}{ob:dw}(q:h.get? b=a3 ob)(n:H b=a9)(hx:b∉ex):∃sl,h1.get? b=a3 { ob with slots:=sl }:=by
 by_cases hb:b∈fs
 .exact u.slot b ob q n hb hx
 .exact⟨ob.slots,u.keep b ob q n hb hx⟩
theorem Un.kept(k:∀b u,h.get? b=a3 u->h'.get? b=a3 u):Un fs ex H H h h' :=
 ⟨λb ob q _ _ _=>k b ob q,λb ob q _ _ _=>⟨ob.slots,k b ob q⟩,λ_ _ _ n _=>n,λb ob q _=>⟨ob,k b ob q⟩,λ_ _ q=>q,λ_ _ _ q=>q,λ_ ps q=>⟨#[],by rw[q];simp⟩⟩
theorem Un.refl:Un fs ex H H h h:=Un.kept λ_ _ q=>q
theorem Un.laid(k:∀b u,h.get? b=a3 u->h'.get? b=a3 u)(hp:h.objs.size<=a)(hn:H a=a9):Un fs ex H (upd H a o) h h' where
 keep:=λb u q _ _ _=>k b u q
 slot:=λb u q _ _ _=>⟨u.slots,k b u q⟩
 free:=λb u q n _=>by rw[ji (Xc (Xn (X3 q) hp))];exact n
 there:=λb u q _=>⟨u,k b u q⟩
 tups:=λb xs q=>by rw[ji (vd q hn)];exact q
 frzs:=λb u xs q=>by rw[ji (vd q hn)];exact q
 tbls:=λb ps q=>⟨#[],by rw[ji (vd q hn),q];simp⟩
theorem Un.write(mu:Mut (H x))(he:e=x\/H e=a3 (.own x))(k:∀b u,b≠e->h.get? b=a3 u->h'.get? b=a3 u)(heo:∃u,h'.get? e=a3 u):Un fs ex H (upd H x o) h h':=by
 have hx:∀b,H b=a9->b≠x:=λb n z=>by subst z;rw[n]at mu;exact mu
 have hb:∀b,H b=a9->b≠e:=λb n z=>by
  subst z;rcases he with r|r
  .exact hx b n r
  .rw[n]at r;cases r
 have hm:∀b u,H b=a3 u->¬Mut (a3 u)->b≠x:=λb u q nm z=>by subst z;rw[q]at mu;exact nm mu
 refine⟨λb u q n _ _=>k b u (hb b n) q,λb u q n _ _=>⟨u.slots,k b u (hb b n) q⟩,λb u q n _=>by rw[ji (hx b n)];exact n,λb u q _=>?_,
  λb xs q=>by rw[ji (hm b _ q λz=>z)];exact q,λb u xs q=>by rw[ji (hm b _ q λz=>z)];exact q,λb ps q=>⟨#[],by rw[ji (hm b _ q λz=>z),q];simp⟩⟩
 by_cases hbe:b=e
 .subst hbe;exact heo
 .exact⟨u,k b u hbe q⟩
end
noncomputable def trk(h:aC)(H:Hp):List ae:=(aq h.objs.size).filter λa=>(H a).isSome
noncomputable def Rx(h:aC)(H:Hp):aC:=W.hideAll h (trk h H)
theorem j7l(h:aC)(H:Hp):(Rx h H).objs.size=h.objs.size:=W.hideAll_size _ _
theorem jam{h:aC}{H:Hp}{b:ae}{o:dw}(e:h.get? b=a3 o)(n:H b=a9):(Rx h H).get? b=a3 o :=
 W.hideAll_get _ e λhm=>by have q:(H b).isSome=a6:=(Xk.mp hm).2;rw[n]at q;simp at q
theorem je8{h:aC}{H:Hp}{b:ae}{o:dw}(e:(Rx h H).get? b=a3 o):h.get? b=a3 o/\H b=a9:=by
 have e':h.get? b=a3 o:=W.of_hideAll (trk h H) e;refine⟨e',?_⟩;cases q:H b with
 |none=>rfl
 |some x =>have hm:b∈trk h H:=Xk.mpr ⟨Xb.mpr (X3 e'),by simp[q]⟩;have z:(Rx h H).get? b=a9:=W.hideAll_none (trk h H) hm;rw[z]at e;cases e
noncomputable def jfx(g h:aC)(L:ae):List (ae×dw):=(aq h.objs.size).filterMap λa=>if a=L\/(g.get? a).isSome=a6 then a9 else(h.get? a).map λo=>(a,o)
noncomputable def rest(g h:aC)(L d:ae):List (ae×dw):=(jfx g h L).filter λp=>decide (p.1≠d)
structure Mod(K:k9d)(mg:k9g)(base:aC):Prop where
 kin:K.In base
 glob:base.Ns au mg
 blt:∃mb,base.Ns dN mb/\∀x:ah,x ≠ "__name__"->mb x=b7 x
 nolimit:base.NoLimit
 bm:∃bm ob,mg "__builtins__" = a3 (.ref bm)/\bm≠dN/\base.get? bm=a3 ob/\ob.cls=.type "module"/\ob.dict=a3 dN/\ob.data=.plain
structure Cx where
 prog:av
 w:az
 K:k9d
 mg:ah->Option aa
 base:aC
 A:aB
 N:List ah
 s₀:af
 H₀:Hp
 env:dR
 outer:List dR
 stack:List dR
 ex:List ae
 fn:ah->Bool
 calm:Bool
 pn:List (ae×dw)
 xe:aa->af->Prop
noncomputable def frs(l:List dR):List ae:=l.filterMap (·.frame)
noncomputable abbrev Cx.fs(X:Cx):List ae:=frs X.outer
def Vis(sc:b9)(x:ah):Prop:=sc.names.lookup x=a3 .local\/sc.names.lookup x=a3 .cell\/sc.names.lookup x=a3 .free
def Loc(sc:b9)(x:ah):Prop:=sc.names.lookup x=a3 .local\/sc.names.lookup x=a3 .cell
def Look(env:dR)(h:aC)(m:k9g)(x:ah)(u:aa):Prop :=
 (env.kindOf x=a3 .local/\m x=a3 u)\/((env.kindOf x=a3 .cell\/env.kindOf x=a3 .free)/\∃c,env.cells.lookup x=a3 c/\h.IsCell c (a3 u))
structure Cx.Ok(X:Cx):Prop where
 mod:Mod X.K X.mg X.base
 kind:X.env.scope.kind=.function
 glob:X.env.globals=au
 blt:X.env.builtins=dN
 above:X.s₀.heap.objs.size<=X.env.locals
 inj:∀x y c,X.env.cells.lookup x=a3 c->X.env.cells.lookup y=a3 c->x=y
 has:∀x,(X.env.kindOf x=a3 .cell\/X.env.kindOf x=a3 .free)->∃c,X.env.cells.lookup x=a3 c
 cab:∀x c,X.fn x=a6->X.env.cells.lookup x=a3 c->X.s₀.heap.objs.size<=c
 hd:X.calm=a6->X.A.handled=a9
 frames:X.A.frames=a3 X.stack
 stk:X.stack=X.outer\/(X.stack=X.env::X.outer/\X.env.frame=a3 X.env.locals)
 exf:∀b∈X.ex,b≠X.env.locals/\∀x c,X.env.cells.lookup x=a3 c->c≠b
 bs:∀b o,X.base.get? b=a3 o->X.s₀.heap.get? b=a3 o/\X.H₀ b=a9
 bsz:X.base.objs.size<=X.s₀.heap.objs.size
 noex:∀b o,X.base.get? b=a3 o->b∉X.ex
 exfs:∀b∈X.ex,b∉X.fs
 funs:X.s₀.heap.FunFrames X.base X.outer
 frf:∀b∈X.fs,X.H₀ b=a9
structure Inv(X:Cx)(pins:k9f)(σ:List (Option V))(H:Hp)(s:af):Prop where
 ok:X.Ok
 os:s.os=X.s₀.os
 bare:dS s.gens
 base:Un X.fs X.ex X.H₀ H X.s₀.heap s.heap
 loc:∃m,s.heap.Ns X.env.locals m/\∀(i:Nat)(x:ah)(v:V),X.N[i]?=a3 x->σ[i]?=a3 (a3 v)->Vis X.env.scope x->∃u,RelV v u/\Look X.env s.heap m x u
 cell:∀x c,X.env.cells.lookup x=a3 c->∃v,s.heap.IsCell c v
 free:H X.env.locals=a9
 freeC:∀x c,X.env.cells.lookup x=a3 c->H c=a9
 pin:∀p∈X.pn++pins,s.heap.get? p.1=a3 p.2/\H p.1=a9/\p.1≠X.env.locals/\p.1∉X.fs/\∀v,p.2.data≠.cell v
 hok:HOk X.prog X.w H s.heap
 len:σ.length=X.N.length
section
variable{X:Cx}{pins:k9f}{σ:List (Option V)}{H H':Hp}{s:af}{h':aC}
theorem Cx.Ok.nofr(ok:X.Ok){b:ae}{o:dw}(e:X.base.get? b=a3 o):b∉X.fs:=λhb=>by have:=(ok.funs.mem hb).1;rw[e]at this;cases this
theorem Inv.bs(I:Inv X pins σ H s):∀b o,X.base.get? b=a3 o->s.heap.get? b=a3 o/\H b=a9:=λb o e =>⟨I.base.keep b o (I.ok.bs b o e).1 (I.ok.bs b o e).2 (I.ok.nofr e) (I.ok.noex b o e),I.base.free b o (I.ok.bs b o e).1 (I.ok.bs b o e).2 (I.ok.noex b o e)⟩
theorem Inv.bk(I:Inv X pins σ H s):∀b o,X.base.get? b=a3 o->s.heap.get? b=a3 o:=λb o e=>(I.bs b o e).1
theorem Inv.mod(I:Inv X pins σ H s):Mod X.K X.mg X.base:=I.ok.mod
theorem Inv.kIn(I:Inv X pins σ H s):X.K.In s.heap:=I.ok.mod.kin.keeps I.bk
theorem Inv.lt(I:Inv X pins σ H s):X.env.locals<s.heap.objs.size:=let ⟨_,hn,_⟩:=I.loc;hn.lt
theorem Inv.sz(I:Inv X pins σ H s):X.s₀.heap.objs.size<=s.heap.objs.size:=Xl I.ok.above (cJ I.lt)
theorem Inv.nofs(I:Inv X pins σ H s){a:ae}(h:s.heap.objs.size<=a):a∉X.fs:=λhb=>by obtain⟨_,o,ho,_⟩:=I.ok.funs.mem hb;exact absurd (Xn (X3 ho) (Xl I.sz h)) (Pg _)
theorem Inv.cne(I:Inv X pins σ H s):∀x c,X.env.cells.lookup x=a3 c->c≠X.env.locals:=λx c e z=>by obtain⟨v,o,ho,hd⟩:=I.cell x c e;obtain⟨m,⟨o',es,ep,ho',hd',_⟩,_⟩:=I.loc;rw[z,ho']at ho;cases ho;rw[hd']at hd;cases hd
theorem Inv.funs(I:Inv X pins σ H s):s.heap.FunFrames X.base X.outer:=by
 have all:∀(l:List dR),(∀b∈frs l,b∈X.fs)->X.s₀.heap.FunFrames X.base l->s.heap.FunFrames X.base l:=by
  intro l;induction l with
  |nil=>intro _ _;trivial
  |cons env r ih =>intro hs hl;obtain⟨hk,⟨L,o,hf,hn,ho,hd⟩,hr⟩:=hl;have hL:L∈X.fs:=hs L (by unfold frs;rw[cc,hf];exact xq);obtain⟨sl,e⟩:=I.base.slot L o ho (I.ok.frf L hL) hL λz=>I.ok.exfs L z hL;exact⟨hk,⟨L,_,hf,hn,e,hd⟩,ih (λb hb=>hs b (by unfold frs;rw[cc,hf];exact xf _ hb)) hr⟩
 exact all X.outer (λ_ hb=>hb) I.ok.funs
theorem Inv.stack(I:Inv X pins σ H s):s.heap.FunFrames X.base X.stack:=by
 rcases I.ok.stk with e|⟨e,hf⟩
 .rw[e];exact I.funs
 .rw[e];obtain⟨m,hn,_⟩:=I.loc;refine .cons (by rw[I.ok.kind];decide) hf hn ?_ I.funs;exact Heap.get?_none_of_le (Xl I.ok.bsz I.ok.above)
theorem Inv.stkSub(I:Inv X pins σ H s):∀b∈frs X.stack,b∈X.env.locals::X.fs:=λb hb=>by
 rcases I.ok.stk with e|⟨e,hf⟩
 .rw[e]at hb;exact xf _ hb
 .rw[e]at hb;unfold frs at hb;rw[cc,hf]at hb;exact hb
theorem Inv.stkFree(I:Inv X pins σ H s):∀b∈frs X.stack,H b=a9:=λb hb=>by
 rcases xn.mp (I.stkSub b hb)with e|hb
 .rw[e];exact I.free
 .obtain⟨_,o,ho,_⟩:=I.ok.funs.mem hb;exact I.base.free b o ho (I.ok.frf b hb) λz=>I.ok.exfs b z hb
theorem Inv.step{g':Array ff}{t':Nat}{d':Drawn}{ch:List ae}(I:Inv X pins σ H s)
  (hch:∀b∈ch,(b∈X.ex\/X.s₀.heap.objs.size<=b)/\b≠X.env.locals/\(∀x c,X.env.cells.lookup x=a3 c->c≠b)/\∀p∈X.pn++pins,p.1≠b)
  (keep:∀b o,b≠X.env.locals->b∉X.fs->b∉ch->s.heap.get? b=a3 o->H b=a9->h'.get? b=a3 o)
  (slot:∀b o,b≠X.env.locals->b∈X.fs->b∉ch->s.heap.get? b=a3 o->H b=a9->∃sl,h'.get? b=a3 { o with slots:=sl }) (free:∀b o,b∉ch->s.heap.get? b=a3 o->H b=a9->H' b=a9)
  (there:∀b o,b∉ch->s.heap.get? b=a3 o->∃o',h'.get? b=a3 o')
  (tups:∀b xs,H b=a3 (.tup xs)->H' b=a3 (.tup xs)) (frzs:∀b o u,H b=a3 (.frz o u)->H' b=a3 (.frz o u)) (tbls:∀b ps,H b=a3 (.tbl ps)->∃more,H' b=a3 (.tbl (ps++more)))
  (ns:∀m,s.heap.Ns X.env.locals m->h'.Ns X.env.locals m) (hok:HOk X.prog X.w H' h') (hg:dS g') :
  Inv X pins σ H' { s with heap:=h',gens:=g',drawn:=d',toks:=t' }:=by
 have neL:∀b o,X.s₀.heap.get? b=a3 o->b≠X.env.locals:=λb o e=>Xc (Xn (X3 e) I.ok.above);have neC:∀b o,X.s₀.heap.get? b=a3 o->b∉X.ex->b∉ch:=λb o e hx hb=>by
  rcases(hch b hb).1 with z|z
  .exact hx z
  .exact absurd (Xn (X3 e) z) (Pg _)
 have cellK:∀x c,X.env.cells.lookup x=a3 c->∀v,s.heap.IsCell c v->h'.IsCell c v:=λx c e v ⟨o,ho,hd⟩=>by
  have nch:c∉ch:=λz=>(hch c z).2.2.1 x c e rfl;by_cases hc:c∈X.fs
  .obtain⟨sl,q⟩:=slot c o (I.cne x c e) hc nch ho (I.freeC x c e);exact⟨_,q,hd⟩
  .exact⟨o,keep c o (I.cne x c e) hc nch ho (I.freeC x c e),hd⟩
 refine⟨I.ok,I.os,hg,⟨λb o e n hb hx=>?_,λb o e n hb hx=>?_,λb o e n hx=>?_,λb o e hx=>?_,λb xs e=>tups b xs (I.base.tups b xs e),λb o xs e=>frzs b o xs (I.base.frzs b o xs e),λb ps e=>?_⟩,?_,λx c e=>?_,?_,λx c e=>?_,λp hp=>?_,hok,I.len⟩
 .exact keep b o (neL b o e) hb (neC b o e hx) (I.base.keep b o e n hb hx) (I.base.free b o e n hx)
 .obtain⟨sl,e1⟩:=I.base.slot b o e n hb hx;obtain⟨sl',e2⟩:=slot b _ (neL b o e) hb (neC b o e hx) e1 (I.base.free b o e n hx);exact⟨sl',e2⟩
 .obtain⟨o',e1⟩:=I.base.there b o e hx;exact free b o' (neC b o e hx) e1 (I.base.free b o e n hx)
 .obtain⟨o',e1⟩:=I.base.there b o e hx;exact there b o' (neC b o e hx) e1
 .obtain⟨m1,e1⟩:=I.base.tbls b ps e;obtain⟨m2,e2⟩:=tbls b _ e1;exact⟨m1++m2,by rw[e2,Array.append_assoc]⟩
 .obtain⟨m,hn,hl⟩:=I.loc;refine⟨m,ns m hn,λi x v e1 e2 e3=>?_⟩;obtain⟨u,r,l⟩:=hl i x v e1 e2 e3;refine⟨u,r,?_⟩;rcases l with l|⟨k,c,e,z⟩
  .exact .inl l
  .exact .inr ⟨k,c,e,cellK x c e _ z⟩
 .obtain⟨v,z⟩:=I.cell x c e;exact⟨v,cellK x c e v z⟩
 .obtain⟨m,⟨o,_,_,ho,_⟩,_⟩:=I.loc;exact free _ o (λz=>(hch _ z).2.1 rfl) ho I.free
 .obtain⟨v,o,ho,hd⟩:=I.cell x c e;exact free c o (λz=>(hch c z).2.2.1 x c e rfl) ho (I.freeC x c e)
 .obtain⟨e,n,ne,nf,d⟩:=I.pin p hp;have nch:p.1∉ch:=λz=>(hch p.1 z).2.2.2 p hp rfl;exact⟨keep p.1 p.2 ne nf nch e n,free p.1 p.2 nch e n,ne,nf,d⟩
theorem Inv.un{t':Nat}(I:Inv X pins σ H s)(u:Un X.fs [] H H' s.heap h')(hok:HOk X.prog X.w H' h'):Inv X pins σ H' { s with heap:=h',toks:=t' }:=by
 obtain⟨m,⟨o,es,ep,ho,r⟩,_⟩:=id I.loc;obtain⟨sl,hL⟩:=u.any ho I.free (by simp);exact I.step (g':=s.gens) (d':=s.drawn) (ch:=[]) (λ_ z=>nomatch z) (λb o _ hb _ e n=>u.keep b o e n hb (by simp)) (λb o _ hb _ e n=>u.slot b o e n hb (by simp)) (λb o _ e n=>u.free b o e n (by simp)) (λb o _ e=>u.there b o e (by simp)) u.tups u.frzs u.tbls (λm' hm=>by
  obtain⟨o',es',ep',ho',r'⟩:=hm
  rw[ho]at ho';cases ho'
  exact⟨_,es',ep',hL,r'⟩) hok I.bare
theorem Inv.call{g':Array ff}{t':Nat}{d':Drawn}{ch:List ae}(I:Inv X pins σ H s)(u:Un (frs X.stack) ch H H' s.heap h')(hok:HOk X.prog X.w H' h')(hg:dS g')
  (hch:∀b∈ch,(b∈X.ex\/X.s₀.heap.objs.size<=b)/\b≠X.env.locals/\(∀x c,X.env.cells.lookup x=a3 c->c≠b)/\∀p∈X.pn++pins,p.1≠b) :
  Inv X pins σ H' { s with heap:=h',gens:=g',drawn:=d',toks:=t' }:=by
 obtain⟨m,⟨o,es,ep,ho,r⟩,_⟩:=id I.loc;obtain⟨sl,hL⟩:=u.any ho I.free λz=>(hch _ z).2.1 rfl;exact I.step (ch:=ch) hch (λb o hL hb hc e n=>u.keep b o e n (λz=>(xn.mp (I.stkSub b z)).elim hL hb) hc) (λb o _ _ hc e n=>u.any e n hc) (λb o hc e n=>u.free b o e n hc) (λb o hc e=>u.there b o e hc) u.tups u.frzs u.tbls (λm' hm=>by
  obtain⟨o',es',ep',ho',r'⟩:=hm
  rw[ho]at ho';cases ho'
  exact⟨_,es',ep',hL,r'⟩) hok hg
theorem Inv.turned{t':Nat}{it:ae}(I:Inv X pins σ H s)(k:∀b o,b≠it->s.heap.get? b=a3 o->h'.get? b=a3 o)(hn:H it=a9)(hL:it≠X.env.locals)
  (h1:it∈X.ex\/X.s₀.heap.objs.size<=it) (h2:∀x c,X.env.cells.lookup x=a3 c->c≠it) (h3:∀p∈X.pn++pins,p.1≠it):Inv X pins σ H { s with heap:=h',toks:=t' }:=by
 have nit:∀b u,H b=a3 u->b≠it:=λb u e z=>by rw[z,hn]at e;cases e
 refine I.step (g':=s.gens) (d':=s.drawn) (ch:=[it]) (λb hb=>?_) (λb o _ _ hc e _=>k b o (λz=>hc (by simp[z])) e) (λb o _ _ hc e _=>⟨o.slots,k b o (λz=>hc (by simp[z])) e⟩) (λ_ _ _ _ n=>n)
  (λb o hc e=>⟨o,k b o (λz=>hc (by simp[z])) e⟩) (λ_ _ e=>e) (λ_ _ _ e=>e) (λb ps e=>⟨#[],by rw[e];simp⟩) (λm hm=>?_) (λb u e=>?_) I.bare
 .have e:b=it:=by simpa using hb
  subst e;exact⟨h1,hL,h2,h3⟩
 .obtain⟨o,es,ep,ho,r⟩:=hm;exact⟨o,es,ep,k _ o (cb hL) ho,r⟩
 .refine(I.hok b u e).stay (λc v hc q=>k c v ?_ q) (λ_ q=>q) (λ_ _ q=>q) λ_ _ _ q=>q;rcases hc with z|z
  .rw[z];exact nit b u e
  .exact nit c _ z
theorem Inv.tok(I:Inv X pins σ H s)(t:Nat):Inv X pins σ H { s with toks:=t }:=I.un (h':=s.heap) (t':=t) Un.refl I.hok
theorem Inv.kept{t':Nat}(I:Inv X pins σ H s)(k:∀b u,s.heap.get? b=a3 u->h'.get? b=a3 u):Inv X pins σ H { s with heap:=h',toks:=t' }:=I.un (Un.kept k) (I.hok.kept k)
theorem Inv.laid{a:ae}{o:HO}{t':Nat}(I:Inv X pins σ H s)(k:∀b u,s.heap.get? b=a3 u->h'.get? b=a3 u)(hp:s.heap.objs.size<=a)(new:jj X.prog X.w (upd H a o) h' a o) :
  Inv X pins σ (upd H a o) { s with heap:=h',toks:=t' }:=I.un (Un.laid k hp (I.hok.fresh hp)) (I.hok.laid k hp new)
theorem Inv.write{x e:ae}{o:HO}{t':Nat}(I:Inv X pins σ H s)(mu:Mut (H x))(he:e=x\/H e=a3 (.own x))(k:∀b u,b≠e->s.heap.get? b=a3 u->h'.get? b=a3 u)(heo:∃u,h'.get? e=a3 u)
  (new:jj X.prog X.w (upd H x o) h' x o):Inv X pins σ (upd H x o) { s with heap:=h',toks:=t' }:=I.un (Un.write mu he k heo) (I.hok.write mu he k heo new)
theorem Inv.pins_of{pins':k9f}(I:Inv X pins σ H s)(h:∀p∈pins',s.heap.get? p.1=a3 p.2/\H p.1=a9/\p.1≠X.env.locals/\p.1∉X.fs/\∀v,p.2.data≠.cell v):Inv X pins' σ H s :=
 ⟨I.ok,I.os,I.bare,I.base,I.loc,I.cell,I.free,I.freeC,λp hp=>(Pn.mp hp).elim (λz=>I.pin p (bS _ z)) (h p),I.hok,I.len⟩
theorem j1k{N:List ah}(hN:N.Nodup){i j:Nat}{x:ah}(a:N[i]?=a3 x)(b:N[j]?=a3 x):i=j:=by obtain⟨h1,e1⟩:=X8.mp a;obtain⟨h2,e2⟩:=X8.mp b;exact(jO hN).mp (e1.trans e2.symm)
theorem Iw{M:kN}{A:aB}{E:k9e}{i:Nat}{x:ah}{v:V}{u:aa}{Q:Unit->af->Prop}(I:Inv X pins σ H s)(hN:X.N.Nodup)(hi:X.N[i]?=a3 x)(hx:Loc X.env.scope x)(r:RelV v u)
  (h:∀s',Inv X pins (σ.set i (a3 v)) H s'->(∃a,cE a s.heap s'.heap/\(a=X.env.locals\/X.env.cells.lookup x=a3 a))->Q () s') (hf:X.fn x=a6\/X.env.scope.names.lookup x=a3 .local:=by first|exact .inl rfl|exact .inr rfl|assumption):ar M A (storeName X.env x u) Q E s:=by
 obtain⟨m,hn,hl⟩:=id I.loc;have hcls:(X.env.scope.kind==.class || (X.env.scope.kind==.module&&X.env.locals != X.env.globals))=a4:=by rw[I.ok.kind];rfl
 have hiσ:i<σ.length:=by rw[I.len];exact(X8.mp hi).1
 have cne:=I.cne;have tracked:∀{a:ae}{h':aC},(∃o,s.heap.get? a=a3 o/\H a=a9)->cE a s.heap h'->HOk X.prog X.w H h':=λ{a h'} ha hs b ob e=>by
  obtain⟨_,_,hfree⟩:=ha;refine(I.hok b ob e).stay (λc w' hc q=>(hs.2 c ?_).trans q) (λ_ q=>q) (λ_ _ q=>q) λ_ _ _ q=>q;rintro rfl;rcases hc with rfl|hc
  .rw[hfree]at e;cases e
  .rw[hfree]at hc;cases hc
 rcases hx with hk|hk
 .refine wpAny_storeName_local hk hn (λh' hn' hs=>?_) hcls;obtain⟨oL,_,_,hoL,_⟩:=id hn;refine h _ ⟨I.ok,I.os,I.bare,⟨λb o e n hb hx=>?_,λb o e n hb hx=>?_,I.base.free,λb o e hx=>?_,I.base.tups,I.base.frzs,I.base.tbls⟩,⟨_,hn',λj y v' e1 e2 e3=>?_⟩,λy c e=>?_,I.free,I.freeC,λp hp=>?_,tracked ⟨oL,hoL,I.free⟩ hs,by simpa using I.len⟩ ⟨_,hs,.inl rfl⟩
  .exact(hs.2 b (Xc (Xn (X3 e) I.ok.above))).trans (I.base.keep b o e n hb hx)
  .obtain⟨sl,e1⟩:=I.base.slot b o e n hb hx;exact⟨sl,(hs.2 b (Xc (Xn (X3 e) I.ok.above))).trans e1⟩
  .obtain⟨o',e1⟩:=I.base.there b o e hx;exact⟨o',(hs.2 b (Xc (Xn (X3 e) I.ok.above))).trans e1⟩
  .by_cases hj:j=i
   .subst hj;rw[hi]at e1;cases e1;rw[T5 hiσ]at e2;cases e2;exact⟨u,r,.inl ⟨hk,by simp⟩⟩
   .rw[cQ (cb hj)]at e2;obtain⟨u',r',q⟩:=hl j y v' e1 e2 e3;refine⟨u',r',?_⟩;rcases q with ⟨k,e⟩|⟨k,c,e,z⟩
    .refine .inl ⟨k,?_⟩;have:y≠x:=λe=>hj (j1k hN e1 (e▸hi));simp[this,e]
    .exact .inr ⟨k,c,e,z.sameBut hs (cne y c e)⟩
  .obtain⟨w',z⟩:=I.cell y c e;exact⟨w',z.sameBut hs (cne y c e)⟩
  .obtain⟨e,n,ne,nf,d⟩:=I.pin p hp;exact⟨(hs.2 p.1 ne).trans e,n,ne,nf,d⟩
 .have hfn:X.fn x=a6:=by
   rcases hf with z|z
   .exact z
   .rw[z]at hk;cases hk
  obtain⟨c,hc⟩:=I.ok.has x (.inl hk);obtain⟨w',z⟩:=I.cell x c hc;refine wpAny_storeName_cell I.ok.kind hk hc z (λh' hc' hs=>?_);obtain⟨oc,hoc,hocd⟩:=id z;refine h { s with heap:=h' } ⟨I.ok,I.os,I.bare,⟨λb o e n hb hx=>?_,λb o e n hb hx=>?_,I.base.free,λb o e hx=>?_,I.base.tups,I.base.frzs,I.base.tbls⟩,⟨m,hn.sameBut hs (cb (cne x c hc)),λj y v' e1 e2 e3=>?_⟩,λy c' e=>?_,I.free,I.freeC,λp hp=>?_,tracked ⟨oc,hoc,I.freeC x c hc⟩ hs,by simpa using I.len⟩ ⟨c,hs,.inr hc⟩
  .exact(hs.2 b (Xc (Xn (X3 e) (I.ok.cab x c hfn hc)))).trans (I.base.keep b o e n hb hx)
  .obtain⟨sl,e1⟩:=I.base.slot b o e n hb hx;exact⟨sl,(hs.2 b (Xc (Xn (X3 e) (I.ok.cab x c hfn hc)))).trans e1⟩
  .obtain⟨o',e1⟩:=I.base.there b o e hx;exact⟨o',(hs.2 b (Xc (Xn (X3 e) (I.ok.cab x c hfn hc)))).trans e1⟩
  .by_cases hj:j=i
   .subst hj;rw[hi]at e1;cases e1;rw[T5 hiσ]at e2;cases e2;exact⟨u,r,.inr ⟨.inl hk,c,hc,hc'⟩⟩
   .rw[cQ (cb hj)]at e2;obtain⟨u',r',q⟩:=hl j y v' e1 e2 e3;refine⟨u',r',?_⟩;rcases q with q|⟨k,c',e,z'⟩
    .exact .inl q
    .refine .inr ⟨k,c',e,z'.sameBut hs ?_⟩;rintro rfl;exact hj (j1k hN e1 (I.ok.inj _ _ _ e hc▸hi))
  .by_cases hcc:c'=c
   .subst hcc;exact⟨_,hc'⟩
   .obtain⟨w2,z2⟩:=I.cell y c' e;exact⟨w2,z2.sameBut hs hcc⟩
  .obtain⟨e,n,ne,nf,d⟩:=I.pin p hp;refine⟨(hs.2 p.1 ?_).trans e,n,ne,nf,d⟩;intro q;rw[q,hoc]at e;have q':oc=p.2:=aw e;exact d w' (by rw[<-q'];exact hocd)
theorem Ri{M:kN}{A:aB}{E:k9e}{i:Nat}{x:ah}{v:V}{u:aa}{Q:Unit->af->Prop}(I:Inv X pins σ H s)(hN:X.N.Nodup)(hi:X.N[i]?=a3 x)(hx:Loc X.env.scope x)(r:RelV v u)
  (h:∀s',Inv X pins (σ.set i (a3 v)) H s'->Q () s') (hf:X.fn x=a6\/X.env.scope.names.lookup x=a3 .local:=by first|exact .inl rfl|exact .inr rfl|assumption):ar M A (storeName X.env x u) Q E s :=
 Iw I hN hi hx r (λs' I' _=>h s' I') hf
theorem Inv.call'{s':af}{ch:List ae}(I:Inv X pins σ H s)(ho:s'.os=s.os)(u:Un (frs X.stack) ch H H' s.heap s'.heap)(hok:HOk X.prog X.w H' s'.heap)(hg:dS s'.gens)
  (hch:∀b∈ch,(b∈X.ex\/X.s₀.heap.objs.size<=b)/\b≠X.env.locals/\(∀x c,X.env.cells.lookup x=a3 c->c≠b)/\∀p∈X.pn++pins,p.1≠b):Inv X pins σ H' s':=by
 obtain⟨h',g',d',t',o'⟩:=s';have e:o'=s.os:=ho;subst e;exact I.call (g':=g') (t':=t') (d':=d') u hok hg hch
end
abbrev XK:=aa->Option ae->Hp->Prop
noncomputable abbrev St:=List (Option V)
abbrev VK:=V->Hp->Prop
abbrev TE:=St->Hp->VK->Prop
abbrev TT:=St->Hp->(Bool->Hp->Prop)->Prop
abbrev TA:=St->Hp->(List V->Hp->Prop)->Prop
structure Ends where
 nx:St->Hp->Prop
 rt:VK
 bk:St->Hp->Prop:=λ_ _=>False
 ct:St->Hp->Prop:=λ_ _=>False
abbrev TS:=Ends->St->Hp->Prop
def EP(X:Cx)(pins:k9f)(σ:St)(Q:VK)(u:aa)(s':af):Prop:=∃v H',Inv X pins σ H' s'/\RelV v u/\Q v H'
def TP(X:Cx)(pins:k9f)(σ:St)(Q:Bool->Hp->Prop)(b:Bool)(s':af):Prop:=∃H',Inv X pins σ H' s'/\Q b H'
def AP(X:Cx)(pins:k9f)(σ:St)(Q:List V->Hp->Prop)(us:List aa)(s':af):Prop:=∃vs H',Inv X pins σ H' s'/\Vals vs us/\Q vs H'
def Ext(X:Cx)(H1 H2:Hp)(s':af):Prop:=∀b,H2 b=H1 b\/∃x o v,X.env.cells.lookup x=a3 b/\X.fn x=a6/\H2 b=a3 (.frz o (.own 0))/\s'.heap.get? b=a3 o/\o.data=.cell v
theorem Ext.refl{X:Cx}{H:Hp}{s':af}:Ext X H H s':=λ_=>.inl rfl
def SP(X:Cx)(pins:k9f)(D:Ends)(f:Flow)(s':af):Prop :=
 match f with
 |.next=>∃σ' H',Inv X pins σ' H' s'/\D.nx σ' H'
 |.brk=>∃σ' H',Inv X pins σ' H' s'/\D.bk σ' H'
 |.cont=>∃σ' H',Inv X pins σ' H' s'/\D.ct σ' H'
 |.ret u=>∃v σ' H' H2,Inv X pins σ' H' s'/\RelV v u/\Ext X H' H2 s'/\D.rt v H2
def PE(X:Cx)(e:aj)(t:TE):Prop :=
 ∀(pins:k9f) (s:af) (σ:St) (H:Hp) (Q:VK),Inv X pins σ H s->t σ H Q->ar (ax X.prog X.w) X.A (ay e X.env) (EP X pins σ Q) X.xe s
def PT(X:Cx)(e:aj)(t:TT):Prop :=
 ∀(pins:k9f) (s:af) (σ:St) (H:Hp) (Q:Bool->Hp->Prop),Inv X pins σ H s->t σ H Q->ar (ax X.prog X.w) X.A (fM e X.env (ay e X.env)) (TP X pins σ Q) X.xe s
def PW(X:Cx)(e:aj)(t:TT):Prop :=
 ∀(whole:mL aa)(pins:k9f) (s:af) (σ:St) (H:Hp) (Q:Bool->Hp->Prop),Inv X pins σ H s->t σ H Q->ar (ax X.prog X.w) X.A (fM e X.env whole) (TP X pins σ Q) X.xe s
def PA(X:Cx)(es:List aj)(t:TA):Prop :=
 ∀(pos:aM)(pins:k9f) (s:af) (σ:St) (H:Hp) (Q:List V->Hp->Prop),Inv X pins σ H s->t σ H Q->ar (ax X.prog X.w) X.A (hJ (aL pos (a8 es X.env))) (AP X pins σ Q) X.xe s
def PS(X:Cx)(st:aX)(t:TS):Prop :=
 ∀(pins:k9f) (s:af) (σ:St) (H:Hp) (D:Ends),Inv X pins σ H s->t D σ H->ar (ax X.prog X.w) X.A (exec st X.env) (SP X pins D) X.xe s
def PSs(X:Cx)(st:List aX)(t:TS):Prop :=
 ∀(pins:k9f) (s:af) (σ:St) (H:Hp) (D:Ends),Inv X pins σ H s->t D σ H->ar (ax X.prog X.w) X.A (execs st X.env) (SP X pins D) X.xe s
theorem thn{α:Type}{t:mL α}{Q Q':α->af->Prop}{M:kN}{A:aB}{E:k9e}{s:af}(h:ar M A t Q E s)(hQ:∀a s,Q a s->Q' a s):ar M A t Q' E s:=bL h hQ λ_ _ x=>x
section
variable{X:Cx}
theorem bin{a b:aj}{ta tb:TE}(ha:PE X a ta)(hb:PE X b tb){pins:k9f}{s:af}{σ:St}{H:Hp}{R:V->V->Hp->Prop}(I:Inv X pins σ H s)(h:ta σ H λx H1=>tb σ H1 λy H2=>R x y H2)
  {α:Type} {Q:α->af->Prop} {f:aa->aa->mL α}
  (hf:∀v u s2 x y H2,Inv X pins σ H2 s2->RelV x v->RelV y u->R x y H2->ar (ax X.prog X.w) X.A (f v u) Q X.xe s2) :
  ar (ax X.prog X.w) X.A (ay a X.env) (λv s₁=>ar (ax X.prog X.w) X.A (ay b X.env) (λu s₂=>ar (ax X.prog X.w) X.A (f v u) Q X.xe s₂) X.xe s₁) X.xe s:=by
 refine thn (ha pins s σ H _ I h) λv s1 ⟨x,H1,I1,r1,q1⟩=>?_;refine thn (hb pins s1 σ H1 _ I1 q1) λu s2 ⟨y,H2,I2,r2,q2⟩=>?_;exact hf v u s2 x y H2 I2 r1 r2 q2
def jn1(i:Nat):TE:=λσ H Q=>∃v,σ[i]?=a3 (a3 v)/\Q v H
def tC(v:V):TE:=λ_ H Q=>Q v H
theorem vo {i:Nat} {x:ah} {pos:aM} (hN:X.N[i]?=a3 x) (hv:Vis X.env.scope x) (hd:(x==k9h)=a4:=by decide) (hcd:(x==k9i)=a4:=by decide):PE X (.Name x pos) (jn1 i):=by
 intro pins s σ H Q I h;obtain⟨v,e,h⟩:=h;obtain⟨m,hn,hl⟩:=I.loc;obtain⟨u,r,l⟩:=hl i x v hN e hv;have fin:EP X pins σ Q u s:=⟨v,H,I,r,h⟩
 rcases l with ⟨hk,hm⟩|⟨hk,c,hc,hcell⟩
 .exact kv (wpAny_loadName_local I.ok.kind hk hn hm fin) hd
 .rcases hk with hk|hk
  .exact kv (wpAny_loadName_cell I.ok.kind hk hc hcell fin) hd
  .exact kv (wpAny_loadName_free I.ok.kind hk hc hcell fin hcd) hd
theorem jhd{i j pos}:PE X (.Constant (.int i) j pos) (tC (.int i)):=λ_ _ _ H _ I h=>wpAny_Constant_int ⟨.int i,H,I.tok _,⟨_,rfl⟩,h⟩
theorem jlh{b j pos}:PE X (.Constant (.bool b) j pos) (tC (.bl b)):=λ_ _ _ H _ I h=>Constant_bool ⟨.bl b,H,I,rfl,h⟩
theorem j1g{j pos}:PE X (.Constant .none j pos) (tC .non):=λ_ _ _ H _ I h=>mN ⟨.non,H,I,rfl,h⟩
theorem j6y{x j pos}:PE X (.Constant (.str x) j pos) (tC (.str x)):=λ_ _ _ H _ I h=>Calls.Constant_str ⟨.str x,H,I.tok _,⟨_,rfl⟩,h⟩
def Gl(X:Cx)(x:ah):Prop:=X.env.kindOf x=a3 .globalImplicit
theorem U4{E:k9e}{pins:k9f}{s:af}{σ:St}{H:Hp}{x:ah}{u:aa}{pos:aM}{Q:k9e}(I:Inv X pins σ H s)(hg:Gl X x)(hm:X.mg x=a3 u)(h:Q u s)
  (hd:(x==k9h)=a4:=by decide):ar (ax X.prog X.w) X.A (ay (.Name x pos) X.env) Q E s :=
 fW I.ok.kind hg (Calls.loadGlobal_global (by rw[I.ok.glob];exact I.mod.glob.keeps I.bk) hm h) hd
theorem Ql{E:k9e}{pins:k9f}{s:af}{σ:St}{H:Hp}{x:ah}{u:aa}{pos:aM}{Q:k9e}(I:Inv X pins σ H s)(hg:Gl X x)(hm:X.mg x=a9)(hv:b7 x=a3 u)(h:Q u s)
  (hn:x ≠ "__name__":=by decide) (hd:(x==k9h)=a4:=by decide):ar (ax X.prog X.w) X.A (ay (.Name x pos) X.env) Q E s:=by
 obtain⟨mb,h1,h2⟩:=I.mod.blt;exact fW I.ok.kind hg (Calls.loadGlobal_builtin (by rw[I.ok.glob];exact I.mod.glob.keeps I.bk) hm (by rw[I.ok.blt];exact h1.keeps I.bk) ((h2 x hn).trans hv) h) hd
theorem je1 {x:ah} {v:V} {u:aa} {pos:aM} (hg:Gl X x) (hm:X.mg x=a3 u) (r:RelV v u) (hd:(x==k9h)=a4:=by decide):PE X (.Name x pos) (tC v) :=
 λ_ _ _ H _ I h=>U4 I hg hm ⟨v,H,I,r,h⟩ hd
theorem je2 {x:ah} {v:V} {u:aa} {pos:aM} (hg:Gl X x) (hm:X.mg x=a9) (hv:b7 x=a3 u) (r:RelV v u) (hn:x ≠ "__name__":=by decide) (hd:(x==k9h)=a4:=by decide):PE X (.Name x pos) (tC v) :=
 λ_ _ _ H _ I h=>Ql I hg hm hv ⟨v,H,I,r,h⟩ hn hd
variable{a b:aj}{ta tb:TE}{pos:aM}
def PC(X:Cx)(op:g9)(a b:aj)(t:TE):Prop :=
 ∀(pins:k9f) (s:af) (σ:St) (H:Hp) (Q:VK),Inv X pins σ H s->t σ H Q ->
  ar (ax X.prog X.w) X.A (ay a X.env) (λv s₁=>ar (ax X.prog X.w) X.A (ay b X.env) (λu s₂=>ar (ax X.prog X.w) X.A (aO op v u) (EP X pins σ Q) X.xe s₂) X.xe s₁) X.xe s
theorem j1l(b:aj){op:g9}(h:op≠.In)(h2:op≠.NotIn):aH op b=a4:=by
 have e1:(op==CmpOp.In)=a4:=by cases op<;>first|rfl|exact absurd rfl h
 have e2:(op==CmpOp.NotIn)=a4:=by cases op<;>first|rfl|exact absurd rfl h2
 cases b<;>simp[aH,e1,e2]
def jn9(ta:TE):TE:=λσ H Q=>ta σ H λx H1=>Q (.bl (decide (x=.non))) H1
theorem RelV.none_iff{x:V}{v:aa}(r:RelV x v):(v==aQ)=decide (x=.non):=by
 cases x with
 |non=>cases r;rfl
 |bl _=>cases r;rfl
 |int _=>obtain⟨t,rfl⟩:=r;rfl
 |str _=>obtain⟨t,rfl⟩:=r;rfl
 |byt _=>obtain⟨t,rfl⟩:=r;rfl
 |flt _=>obtain⟨t,rfl⟩:=r;rfl
 |ref _=>cases r;rfl
 |ty _=>cases r;rfl
theorem j71{j pos'}(ha:PE X a ta):PC X .Is a (.Constant .none j pos') (jn9 ta):=by intro pins s σ H Q I h;refine thn (ha pins s σ H _ I h) λv s1 ⟨x,H1,I1,r1,q1⟩=>?_;exact mN (is_none_gen ⟨.bl _,H1,I1,by rw[r1.none_iff];rfl,q1⟩)
def tB(t:TE):TT:=λσ H Q=>t σ H λx H1=>∃c,x=.bl c/\Q c H1
theorem jhe{op:g9}{t:TE}(h:PC X op a b t)(h1:aH op b=a4:=by first|exact j1l _ (by decide) (by decide)|rfl):PE X (.Compare a [op] [b] pos) t:=λpins s σ H Q I hw=>mr (h pins s σ H Q I hw) h1
theorem jh6{op:g9}{t:TE}(h:PC X op a b t)(h1:aH op b=a4:=by first|exact j1l _ (by decide) (by decide)|rfl):PT X (.Compare a [op] [b] pos) (tB t):=by intro pins s σ H Q I hw;refine jN (thn (h pins s σ H _ I hw) λv s1 h1=>thn h1 λu s2 h2=>thn h2 λc s3 ⟨x,H1,I1,r1,q1⟩=>?_) h1;obtain⟨d,rfl,q⟩:=q1;cases r1;exact bc ⟨H1,I1,q⟩
theorem jh4{e:aj}{t:TE}(h:PE X e t)(he:∀whole,fM e X.env whole=(do let v <-whole;fY e.pos;cF [v] (truthy v)):=by intro _;rfl):PT X e (tB t):=by intro pins s σ H Q I hw;refine isTrue_plain (thn (h pins s σ H _ I hw) λv s1 ⟨x,H1,I1,r1,q1⟩=>?_) (he _);obtain⟨d,rfl,q⟩:=q1;cases r1;exact bc ⟨H1,I1,q⟩
variable{tA tB':TT}{rest:List aj}
def jnd(t u:TT):TT:=λσ H Q=>t σ H λc H1=>if c=a6 then u σ H1 Q else Q a4 H1
def tOr(t u:TT):TT:=λσ H Q=>t σ H λc H1=>if c=a6 then Q a6 H1 else u σ H1 Q
def jn6(t:TT):TT:=λσ H Q=>t σ H λc H1=>Q (!c) H1
theorem jdu(ha:PT X a tA):PW X (.BoolOp .And [a] pos) tA:=by
 intro wh pins s σ H Q I h;refine isTrue_and (thn (ha pins s σ H Q I h) λc s1 e=>?_);cases c with
 |true=>exact isTrue_and_nil e
 |false=>exact e
theorem jh2(ha:PT X a tA):PW X (.BoolOp .Or [a] pos) tA:=by
 intro wh pins s σ H Q I h;refine isTrue_or (thn (ha pins s σ H Q I h) λc s1 e=>?_);cases c with
 |false=>exact isTrue_or_nil e
 |true=>exact e
theorem jh3(ha:PT X a tA)(hb:PW X (.BoolOp .And (b::rest) pos) tB'):PW X (.BoolOp .And (a::b::rest) pos) (jnd tA tB'):=by
 intro wh pins s σ H Q I h;refine isTrue_and (thn (ha pins s σ H _ I h) λc s1 ⟨H1,I1,q1⟩=>?_);cases c with
 |true=>exact hb wh pins s1 σ H1 Q I1 q1
 |false=>exact⟨H1,I1,q1⟩
theorem jle(ha:PT X a tA)(hb:PW X (.BoolOp .Or (b::rest) pos) tB'):PW X (.BoolOp .Or (a::b::rest) pos) (tOr tA tB'):=by
 intro wh pins s σ H Q I h;refine isTrue_or (thn (ha pins s σ H _ I h) λc s1 ⟨H1,I1,q1⟩=>?_);cases c with
 |true=>exact⟨H1,I1,q1⟩
 |false=>exact hb wh pins s1 σ H1 Q I1 q1
theorem jh5(ha:PT X a tA):PT X (.UnaryOp .Not a pos) (jn6 tA):=by intro pins s σ H Q I h;exact isTrue_not (ha pins s σ H (λc H1=>Q (!c) H1) I h)
def jl2(ta tb:TE):TE:=λσ H Q=>ta σ H λx H1=>∃c,x=.bl c/\if c=a6 then tb σ H1 Q else Q (.bl a4) H1
theorem j6z{op}{t:TE}(h:PE X a t):PE X (.BoolOp op [a] pos) t:=λpins s σ H Q I hw=>BoolOp_one (h pins s σ H Q I hw)
theorem jhg(ha:PE X a ta)(hb:PE X (.BoolOp .And (b::rest) pos) tb):PE X (.BoolOp .And (a::b::rest) pos) (jl2 ta tb):=by
 intro pins s σ H Q I h;refine BoolOp_and (thn (ha pins s σ H _ I h) λv s1 ⟨x,H1,I1,r1,q1⟩=>?_);obtain⟨c,rfl,q1⟩:=q1;cases r1;refine bc ?_;cases c with
 |true=>exact hb pins s1 σ H1 Q I1 q1
 |false=>exact⟨.bl a4,H1,I1,rfl,q1⟩
def tIf(t:TT)(ta tb:TE):TE:=λσ H Q=>t σ H λc H1=>if c=a6 then ta σ H1 Q else tb σ H1 Q
theorem j9n{c:aj}(hc:PT X c tA)(ha:PE X a ta)(hb:PE X b tb):PE X (.IfExp c a b pos) (tIf tA ta tb):=by
 intro pins s σ H Q I h;refine wpAny_IfExp (thn (hc pins s σ H _ I h) λd s1 ⟨H1,I1,q1⟩=>?_);cases d with
 |true=>exact ha pins s1 σ H1 Q I1 q1
 |false=>exact hb pins s1 σ H1 Q I1 q1
end
def SqL(K:k9d)(H:Hp)(a:ae)(xs:List V):Prop :=
 Rd H a (.lst xs) \/
  ∃(o:dw)(its:Array aa)(n:Nat),K.lookup a=a3 o/\o.cls=.type "list"/\o.dict=a9/\o.data=.seq its n/\its.size<=ak/\Vals xs its.toList
def SqT(K:k9d)(H:Hp)(a:ae)(xs:List V):Prop :=
 Rd H a (.tup xs) \/
  ∃(o:dw)(its:Array aa)(n:Nat),K.lookup a=a3 o/\o.cls=.type "tuple"/\o.dict=a9/\o.data=.seq its n/\its.size<=ak/\Vals xs its.toList
noncomputable def jo5:aa->Option V
 |.none=>a3 .non
 |.bool b=>a3 (.bl b)
 |.int i _=>a3 (.int i)
 |.str x _=>a3 (.str x)
 |.bytes b _=>a3 (.byt b)
 |.float b _=>a3 (.flt b)
 |.ref a=>a3 (.ref a)
 |.type n=>a3 (.ty n)
 |_=>a9
theorem RelV.abs{x:V}{u:aa}(r:RelV x u):jo5 u=a3 x:=by
 cases x with
 |non=>cases r;rfl
 |bl _=>cases r;rfl
 |int _=>obtain⟨t,rfl⟩:=r;rfl
 |str _=>obtain⟨t,rfl⟩:=r;rfl
 |byt _=>obtain⟨t,rfl⟩:=r;rfl
 |flt _=>obtain⟨t,rfl⟩:=r;rfl
 |ref _=>cases r;rfl
 |ty _=>cases r;rfl
theorem RelV.inj{x y:V}{u:aa}(r:RelV x u)(q:RelV y u):x=y:=aw (r.abs.symm.trans q.abs)
theorem Vals.inj:∀{xs ys:List V}{us:List aa},Vals xs us->Vals ys us->xs=ys
 |_,_,_,.nil,.nil=>rfl
 |_,_,_,.cons r t,.cons r' t'=>by rw[r.inj r',Vals.inj t t']
section
variable{X:Cx}{pins:k9f}{σ:St}{H:Hp}{s:af}{a:ae}{xs ys:List V}
theorem Inv.list(I:Inv X pins σ H s)(h:SqL X.K H a xs):∃its:List aa,Vals xs its/\PlainL s.heap a its.toArray/\xs.length<=ak:=by
 rcases h with h|⟨o,its,n,hk,hc,hd,hs,hz,r⟩
 .obtain⟨z,its,n,r,e⟩:=h.ok I.hok;exact⟨its,r,⟨_,n,e,rfl,rfl,rfl⟩,z⟩
 .refine⟨its.toList,r,⟨o,n,I.kIn a o hk,hc,hd,by simpa using hs⟩,?_⟩;have e:=r.length;simp only[c9]at e;omega
theorem Inv.tuple(I:Inv X pins σ H s)(h:SqT X.K H a xs):∃its:List aa,Vals xs its/\ig s.heap a its.toArray/\xs.length<=ak:=by
 rcases h with h|⟨o,its,n,hk,hc,hnd,hs,hz,r⟩
 .obtain⟨z,its,r,p,_⟩:=h.ok I.hok;exact⟨its,r,p,z⟩
 .refine⟨its.toList,r,⟨o,I.kIn a o hk,hc,n,by simpa using hs⟩,?_⟩;have e:=r.length;simp only[c9]at e;omega
theorem Inv.tupD(I:Inv X pins σ H s)(h:SqT X.K H a xs):Vg s.heap a:=by
 rcases h with h|⟨o,its,n,hk,hc,hnd,hs,hz,r⟩
 .obtain⟨z,its,r,p,q⟩:=h.ok I.hok;exact q
 .intro o' e;rw[I.kIn a o hk]at e;cases e;exact hnd
theorem Inv.list_inj(I:Inv X pins σ H s)(h:SqL X.K H a xs)(h':SqL X.K H a ys):xs=ys:=by
 obtain⟨its,r,⟨o,n,e,_,_,d⟩,_⟩:=I.list h;obtain⟨its',r',⟨o',n',e',_,_,d'⟩,_⟩:=I.list h';rw[e]at e';cases e';rw[d]at d';injection d' with d1 _;have:its=its':=by simpa using congrArg kF d1
 subst this;exact r.inj r'
theorem Inv.tuple_inj(I:Inv X pins σ H s)(h:SqT X.K H a xs)(h':SqT X.K H a ys):xs=ys:=by
 obtain⟨its,r,⟨o,e,_,n,d⟩,_⟩:=I.tuple h;obtain⟨its',r',⟨o',e',_,n',d'⟩,_⟩:=I.tuple h';rw[e]at e';cases e';rw[d]at d';injection d' with d1 _;have:its=its':=by simpa using congrArg kF d1
 subst this;exact r.inj r'
end
noncomputable abbrev Cx.wish(X:Cx)(E:k9e):Cx:={ X with xe:=E }
noncomputable abbrev Cx.nox(X:Cx):Cx:=X.wish λ_ _=>False
theorem Cx.Ok.wish{X:Cx}(ok:X.Ok)(E:k9e):(X.wish E).Ok :=
 ⟨ok.mod,ok.kind,ok.glob,ok.blt,ok.above,ok.inj,ok.has,ok.cab,ok.hd,ok.frames,ok.stk,ok.exf,ok.bs,ok.bsz,ok.noex,ok.exfs,ok.funs,ok.frf⟩
theorem Cx.Ok.unwish{X:Cx}{E:k9e}(ok:(X.wish E).Ok):X.Ok :=
 ⟨ok.mod,ok.kind,ok.glob,ok.blt,ok.above,ok.inj,ok.has,ok.cab,ok.hd,ok.frames,ok.stk,ok.exf,ok.bs,ok.bsz,ok.noex,ok.exfs,ok.funs,ok.frf⟩
section
variable{X:Cx}{pins:k9f}{σ:St}{H:Hp}{s:af}{E:k9e}
theorem Inv.wish(I:Inv X pins σ H s)(E:k9e):Inv (X.wish E) pins σ H s:=⟨I.ok.wish E,I.os,I.bare,I.base,I.loc,I.cell,I.free,I.freeC,I.pin,I.hok,I.len⟩
theorem Inv.unwish(I:Inv (X.wish E) pins σ H s):Inv X pins σ H s:=⟨I.ok.unwish,I.os,I.bare,I.base,I.loc,I.cell,I.free,I.freeC,I.pin,I.hok,I.len⟩
theorem SP.unwish{D:Ends}{f:Flow}{s':af}(h:SP (X.wish E) pins D f s'):SP X pins D f s':=by
 cases f with
 |next=>obtain⟨σ',H',I,q⟩:=h;exact⟨σ',H',I.unwish,q⟩
 |brk=>obtain⟨σ',H',I,q⟩:=h;exact⟨σ',H',I.unwish,q⟩
 |cont=>obtain⟨σ',H',I,q⟩:=h;exact⟨σ',H',I.unwish,q⟩
 |ret u=>obtain⟨v,σ',H',H2,I,r,x,q⟩:=h;exact⟨v,σ',H',H2,I.unwish,r,x,q⟩
theorem PSs.nox{st:List aX}{t:TS}(h:PSs X.nox st t):PSs X st t:=λpins s σ H D I hw =>bL (h pins s σ H D (I.wish _) hw) (λ_ _ q=>q.unwish) λ_ _ z=>aR z
end
section
variable{X:Cx}{st:aX}{rest:List aX}{t u:TS}{e:aj}{te:TE}{pos:aM}
def jky:TS:=λD σ H=>D.nx σ H
def jn3(t u:TS):TS:=λD σ H=>t { D with nx:=u D } σ H
theorem jdv:PSs X [] jky:=λ_ _ σ H _ I h=>eO ⟨σ,H,I,h⟩
theorem Vm(h1:PS X st t)(h2:PSs X rest u):PSs X (st::rest) (jn3 t u):=by
 intro pins s σ H D I h;refine lq (thn (h1 pins s σ H { D with nx:=u D } I h) λf s1 q=>?_);cases f with
 |next =>obtain⟨σ',H',I',q⟩:=q;exact h2 pins s1 σ' H' D I' q
 |ret v=>exact q
 |brk=>exact q
 |cont=>exact q
theorem Bk(h1:PS X st t):PSs X [st] t:=by
 intro pins s σ H D I h;refine lq (thn (h1 pins s σ H D I h) λf s1 q=>?_);cases f with
 |next=>exact eO q
 |ret v=>exact q
 |brk=>exact q
 |cont=>exact q
theorem Inv.quiet{pins:k9f}{σ:St}{H:Hp}{s:af}(I:Inv X pins σ H s):interactive X.env=a4:=by simp[interactive,I.ok.kind]
def jkz(te:TE):TS:=λD σ H=>te σ H λ_ H1=>D.nx σ H1
theorem Wy(he:PE X e te)(hs:aK e a9 pos.line X.env=pure a4:=by rfl):PS X (.Expr e pos) (jkz te):=by intro pins s σ H D I h;exact wpAny_Expr_any (thn (he pins s σ H _ I h) λv s1 ⟨x,H1,I1,r1,q1⟩=>⟨σ,H1,I1,q1⟩) I.quiet hs
def jn4(te:TE):TS:=λD σ H=>te σ H D.rt
theorem Wx(he:PE X e te):PS X (.Return (a3 e) pos) (jn4 te):=by intro pins s σ H D I h;exact kL (thn (he pins s σ H _ I h) λv s1 ⟨x,H1,I1,r1,q1⟩=>⟨x,σ,H1,H1,I1,r1,.refl,q1⟩)
def jna(c:TT)(t u:TS):TS:=λD σ H=>c σ H λb H1=>if b=a6 then t D σ H1 else u D σ H1
theorem jlf{c:aj}{a b:List aX}{tc:TT}(hc:PT X c tc)(ha:PSs X a t)(hb:PSs X b u):PS X (.If c a b pos) (jna tc t u):=by
 intro pins s σ H D I h;refine wpAny_If (thn (hc pins s σ H _ I h) λd s1 ⟨H1,I1,q1⟩=>?_);cases d with
 |true=>exact ha pins s1 σ H1 D I1 q1
 |false=>exact hb pins s1 σ H1 D I1 q1
end
abbrev TG:=V->St->Hp->(St->Hp->Prop)->Prop
abbrev TGs:=List V->St->Hp->(St->Hp->Prop)->Prop
def PG(X:Cx)(target:aj)(t:TG):Prop :=
 ∀(pins:k9f) (s:af) (σ:St) (H:Hp) (v:V) (u:aa) (Q:St->Hp->Prop),Inv X pins σ H s->RelV v u->t v σ H Q ->
  ar (ax X.prog X.w) X.A (cU target X.env u) (λ_ s'=>∃σ' H',Inv X pins σ' H' s'/\Q σ' H') X.xe s
def PGs(X:Cx)(ts:List aj)(t:TGs):Prop :=
 ∀(pins:k9f) (s:af) (σ:St) (H:Hp) (vs:List V) (us:List aa) (Q:St->Hp->Prop),Inv X pins σ H s->Vals vs us->t vs σ H Q ->
  ar (ax X.prog X.w) X.A (iL ((bj ts X.env).map (·.2)) us) (λ_ s'=>∃σ' H',Inv X pins σ' H' s'/\Q σ' H') X.xe s
abbrev j5v:=V->V->V->Hp->(Hp->Prop)->Prop
def jkq(X:Cx)(t:j5v):Prop :=
 ∀(pins:k9f) (s:af) (σ:St) (H:Hp) (o i v:V) (ov iv u:aa) (Q:Hp->Prop),Inv X pins σ H s->RelV o ov->RelV i iv->RelV v u->t o i v H Q ->
  ar (ax X.prog X.w) X.A (setItem ov iv u) (λ_ s'=>∃H',Inv X pins σ H' s'/\Q H') X.xe s
section
variable{X:Cx}{pos:aM}
def jck(i:Nat):TG:=λv σ H Q=>Q (σ.set i (a3 v)) H
theorem V4{i:Nat}{x:ah}(hN:X.N.Nodup)(hi:X.N[i]?=a3 x)(hx:Loc X.env.scope x)(hf:X.fn x=a6\/X.env.scope.names.lookup x=a3 .local:=by first|exact .inl rfl|exact .inr rfl|assumption):PG X (.Name x pos) (jck i):=by intro pins s σ H v u Q I r h;exact kK (Ri I hN hi hx r (λs' I'=>⟨_,H,I',h⟩) hf)
def jnv:TGs:=λvs σ H Q=>vs=[]/\Q σ H
def jm4(t:TG)(u:TGs):TGs:=λvs σ H Q=>∃v r,vs=v::r/\t v σ H λσ' H'=>u r σ' H' Q
theorem j3p:PGs X [] jnv:=by intro pins s σ H vs us Q I r h;obtain⟨e,h⟩:=h;subst e;cases r;exact kO ⟨σ,H,I,h⟩
theorem Ug{e:aj}{es:List aj}{t:TG}{u:TGs}(h1:PG X e t)(h2:PGs X es u)
  (hs:(bj (e::es) X.env).map (·.2)=cU e X.env::(bj es X.env).map (·.2):=by rfl):PGs X (e::es) (jm4 t u):=by
 intro pins s σ H vs us Q I r h;obtain⟨v,vr,e1,h⟩:=h;subst e1;cases r with
 |cons r rr =>rw[hs];refine fP (thn (h1 pins s σ H _ _ _ I r h) λ_ s1 ⟨σ1,H1,I1,q1⟩=>?_);exact h2 pins s1 σ1 H1 _ _ Q I1 rr q1
def jnt(K:k9d)(n:Nat)(t:TGs):TG:=λv σ H Q=>∃a xs,v=.ref a/\SqT K H a xs/\xs.length=n/\t xs σ H Q
theorem j6w{es:List aj}{k:Nat}{t:TGs}{n:Nat}(hc:X.calm=a6)(h:PGs X es t)
  (hn:(bj es X.env).length=n:=by rfl) (hst:(bj es X.env).findIdx? (·.1)=a9:=by rfl):PG X (.Tuple es k pos) (jnt X.K n t):=by
 intro pins s σ H v u Q I r hw;obtain⟨a,xs,e1,hq,hl,hw⟩:=hw;subst e1;cases r;obtain⟨its,rv,ht,hz⟩:=I.tuple hq;refine assign_Tuple_tuple (I.ok.hd hc) ht (by simp[hn,<-hl,rv.length]) hst λh' hx=>?_;have I1:Inv X pins σ H { s with heap:=h' }:=I.kept (t':=s.toks) λb o e=>hx b o (Xc (X3 e)) e;exact h pins _ σ H xs _ Q I1 (by simpa using rv) hw
def jnu(to ti:TE)(t:j5v):TG:=λv σ H Q=>to σ H λo H1=>ti σ H1 λi H2=>t o i v H2 λH3=>Q σ H3
theorem jhb{o i:aj}{to ti:TE}{t:j5v}(ho:PE X o to)(hi:PE X i ti)(hs:jkq X t)
  (ha:∀v,cU (.Subscript o i pos) X.env v=(do
   let ov <-cF [v] (ay o X.env)
   let iv <-cF [v,ov] (ay i X.env)
   fY pos
   cF [v,ov,iv] (setItem ov iv v)
   release [v,ov,iv] []):=by intro _;rfl):PG X (.Subscript o i pos) (jnu to ti t):=by
 intro pins s σ H v u Q I r h;rw[ha];refine a7 (bx (thn (ho pins s σ H _ I h) λov s1 ⟨x,H1,I1,r1,q1⟩=>?_));refine a7 (bx (thn (hi pins s1 σ H1 _ I1 q1) λiv s2 ⟨y,H2,I2,r2,q2⟩=>?_));refine a7 (dU (a7 (bx (thn (hs pins s2 σ H2 x y v ov iv u _ I2 r1 r2 r q2) λ_ s3 ⟨H3,I3,q3⟩=>?_))));exact wpAny_release ⟨σ,H3,I3,q3⟩
def jgg(te:TE)(g:TG):TS:=λD σ H=>te σ H λx H1=>g x σ H1 D.nx
theorem j6p{tg e:aj}{te:TE}{g:TG}(he:PE X e te)(hg:PG X tg g)(hs:bQ [tg] e pos.line X.env=pure a4:=by rfl)(hw:bR [tg] e X.env=pure a9:=by rfl)
  (h1:(bj [tg] X.env).map (·.2)=[cU tg X.env]:=by rfl):PS X (.Assign [tg] e pos) (jgg te g):=by
 intro pins s σ H D I h;refine wpAny_Assign_stores (thn (he pins s σ H _ I h) λv s1 ⟨x,H1,I1,r1,q1⟩=>?_) hs hw;rw[h1];exact thn (hg pins s1 σ H1 x v _ I1 r1 q1) λ_ s2 q=>q
theorem Uc{i:Nat}{x:ah}{e:aj}{te:TE}{pos':aM}(hN:X.N.Nodup)(hi:X.N[i]?=a3 x)(hx:Loc X.env.scope x)(he:PE X e te)(hs:aK e (a3 (.Name x pos')) pos.line X.env=pure a4:=by rfl)(hf:X.fn x=a6\/X.env.scope.names.lookup x=a3 .local:=by first|exact .inl rfl|exact .inr rfl|assumption) :
  PS X (.Assign [.Name x pos'] e pos) (jgg te (jck i)):=by
 intro pins s σ H D I h;refine wpAny_Assign_Name (thn (he pins s σ H _ I h) λv s1 ⟨y,H1,I1,r1,q1⟩=>?_) hs;exact Ri I1 hN hi hx r1 (λs2 I2=>⟨_,H1,I2,q1⟩) hf
def jn5(i j:Nat)(ta:TA):TS:=λD σ H=>ta σ H λvs H1=>∃v w,vs=[v,w]/\D.nx ((σ.set i (a3 v)).set j (a3 w)) H1
theorem jh7{i j:Nat}{x y:ah}{a b:aj}{ta:TA}{px py pt:aM}{kt k2 pt2}(hc:X.calm=a6)(hN:X.N.Nodup)(hi:X.N[i]?=a3 x)(hj:X.N[j]?=a3 y)(hij:i≠j)
  (hx:X.env.scope.names.lookup x=a3 .local) (hy:X.env.scope.names.lookup y=a3 .local) (ha:PA X [a,b] ta)
  (hw:bR [.Tuple [.Name x px,.Name y py] kt pt] (.Tuple [a,b] k2 pt2) X.env=pure (a3 [x,y]))
  (hs:bQ [.Tuple [.Name x px,.Name y py] kt pt] (.Tuple [a,b] k2 pt2) pos.line X.env=pure a4:=by rfl) :
  PS X (.Assign [.Tuple [.Name x px,.Name y py] kt pt] (.Tuple [a,b] k2 pt2) pos) (jn5 i j ta):=by
 intro pins s σ H D I h;rw[exec_Assign_arm];refine a7 (dU ?_);rw[hs];refine a7 (ai ?_);rw[if_neg (by decide)];refine a7 (Tuple_ (thn (ha _ pins s σ H _ I h) λus s1 ⟨vs,H1,I1,r1,q1⟩=>?_));obtain⟨v,w,e1,q1⟩:=q1;subst e1;obtain⟨u1,u2,rfl,rv,rw'⟩:∃u1 u2,us=[u1,u2]/\RelV v u1/\RelV w u2:=by
  cases r1 with
  |cons p q =>
   cases q with
   |cons p' q' =>cases q';exact⟨_,_,rfl,p,p'⟩
 refine aJ ?_ (by show 2<=ak;decide);have I2:Inv X pins σ H1 { s1 with heap:=s1.heap.push { cls:=.type "tuple",data:=.seq [u1,u2].toArray } }:=I1.kept (t':=s1.toks) λb o e=>xj _ e;rw[hw];refine a7 (ai ?_);show ar (ax X.prog X.w) X.A (do ky "assign.swapped-stores";let items <-unpackItems (.ref s1.heap.objs.size) 2 a9;iL [λv=>jV X.env y v,λv=>jV X.env x v] items.reverse;pure Flow.next) _ _ _;refine a7 (wpAny_rule (a7 (unpackItems_tuple (items:=#[u1,u2]) (I.ok.hd hc) (IsTup.new s1.heap _) λh' hx'=>?_)));have I3:=I2.kept (h':=h') (t':=s1.toks) λb o e=>hx' b o (Xc (X3 e)) e;show ar _ _ (iL [λv=>jV X.env y v,λv=>jV X.env x v] [u2,u1] >>= λ_=>pure Flow.next) _ _ _;refine a7 (fP (mq (Ri I3 hN hj (.inl hy) rw' (λs2 I4=>?_) (.inr hy))));refine fP (mq (Ri I4 hN hi (.inl hx) rv (λs3 I5=>kO (ai ?_)) (.inr hx)));rw[List.set_comm _ _ (cb hij)]at I5;exact⟨_,H1,I5,q1⟩
end
section
variable{X:Cx}{pos:aM}
def jgc(c:TT)(tb:TS):TS:=λD σ H=>∃W:Nat->St->Hp->Prop,(∃m,W m σ H)/\∀m σ H,W m σ H ->
 c σ H λb H1=>if b=a6 then ∃N:St->Hp->Prop,(∀σ' H',N σ' H'->∃m',m'<m/\W m' σ' H')/\tb { D with nx:=N,ct:=N,bk:=D.nx } σ H1 else D.nx σ H1
theorem j9k{c:aj}{body:List aX}{tc:TT}{tb:TS}(hp:dB (ax X.prog X.w) X.A X.env X.xe)(hc:PT X c tc)(hb:PSs X body tb):PS X (.While c body [] pos) (jgc tc tb):=by
 intro pins s σ H D I h;obtain⟨W,⟨m0,w0⟩,turn⟩:=h;refine wpAny_While (codeAny_whileLoop (λn s'=>∃σ' H',Inv X pins σ' H' s'/\W n σ' H') ?_ m0 ⟨σ,H,I,w0⟩);rintro n s1 ⟨σ1,H1,I1,w1⟩;refine bP hp (thn (hc pins s1 σ1 H1 _ I1 (turn n σ1 H1 w1)) λb s2 ⟨H2,I2,q2⟩=>?_);cases b with
 |true =>
  obtain⟨N,hN,q2⟩:=q2;rw[if_pos rfl];refine bP hp (thn (hb pins s2 σ1 H2 _ I2 q2) λf s3 q3=>?_);cases f with
  |next =>obtain⟨σ3,H3,I3,n3⟩:=q3;obtain⟨m',hm,w3⟩:=hN σ3 H3 n3;exact⟨m',hm,σ3,H3,I3,w3⟩
  |cont =>obtain⟨σ3,H3,I3,n3⟩:=q3;obtain⟨m',hm,w3⟩:=hN σ3 H3 n3;exact⟨m',hm,σ3,H3,I3,w3⟩
  |brk=>exact q3
  |ret v=>exact q3
 |false =>rw[if_neg xg];exact eO ⟨σ1,H2,I2,q2⟩
end
structure It where
 go:Nat->Hp->Prop
 yld:Nat->Hp->V->Hp->Prop
 stop:Nat->Hp->Prop
def Zk(X:Cx)(pins:k9f)(H:Hp)(b:ae):Prop :=
 H b=a9/\b≠X.env.locals/\b∉X.fs/\(b∈X.ex\/X.s₀.heap.objs.size<=b)/\(∀x c,X.env.cells.lookup x=a3 c->c≠b)/\∀p∈X.pn++pins,p.1≠b
theorem Inv.fpOk{X:Cx}{pins:k9f}{σ:St}{H H':Hp}{s:af}{b:ae}(I:Inv X pins σ H s)(hb:s.heap.objs.size<=b)(hn:H' b=a9):Zk X pins H' b:=by
 refine⟨hn,Tc (Xn I.lt hb),I.nofs hb,.inr (Xl I.sz hb),λx c e z=>?_,λp hp z=>?_⟩
 .obtain⟨v,q⟩:=I.cell x c e;exact absurd (Xn q.lt (by rw[z];exact hb)) (Pg _)
 .exact absurd (Xn (X3 (I.pin p hp).1) (by rw[z];exact hb)) (Pg _)
structure Turn(P:av)(w:az)(K:k9d)(tg:aj)(J:It)(fp:List ae)(it:ae)(tn:Nat->aC->Prop):Prop where
 mem:it∈fp
 obj:∀i h,tn i h->∀b∈fp,∃o,h.get? b=a3 o/\∀v,o.data≠.cell v
 keep:∀i h h',tn i h->(∀b∈fp,∀o,h.get? b=a3 o->h'.get? b=a3 o)->tn i h'
 item:∀(X:Cx),X.prog=P->X.w=w->X.K=K->X.calm=a6->∀(i:Nat)(pins:k9f) (s:af) (σ:St) (H:Hp) (E:k9e),Inv X pins σ H s->(∀b∈fp,Zk X pins H b)->tn i s.heap->J.go i H ->
  ar (ax P w) X.A (dX (.ref it)) (λr s1=>∃u,r=a3 u /\
   ar (ax P w) X.A (eP tg (.ref it) u) (λ_ s2=>∃x H',Inv X pins σ H' s2/\RelV x u/\J.yld i H x H'/\tn (i+1) s2.heap/\∀b∈fp,H' b=a9) E s1) E s
 done:∀(X:Cx),X.prog=P->X.w=w->X.K=K->X.calm=a6->∀(i:Nat)(pins:k9f) (s:af) (σ:St) (H:Hp) (E:k9e),Inv X pins σ H s->(∀b∈fp,Zk X pins H b)->tn i s.heap->J.stop i H ->
  ar (ax P w) X.A (dX (.ref it)) (λr s1=>r=a9/\Inv X pins σ H s1) E s
 self:∀(A:aB)(i:Nat)(s:af)(Q:k9e)(E:k9e),tn i s.heap->Q (.ref it) s->ar (ax P w) A (ic (.ref it)) Q E s
abbrev TI:=St->Hp->(It->Hp->Prop)->Prop
def PIE(X:Cx)(pins:k9f)(σ:St)(tg:aj)(R:It->Hp->Prop)(itv:aa)(s2:af):Prop :=
 ∃(it:ae)(fp:List ae)(tn:Nat->aC->Prop)(J:It)(H':Hp),itv=.ref it/\Inv X pins σ H' s2/\Turn X.prog X.w X.K tg J fp it tn/\tn 0 s2.heap/\(∀b∈fp,Zk X pins H' b)/\R J H'
def PI(X:Cx)(tg iter:aj)(wi:TI):Prop :=
 ∀(pins:k9f) (s:af) (σ:St) (H:Hp) (R:It->Hp->Prop),Inv X pins σ H s->wi σ H R ->
  ar (ax X.prog X.w) X.A (ay iter X.env) (λv s1=>ar (ax X.prog X.w) X.A (ic v) (PIE X pins σ tg R) X.xe s1) X.xe s
theorem j0g{M:kN}{A:aB}{E:k9e}{s:af}{tg:aj}{it:ae}{u:aa}{o:dw}{n:String}{vs:Array aa}{Q:Unit->af->Prop}(ho:s.heap.get? it=a3 o)(hc:o.cls=.type n)(hd:o.data=.fields vs)
  (hn:["enumerate","zip","dict_itemiterator","dict_reverseitemiterator","odict_iterator","itertools.zip_longest","itertools.pairwise"].contains n=a4) (hQ:Q () s):ar M A (eP tg (.ref it) u) Q E s:=by
 unfold eP;cases tg<;>first
  |exact ai hQ
  |(cases u<;>first
    |exact ai hQ
    |(refine a7 (wpAny_load ho ?_);rw[hc,hd];show ar M A (if (["enumerate","zip","dict_itemiterator","dict_reverseitemiterator","odict_iterator","itertools.zip_longest","itertools.pairwise"].contains n&&vs[0]?==a3 (dW _))=a6 then _ else _) Q E s;rw[if_neg (by intro h;rw[hn,gn]at h;cases h)];exact ai hQ))
noncomputable def Itl(K:k9d)(a:ae):It :=
 ⟨λi H=>∃xs x,SqL K H a xs/\xs[i]?=a3 x,λi H x H'=>H'=H/\∀xs,SqL K H a xs->xs[i]?=a3 x,λi H=>∃xs,SqL K H a xs/\xs.length<=i⟩
noncomputable def Itt(K:k9d)(a:ae):It :=
 ⟨λi H=>∃xs x,SqT K H a xs/\xs[i]?=a3 x,λi H x H'=>H'=H/\∀xs,SqT K H a xs->xs[i]?=a3 x,λi H=>∃xs,SqT K H a xs/\xs.length<=i⟩
noncomputable def Itr(lo:Int)(n:Nat):It:=⟨λi _=>i<n,λi H x H'=>H'=H/\x=.int (lo+i),λi _=>n<=i⟩
theorem j64{P:av}{w:az}{K:k9d}{tg:aj}(a it:ae):Turn P w K tg (Itl K a) [it] it (λi h=>h.IsListIter it a i) where
 mem:=by simp
 obj:=λi h st b hb=>by
  have e:b=it:=by simpa using hb
  subst e;obtain⟨o,e,c,d⟩:=st;exact⟨o,e,λv z=>by rw[d]at z;cases z⟩
 keep:=λi h h' st k=>st.at λo e=>k it (by simp) o e
 item:=by intro X hP hw hK hc i pins s σ H E I hf st hg;subst hP hw hK;obtain⟨xs,x,hq,hx⟩:=hg;obtain⟨its,rv,p,hz⟩:=I.list hq;obtain⟨u,hu,ru⟩:=rv.get hx;obtain⟨f0,f1,f2,f3,f4,f5⟩:=hf it (by simp);refine eK st p.isList (x:=u) (by simpa using hu) λh' st' sb=>?_;have I1:Inv X pins σ H { s with heap:=h' }:=I.turned (t':=s.toks) (λb o hb e=>(sb.2 b hb).trans e) f0 f1 f3 f4 f5;obtain⟨o,e,c,d⟩:=id st';exact⟨u,rfl,j0g (s:={ s with heap:=h' }) e c d (by decide) ⟨x,H,I1,ru,⟨rfl,λys hy=>by rw[I.list_inj hy hq];exact hx⟩,st',λb hb=>(hf b hb).1⟩⟩
 done:=by intro X hP hw hK hc i pins s σ H E I hf st hg;subst hP hw hK;obtain⟨xs,hq,hx⟩:=hg;obtain⟨its,rv,p,hz⟩:=I.list hq;obtain⟨f0,f1,f2,f3,f4,f5⟩:=hf it (by simp);have hl:=rv.length;exact jM (I.ok.hd hc) st p.isList (by simp;omega) λh' eb=>⟨rfl,I.turned (t':=s.toks) (λb o hb e=>eb b o hb e) f0 f1 f3 f4 f5⟩
 self:=λ_ _ _ _ _ st h=>wpAny_pyIter_listiter st h
theorem j4p{P:av}{w:az}{K:k9d}{tg:aj}(a it:ae):Turn P w K tg (Itt K a) [it] it (λi h=>h.IsTupleIter it a i) where
 mem:=by simp
 obj:=λi h st b hb=>by
  have e:b=it:=by simpa using hb
  subst e;obtain⟨o,e,c,d⟩:=st;exact⟨o,e,λv z=>by rw[d]at z;cases z⟩
 keep:=λi h h' st k=>st.at λo e=>k it (by simp) o e
 item:=by intro X hP hw hK hc i pins s σ H E I hf st hg;subst hP hw hK;obtain⟨xs,x,hq,hx⟩:=hg;obtain⟨its,rv,p,hz⟩:=I.tuple hq;obtain⟨u,hu,ru⟩:=rv.get hx;obtain⟨f0,f1,f2,f3,f4,f5⟩:=hf it (by simp);refine wpAny_pyNext_tuple_item st (show s.heap.IsTuple a its.toArray from p) (x:=u) (by simpa using hu) λh' st' sb=>?_;have I1:Inv X pins σ H { s with heap:=h' }:=I.turned (t':=s.toks) (λb o hb e=>(sb.2 b hb).trans e) f0 f1 f3 f4 f5;obtain⟨o,e,c,d⟩:=id st';exact⟨u,rfl,j0g (s:={ s with heap:=h' }) e c d (by decide) ⟨x,H,I1,ru,⟨rfl,λys hy=>by rw[I.tuple_inj hy hq];exact hx⟩,st',λb hb=>(hf b hb).1⟩⟩
 done:=by intro X hP hw hK hc i pins s σ H E I hf st hg;subst hP hw hK;obtain⟨xs,hq,hx⟩:=hg;obtain⟨its,rv,p,hz⟩:=I.tuple hq;obtain⟨f0,f1,f2,f3,f4,f5⟩:=hf it (by simp);have hl:=rv.length;exact wpAny_pyNext_tuple_end (I.ok.hd hc) st (show s.heap.IsTuple a its.toArray from p) (by simp;omega) λh' eb=>⟨rfl,I.turned (t':=s.toks) (λb o hb e=>eb b o hb e) f0 f1 f3 f4 f5⟩
 self:=λ_ _ _ _ _ st h=>wpAny_pyIter_tupleiter st h
theorem j4q{P:av}{w:az}{K:k9d}{tg:aj}(it:ae)(lo:Int)(n:Nat):Turn P w K tg (Itr lo n) [it] it (λi h=>IsRangeIter h it (lo+(i:Nat)*1) ((n:Int)-(i:Nat)) 1) where
 mem:=by simp
 obj:=λi h st b hb=>by
  have e:b=it:=by simpa using hb
  subst e;exact⟨_,st,λv z=>by
   have z':Data.fields _=Data.cell v:=z
   cases z'⟩
 keep:=λi h h' st k=>k it (by simp) _ st
 item:=by intro X hP hw hK hc i pins s σ H E I hf st hg;subst hP hw hK;obtain⟨f0,f1,f2,f3,f4,f5⟩:=hf it (by simp);have W:=Walks.range (prog:=X.prog) (w:=X.w) (I.ok.hd hc) it lo 1 n;refine W.item i s _ _ hg st λv h' tk hv st' kk=>?_;obtain⟨t,rfl⟩:=hv;have I1:Inv X pins σ H { s with heap:=h',toks:=tk }:=I.turned (λb o hb e=>kk b o (by simpa using hb) e) f0 f1 f3 f4 f5;refine⟨_,rfl,j0g (s:={ s with heap:=h',toks:=tk }) (n:="range_iterator") st' rfl rfl (by decide) ⟨.int (lo+i),H,I1,⟨t,?_⟩,⟨rfl,rfl⟩,st',λb hb=>(hf b hb).1⟩⟩;rw[ma]
 done:=by intro X hP hw hK hc i pins s σ H E I hf st hg;subst hP hw hK;obtain⟨f0,f1,f2,f3,f4,f5⟩:=hf it (by simp);exact wpAny_pyNext_range_end (I.ok.hd hc) st (by have:n<=i:=hg;omega) λh' eb=>⟨rfl,I.turned (t':=s.toks) (λb o hb e=>eb b o hb e) f0 f1 f3 f4 f5⟩
 self:=λ_ _ _ _ _ st h=>wpAny_pyIter_rangeiter st h
section
variable{X:Cx}{tg:aj}
def jm2(K:k9d)(tl:TE):TI:=λσ H R=>tl σ H λx H1=>∃a,x=.ref a/\(∃xs,SqL K H1 a xs)/\R (Itl K a) H1
def jns(K:k9d)(tl:TE):TI:=λσ H R=>tl σ H λx H1=>∃a,x=.ref a/\(∃xs,SqT K H1 a xs)/\R (Itt K a) H1
theorem je0{l:aj}{tl:TE}(hl:PE X l tl):PI X tg l (jm2 X.K tl):=by
 intro pins s σ H R I h;refine thn (hl pins s σ H _ I h) λv s1 ⟨x,H1,I1,r1,q1⟩=>?_;obtain⟨a,e,⟨xs,hq⟩,q⟩:=q1;subst e;cases r1;obtain⟨its,rv,p,hz⟩:=I1.list hq;refine bu p.isList ?_;refine⟨s1.heap.objs.size,[s1.heap.objs.size],_,_,H1,rfl,I1.kept (t':=s1.toks) λb o e=>xj _ e,j64 a _,⟨_,X5 _ rfl,rfl,rfl⟩,λb hb=>?_,q⟩;have e:b=s1.heap.objs.size:=by simpa using hb
 subst e;exact I1.fpOk (xu _) (I1.hok.fresh (xu _))
theorem jha{l:aj}{tl:TE}(hl:PE X l tl):PI X tg l (jns X.K tl):=by
 intro pins s σ H R I h;refine thn (hl pins s σ H _ I h) λv s1 ⟨x,H1,I1,r1,q1⟩=>?_;obtain⟨a,e,⟨xs,hq⟩,q⟩:=q1;subst e;cases r1;obtain⟨its,rv,p,hz⟩:=I1.tuple hq;refine fK (show s1.heap.IsTuple a its.toArray from p) ?_;refine⟨s1.heap.objs.size,[s1.heap.objs.size],_,_,H1,rfl,I1.kept (t':=s1.toks) λb o e=>xj _ e,j4p a _,⟨_,X5 _ rfl,rfl,rfl⟩,λb hb=>?_,q⟩;have e:b=s1.heap.objs.size:=by simpa using hb
 subst e;exact I1.fpOk (xu _) (I1.hok.fresh (xu _))
theorem j1b{pins:k9f}{σ:St}{H:Hp}{s:af}{R:It->Hp->Prop}{E:k9e}{lo hi:Int}{t u v:hV}{tk:Nat}(I:Inv X pins σ H s)(h1:-(2^62)<=lo)(h2:lo<2^62)(h3:-(2^62)<=hi)(h4:hi<2^62)
  (q:R (Itr lo (hi-lo).toNat) H):ar (ax X.prog X.w) X.A (ic (.ref s.heap.objs.size)) (PIE X pins σ tg R) E { s with heap:=s.heap.push { cls:=.type "range",data:=.fields #[.int lo t,.int hi u,.int 1 v] },toks:=tk }:=by
 refine wpAny_pyIter_range (IsRange.new ..) (small_one h1 h2 h3 h4) ?_;have I1:Inv X pins σ H { s with heap:=s.heap.push { cls:=.type "range",data:=.fields #[.int lo t,.int hi u,.int 1 v] },toks:=tk }:=I.kept λb o e=>xj _ e;refine⟨(s.heap.push { cls:=.type "range",data:=.fields #[.int lo t,.int hi u,.int 1 v] }).objs.size,[(s.heap.push { cls:=.type "range",data:=.fields #[.int lo t,.int hi u,.int 1 v] }).objs.size],_,_,H,rfl,
  I1.kept (t':=tk) λb o e=>xj _ e,j4q _ lo (hi-lo).toNat,?_,λb hb=>?_,q⟩
 .have e1:lo+((0:Nat):Int)*1=lo:=by simp
  have e2:(((hi-lo).toNat:Nat):Int)-((0:Nat):Int)=Builtin.Range.rangeSize lo hi 1:=by rw[mH];split<;>omega
  show IsRangeIter _ _ (lo+((0:Nat):Int)*1) ((((hi-lo).toNat:Nat):Int)-((0:Nat):Int)) 1;rw[e1,e2];exact X5 _ rfl
 .have e:b=(s.heap.push { cls:=.type "range",data:=.fields #[.int lo t,.int hi u,.int 1 v] }).objs.size:=by simpa using hb
  subst e;exact I1.fpOk (xu _) (I1.hok.fresh (xu _))
def jm1(ta:TA):TI:=λσ H R=>ta σ H λvs H1=>∃j:Int,vs=[.int j]/\-(2^62)<=j/\j<2^62/\R (Itr 0 j.toNat) H1
def jm0(ta:TA):TI:=λσ H R=>ta σ H λvs H1=>∃i j:Int,vs=[.int i,.int j]/\(-(2^62)<=i/\i<2^62/\-(2^62)<=j/\j<2^62)/\R (Itr i (j-i).toNat) H1
theorem j6v {a:aj} {ta:TA} {p pos:aM} (hg:Gl X "range") (hm:X.mg "range" = a9) (ha:PA X [a] ta) (hs:a8 [a] X.env=[(a4,ay a X.env)]:=by rfl):PI X tg (.Call (.Name "range" p) [a] [] pos) (jm1 ta):=by
 intro pins s σ H R I h;refine Call_ (Ql I hg hm kB (callWith_type1 (thn (ha pos pins s σ H _ I h) λus s1 ⟨vs,H1,I1,r1,q1⟩=>?_) hs rfl));obtain⟨j,e,q1,q2,q⟩:=q1;subst e;cases r1 with
 |cons r rr =>cases rr;obtain⟨t,rfl⟩:=r;exact call_range_1 (j1b I1 nofun nofun q1 q2 (by simpa using q))
theorem j6u {a b:aj} {ta:TA} {p pos:aM} (hg:Gl X "range") (hm:X.mg "range" = a9) (ha:PA X [a,b] ta) (hs:a8 [a,b] X.env=[(a4,ay a X.env),(a4,ay b X.env)]:=by rfl) (hs2:a8 [b] X.env=[(a4,ay b X.env)]:=by rfl) :
  PI X tg (.Call (.Name "range" p) [a,b] [] pos) (jm0 ta):=by
 intro pins s σ H R I h;refine Call_ (Ql I hg hm kB (callWith_type1 (thn (ha pos pins s σ H _ I h) λus s1 ⟨vs,H1,I1,r1,q1⟩=>?_) (by rw[hs,hs2]) (by rw[hs2];rfl)));obtain⟨i,j,e,⟨q1,q2,q3,q4⟩,q⟩:=q1;subst e;cases r1 with
 |cons r rr =>
  cases rr with
  |cons r' rr =>cases rr;obtain⟨t,rfl⟩:=r;obtain⟨t',rfl⟩:=r';exact call_range_2 (j1b I1 q1 q2 q3 q4 q)
def jnb(wi:TI)(g:TG)(tb:TS):TS:=λD σ H=>wi σ H λJ H1=>∃W:Nat->Nat->St->Hp->Prop,(∃m,W 0 m σ H1)/\∀i m σ H,W i m σ H ->
 (J.stop i H/\D.nx σ H)\/(J.go i H/\∃N:St->Hp->Prop,(∀σ' H',N σ' H'->∃m',m'<m/\W (i+1) m' σ' H')/\∀x H',J.yld i H x H'->g x σ H' λσ2 H2=>tb { D with nx:=N,ct:=N,bk:=D.nx } σ2 H2)
noncomputable def Ue(fp:List ae)(h:aC):List (ae×dw):=fp.filterMap λb=>(h.get? b).map λo=>(b,o)
theorem Z3{fp:List ae}{h:aC}{b:ae}{o:dw}(hb:b∈fp)(e:h.get? b=a3 o):(b,o)∈Ue fp h:=Tq.mpr ⟨b,hb,by rw[e];rfl⟩
theorem Eh{fp:List ae}{h:aC}{p:ae×dw}(hp:p∈Ue fp h):p.1∈fp/\h.get? p.1=a3 p.2:=by
 obtain⟨b,hb,e⟩:=Tq.mp hp;cases q:h.get? b with
 |none=>rw[q]at e;cases e
 |some o =>rw[q]at e;have e':(b,o)=p:=aw e;subst e';exact⟨hb,q⟩
theorem Inv.pinned{pins:k9f}{σ:St}{H:Hp}{s:af}{fp:List ae}(I:Inv X pins σ H s)(hf:∀b∈fp,Zk X pins H b)(ho:∀b∈fp,∃o,s.heap.get? b=a3 o/\∀v,o.data≠.cell v):Inv X (pins++Ue fp s.heap) σ H s :=
 I.pins_of λp hp=>(Pn.mp hp).elim (λz=>I.pin p (Xo _ z)) λz=>by obtain⟨hb,e⟩:=Eh z;obtain⟨f0,f1,f2,_⟩:=hf p.1 hb;obtain⟨o,e',d⟩:=ho p.1 hb;rw[e]at e';cases e';exact⟨e,f0,f1,f2,d⟩
theorem Inv.unpinned{pins pl:k9f}{σ:St}{H:Hp}{s:af}(I:Inv X (pins++pl) σ H s):Inv X pins σ H s:=I.pins_of λp hp=>I.pin p (Xo _ (bS _ hp))
theorem j1d{iter:aj}{body:List aX}{wi:TI}{g:TG}{tb:TS}{pos:aM}(hp:dB (ax X.prog X.w) X.A X.env X.xe)(hc:X.calm=a6)(hi:PI X tg iter wi)(hg:PG X tg g)(hb:PSs X body tb)
  (hs:∀x,aA iter X.env x=pure x:=by intro _;rfl):PS X (.For tg iter body [] pos) (jnb wi g tb):=by
 intro pins s σ H D I h;refine wpAny_For (thn (hi pins s σ H _ I h) λv s1 h1=>thn h1 λitv s2 h2=>?_) hs;obtain⟨it,fp,tn,J,H2,e,I2,T,st2,f2,W,⟨m0,w0⟩,turn⟩:=h2;subst e;have stat:∀{H':Hp},(∀b∈fp,H' b=a9)->∀b∈fp,Zk X pins H' b:=λhn b hb=>⟨hn b hb,(f2 b hb).2⟩
 refine codeAny_forLoop_any (λn s'=>∃i σ' H',Inv X pins σ' H' s'/\tn i s'.heap/\(∀b∈fp,H' b=a9)/\W i n σ' H') ?_ m0 ⟨0,σ,H2,I2,st2,λb hb=>(f2 b hb).1,w0⟩;rintro n s3 ⟨i,σ3,H3,I3,st3,fr3,w3⟩;rcases turn i n σ3 H3 w3 with ⟨stop,qn⟩|⟨go,N,hN,step⟩
 .refine bP hp (thn (T.done X rfl rfl rfl hc i pins s3 σ3 H3 X.xe I3 (stat fr3) st3 stop) λr s4 ⟨hr,I4⟩=>?_);subst hr;exact eO ⟨σ3,H3,I4,qn⟩
 .refine bP hp (thn (T.item X rfl rfl rfl hc i pins s3 σ3 H3 X.xe I3 (stat fr3) st3 go) λr s4 ⟨u,hr,h4⟩=>?_);subst hr;refine bP hp (thn h4 λ_ s5 ⟨x,H5,I5,r5,y5,st5,fr5⟩=>?_);have I5':=I5.pinned (stat fr5) (T.obj _ _ st5);refine bP hp (thn (hg _ s5 σ3 H5 x u _ I5' r5 (step x H5 y5)) λ_ s6 ⟨σ6,H6,I6,q6⟩=>?_);refine bP hp (thn (hb _ s6 σ6 H6 _ I6 q6) λf s7 q7=>?_);have iS:∀{σ7:St}{H7:Hp},Inv X (pins++Ue fp s5.heap) σ7 H7 s7->N σ7 H7->∃m,m<n/\∃i σ' H',Inv X pins σ' H' s7/\tn i s7.heap/\(∀b∈fp,H' b=a9)/\W i m σ' H':=λ{σ7 H7} I7 n7=>by obtain⟨m',hm,w7⟩:=hN σ7 H7 n7;refine⟨m',hm,i+1,σ7,H7,I7.unpinned,T.keep _ _ _ st5 λb hb o e=>(I7.pin (b,o) (Xo _ (Xo _ (Z3 hb e)))).1,λb hb=>?_,w7⟩;obtain⟨o,e,d⟩:=T.obj _ _ st5 b hb;exact(I7.pin (b,o) (Xo _ (Xo _ (Z3 hb e)))).2.1
  cases f with
  |next=>obtain⟨σ7,H7,I7,n7⟩:=q7;exact iS I7 n7
  |cont=>obtain⟨σ7,H7,I7,n7⟩:=q7;exact iS I7 n7
  |brk=>obtain⟨σ7,H7,I7,q7⟩:=q7;exact⟨σ7,H7,I7.unpinned,q7⟩
  |ret v=>obtain⟨x7,σ7,H7,H8,I7,r7,x8,q7⟩:=q7;exact⟨x7,σ7,H7,H8,I7.unpinned,r7,x8,q7⟩
end
abbrev R2:=V->V->Hp->VK->Prop
def OpR(X:Cx)(f:aa->aa->mL aa)(r:R2):Prop :=
 ∀(pins:k9f) (s:af) (σ:St) (H:Hp) (x y:V) (v u:aa) (Q:VK),Inv X pins σ H s->RelV x v->RelV y u->r x y H Q ->
  ar (ax X.prog X.w) X.A (f v u) (EP X pins σ Q) X.xe s
def UnR(X:Cx)(f:aa->mL aa)(r:V->Hp->VK->Prop):Prop :=
 ∀(pins:k9f) (s:af) (σ:St) (H:Hp) (x:V) (v:aa) (Q:VK),Inv X pins σ H s->RelV x v->r x H Q ->
  ar (ax X.prog X.w) X.A (f v) (EP X pins σ Q) X.xe s
def Ju(X:Cx)(f:aa)(r:List V->Hp->VK->Prop):Prop :=
 ∀(pins:k9f) (s:af) (σ:St) (H:Hp) (xs:List V) (us:List aa) (Q:VK),Inv X pins σ H s->Vals xs us->r xs H Q ->
  ar (ax X.prog X.w) X.A (call f us) (EP X pins σ Q) X.xe s
def tOp(r:R2)(ta tb:TE):TE:=λσ H Q=>ta σ H λx H1=>tb σ H1 λy H2=>r x y H2 Q
def tUn(r:V->Hp->VK->Prop)(ta:TE):TE:=λσ H Q=>ta σ H λx H1=>r x H1 Q
def rI(C:Int->Int->Prop)(g:Int->Int->V):R2:=λx y H Q=>∃i j,x=.int i/\y=.int j/\C i j/\Q (g i j) H
def rI0(g:Int->Int->V):R2:=λx y H Q=>∃i j,x=.int i/\y=.int j/\Q (g i j) H
def rU(g:Int->V):V->Hp->VK->Prop:=λx H Q=>∃i,x=.int i/\Q (g i) H
section
variable{X:Cx}{a b c:aj}{ta tb tc:TE}{pos:aM}
theorem jbm(ha:PE X a ta)(hb:PE X b tb){pins:k9f}{s:af}{σ:St}{H:Hp}{R:V->V->Hp->Prop}(I:Inv X pins σ H s)
  (h:ta σ H λx H1=>tb σ H1 λy H2=>R x y H2) {Q:k9e} {f:aa->aa->mL aa}
  (hf:∀v u s2 x y H2,Inv X pins σ H2 s2->RelV x v->RelV y u->R x y H2->ar (ax X.prog X.w) X.A (f v u) Q X.xe s2) :
  ar (ax X.prog X.w) X.A (ay a X.env) (λv s₁=>ar (ax X.prog X.w) X.A (ay b X.env) (λu s₂=>ar (ax X.prog X.w) X.A (f v u) Q X.xe s₂) X.xe s₁) X.xe s:=by
 refine thn (ha pins s σ H _ I h) λv s1 ⟨x,H1,I1,r1,q1⟩=>?_;refine thn (hb pins s1 σ H1 _ I1 q1) λu s2 ⟨y,H2,I2,r2,q2⟩=>?_;exact hf v u s2 x y H2 I2 r1 r2 q2
theorem W5{op:jX}{r:R2}(ho:OpR X (b8 op) r)(ha:PE X a ta)(hb:PE X b tb):PE X (.BinOp a op b pos) (tOp r ta tb):=by intro pins s σ H Q I h;exact wpAny_BinOp (jbm ha hb I h λv u s2 x y H2 I2 rx ry q=>ho pins s2 σ H2 x y v u Q I2 rx ry q)
theorem jlg{op:UnaryOp}{r:V->Hp->VK->Prop}(ho:UnR X (unaryOp op) r)(ha:PE X a ta):PE X (.UnaryOp op a pos) (tUn r ta):=by intro pins s σ H Q I h;exact UnaryOp_ (thn (ha pins s σ H _ I h) λv s1 ⟨x,H1,I1,r1,q1⟩=>ho pins s1 σ H1 x v Q I1 r1 q1)
theorem opI{f:aa->aa->mL aa}{C:Int->Int->Prop}{g:Int->Int->Int}
  (ky:∀(i j:Int)(t u:hV)(s:af)(Q:k9e)(E:k9e),C i j->Q (.int (g i j) s.toks) { s with toks:=s.toks+1 }->ar (ax X.prog X.w) X.A (f (.int i t) (.int j u)) Q E s) :
  OpR X f (rI C λi j=>.int (g i j)):=by
 intro pins s σ H x y v u Q I rx ry h;obtain⟨i,j,rfl,rfl,hc,q⟩:=h;obtain⟨t,rfl⟩:=rx;obtain⟨t',rfl⟩:=ry;exact ky i j t t' s _ _ hc ⟨.int (g i j),H,I.tok _,⟨_,rfl⟩,q⟩
theorem j55{f:aa->aa->mL aa}{g:Int->Int->Int}
  (ky:∀(i j:Int)(t u:hV)(s:af)(Q:k9e)(E:k9e),Q (.int (g i j) s.toks) { s with toks:=s.toks+1 }->ar (ax X.prog X.w) X.A (f (.int i t) (.int j u)) Q E s) :
  OpR X f (rI0 λi j=>.int (g i j)):=by
 intro pins s σ H x y v u Q I rx ry h;obtain⟨i,j,rfl,rfl,q⟩:=h;obtain⟨t,rfl⟩:=rx;obtain⟨t',rfl⟩:=ry;exact ky i j t t' s _ _ ⟨.int (g i j),H,I.tok _,⟨_,rfl⟩,q⟩
theorem j56{f:aa->aa->mL aa}{g:Int->Int->Bool}
  (ky:∀(i j:Int)(t u:hV)(s:af)(Q:k9e)(E:k9e),Q (.bool (g i j)) s->ar (ax X.prog X.w) X.A (f (.int i t) (.int j u)) Q E s) :
  OpR X f (rI0 λi j=>.bl (g i j)):=by
 intro pins s σ H x y v u Q I rx ry h;obtain⟨i,j,rfl,rfl,q⟩:=h;obtain⟨t,rfl⟩:=rx;obtain⟨t',rfl⟩:=ry;exact ky i j t t' s _ _ ⟨.bl (g i j),H,I,rfl,q⟩
def j5z(i j:Int):Prop:=0<=j/\j<=1000000/\i.natAbs<2^64
def j60(i j:Int):Prop:=(-(2^64)<i/\i<2^64)\/(-(2^64)<j/\j<2^64)
theorem j60.ok{i j:Int}(h:j60 i j):IntMulOk i j:=by
 rcases h with ⟨h1,h2⟩|⟨h1,h2⟩
 .exact .of_left (mI h1 h2)
 .exact .of_right (mI h1 h2)
theorem j4o(k:Nat):(0:Int)<=2^k:=by rw[two_pow_cast];exact Int.natCast_nonneg _
theorem jhr:OpR X (b8 .Add) (rI0 λi j=>.int (i+j)):=j55 λ_ _ _ _ _ _ _ q=>add_int q
theorem jhj:OpR X (b8 .Sub) (rI0 λi j=>.int (i-j)):=j55 λ_ _ _ _ _ _ _ q=>sub_int q
theorem jho:OpR X (b8 .Mult) (rI j60 λi j=>.int (i*j)):=opI λ_ _ _ _ _ _ _ hc q=>mul_int q hc.ok
theorem jhp:OpR X (b8 .Mod) (rI (λ_ j=>0<j) λi j=>.int (i%j)):=opI λi j _ _ _ _ _ hc q=>by have h1:(0:Int)<j:=hc;exact mod_int' nofun (by rw[Int.fmod_eq_emod_of_nonneg i nofun];exact q)
theorem jhn:OpR X (b8 .Pow) (rI j5z λi j=>.int (i^j.toNat)):=opI λ_ _ _ _ _ _ _ hc q=>pow_int_small hc.1 hc.2.1 hc.2.2 q
theorem jhl:OpR X (b8 .LShift) (rI j5z λi j=>.int (i*2^j.toNat)):=opI λ_ _ _ _ _ _ _ hc q=>lshift_int_small hc.1 hc.2.1 hc.2.2 q
theorem jhk:OpR X (b8 .RShift) (rI (λ_ j=>0<=j) λi j=>.int (i/2^j.toNat)):=opI λi j _ _ _ _ _ hc q =>rshift_int hc (by rw[gE i (j4o _)];exact q)
theorem jhq:OpR X (b8 .BitAnd) (rI0 λi j=>.int (Builtin.bitAnd i j)):=j55 λ_ _ _ _ _ _ _ q=>and_int q
theorem jhi:OpR X (b8 .BitXor) (rI0 λi j=>.int (Builtin.bitXor i j)):=j55 λ_ _ _ _ _ _ _ q=>xor_int q
theorem unI{f:aa->mL aa}{g:Int->Int}
  (ky:∀(i:Int)(t:hV)(s:af)(Q:k9e)(E:k9e),Q (.int (g i) s.toks) { s with toks:=s.toks+1 }->ar (ax X.prog X.w) X.A (f (.int i t)) Q E s) :
  UnR X f (rU λi=>.int (g i)):=by
 intro pins s σ H x v Q I rx h;obtain⟨i,rfl,q⟩:=h;obtain⟨t,rfl⟩:=rx;exact ky i t s _ _ ⟨.int (g i),H,I.tok _,⟨_,rfl⟩,q⟩
theorem jg6:UnR X (unaryOp .USub) (rU λi=>.int (-i)):=unI λ_ _ _ _ _ q=>neg_int q
end
noncomputable def Ke:V->V->Bool
 |.non,.non=>a6|.non,.int _=>a6|.int _,.non=>a6|.non,.bl _=>a6|.bl _,.non=>a6|.non,.str _=>a6|.str _,.non=>a6
 |.int _,.int _=>a6|.bl _,.bl _=>a6|.str _,.str _=>a6|.byt _,.byt _=>a6
 |.int _,.str _=>a6|.str _,.int _=>a6|.bl _,.str _=>a6|.str _,.bl _=>a6
 |_,_=>a4
def rEq:R2:=λx y H Q=>Ke x y=a6/\Q (.bl (decide (x=y))) H
def rNe:R2:=λx y H Q=>Ke x y=a6/\Q (.bl (!decide (x=y))) H
theorem j4c{i j:Int}:decide (V.int i=V.int j)=(i==j):=by rw[dZ];simp
theorem j7x{i j:Bool}:decide (V.bl i=V.bl j)=(i==j):=by rw[dZ];simp
theorem j4b{i j:ah}:decide (V.str i=V.str j)=(i==j):=by rw[dZ];simp
theorem j4d{i j:Array UInt8}:decide (V.byt i=V.byt j)=(i.toList==j.toList):=by rw[dZ];cases i;cases j;simp
section
variable{X:Cx}{a b c:aj}{ta tb tc:TE}{pos:aM}
theorem ju{pins:k9f}{σ:St}{H:Hp}{s:af}{Q:VK}{k k':Bool}(I:Inv X pins σ H s)(q:Q (.bl k) H)(e:k=k'):EP X pins σ Q (.bool k') s:=by subst e;exact⟨.bl k,H,I,rfl,q⟩
theorem jcc:OpR X (aO .Eq) rEq:=by
 intro pins s σ H x y v u Q I rx ry h;obtain⟨hs,q⟩:=h;cases x with
 |non =>
  cases rx;cases y with
  |non=>cases ry;exact lQ (ju I q (by simp))
  |bl j=>cases ry;exact lS (ju I q (by simp))
  |int j=>obtain⟨t',rfl⟩:=ry;exact lR (ju I q (by simp))
  |str j=>obtain⟨t',rfl⟩:=ry;exact lP (ju I q (by simp))
  |_=>exact absurd (show a4=a6 from hs) xg
 |bl i =>
  cases rx;cases y with
  |non=>cases ry;exact lU (ju I q (by simp))
  |bl j=>cases ry;exact eq_bool (ju I q j7x)
  |str j=>obtain⟨t',rfl⟩:=ry;exact l6 (ju I q (by simp))
  |_=>exact absurd (show a4=a6 from hs) xg
 |int i =>
  obtain⟨t,rfl⟩:=rx;cases y with
  |non=>cases ry;exact lT (ju I q (by simp))
  |int j=>obtain⟨t',rfl⟩:=ry;exact eq_int (ju I q j4c)
  |str j=>obtain⟨t',rfl⟩:=ry;exact l5 (ju I q (by simp))
  |_=>exact absurd (show a4=a6 from hs) xg
 |str i =>
  obtain⟨t,rfl⟩:=rx;cases y with
  |non=>cases ry;exact lO (ju I q (by simp))
  |bl j=>cases ry;exact kZ (ju I q (by simp))
  |int j=>obtain⟨t',rfl⟩:=ry;exact kY (ju I q (by simp))
  |str j=>obtain⟨t',rfl⟩:=ry;exact eq_str (ju I q j4b)
  |_=>exact absurd (show a4=a6 from hs) xg
 |byt i =>
  obtain⟨t,rfl⟩:=rx;cases y with
  |byt j=>obtain⟨t',rfl⟩:=ry;exact W.eq_bytes (ju I q j4d)
  |_=>exact absurd (show a4=a6 from hs) xg
 |_=>cases y<;>exact absurd (show a4=a6 from hs) xg
theorem jc8:OpR X (aO .NotEq) rNe:=by
 intro pins s σ H x y v u Q I rx ry h;obtain⟨hs,q⟩:=h;cases x with
 |non =>
  cases rx;cases y with
  |non=>cases ry;exact lJ (ju I q (by simp))
  |bl j=>cases ry;exact lL (ju I q (by simp))
  |int j=>obtain⟨t',rfl⟩:=ry;exact lK (ju I q (by simp))
  |str j=>obtain⟨t',rfl⟩:=ry;exact lI (ju I q (by simp))
  |_=>exact absurd (show a4=a6 from hs) xg
 |bl i =>
  cases rx;cases y with
  |non=>cases ry;exact lN (ju I q (by simp))
  |bl j=>cases ry;exact ne_bool (ju I q (congrArg not j7x))
  |str j=>obtain⟨t',rfl⟩:=ry;exact kX (ju I q (by simp))
  |_=>exact absurd (show a4=a6 from hs) xg
 |int i =>
  obtain⟨t,rfl⟩:=rx;cases y with
  |non=>cases ry;exact lM (ju I q (by simp))
  |int j=>obtain⟨t',rfl⟩:=ry;exact ne_int (ju I q (congrArg not j4c))
  |str j=>obtain⟨t',rfl⟩:=ry;exact kW (ju I q (by simp))
  |_=>exact absurd (show a4=a6 from hs) xg
 |str i =>
  obtain⟨t,rfl⟩:=rx;cases y with
  |non=>cases ry;exact lH (ju I q (by simp))
  |bl j=>cases ry;exact kU (ju I q (by simp))
  |int j=>obtain⟨t',rfl⟩:=ry;exact kT (ju I q (by simp))
  |str j=>obtain⟨t',rfl⟩:=ry;exact ne_str (ju I q (congrArg not j4b))
  |_=>exact absurd (show a4=a6 from hs) xg
 |byt i =>
  obtain⟨t,rfl⟩:=rx;cases y with
  |byt j=>obtain⟨t',rfl⟩:=ry;exact W.ne_bytes (ju I q (congrArg not j4d))
  |_=>exact absurd (show a4=a6 from hs) xg
 |_=>cases y<;>exact absurd (show a4=a6 from hs) xg
theorem j0d:OpR X (aO .Lt) (rI0 λi j=>.bl (decide (i<j))):=j56 λ_ _ _ _ _ _ _ q=>lt_int q
theorem jc9:OpR X (aO .LtE) (rI0 λi j=>.bl (decide (i<=j))):=j56 λ_ _ _ _ _ _ _ q=>le_int q
theorem jca:OpR X (aO .Gt) (rI0 λi j=>.bl (decide (j<i))):=j56 λ_ _ _ _ _ _ _ q=>gt_int q
theorem jcb:OpR X (aO .GtE) (rI0 λi j=>.bl (decide (j<=i))):=j56 λ_ _ _ _ _ _ _ q=>ge_int q
theorem Ed:OpR X (aO .Lt) (λx y H Q=>∃i j,x=.str i/\y=.str j/\Q (.bl (decide (i.cps.toList<j.cps.toList))) H):=by intro pins s σ H x y v u Q I rx ry h;obtain⟨i,j,rfl,rfl,q⟩:=h;obtain⟨t,rfl⟩:=rx;obtain⟨t',rfl⟩:=ry;exact lt_str (ju I q rfl)
theorem Ef:OpR X (aO .In) (λx y H Q=>∃i j,x=.str i/\y=.str j/\Q (.bl (!(fD j i 0 j.length 1).isEmpty)) H):=by intro pins s σ H x y v u Q I rx ry h;obtain⟨i,j,rfl,rfl,q⟩:=h;obtain⟨t,rfl⟩:=rx;obtain⟨t',rfl⟩:=ry;exact in_str (ju I q rfl)
theorem j3t:OpR X (aO .IsNot) (λx y H Q=>y=.non/\Q (.bl (!decide (x=.non))) H):=by
 intro pins s σ H x y v u Q I rx ry h;obtain⟨rfl,q⟩:=h;cases ry;refine isnot_none_gen (ju I q ?_);cases x<;>first
  |(cases rx;rfl)
  |(obtain⟨t,rfl⟩:=rx;rfl)
theorem zf(b:aj){op:g9}(h:op≠.In:=by decide)(h2:op≠.NotIn:=by decide):aH op b=a4:=by
 have e1:(op==CmpOp.In)=a4:=by cases op<;>first|rfl|exact absurd rfl h
 have e2:(op==CmpOp.NotIn)=a4:=by cases op<;>first|rfl|exact absurd rfl h2
 cases b<;>simp[aH,e1,e2]
theorem Jw{op:g9}{r:R2}(ho:OpR X (aO op) r)(ha:PE X a ta)(hb:PE X b tb)(hm:aH op b=a4):PE X (.Compare a [op] [b] pos) (tOp r ta tb):=by intro pins s σ H Q I h;exact mr (jbm ha hb I h λv u s2 x y H2 I2 rx ry q=>ho pins s2 σ H2 x y v u Q I2 rx ry q) hm
def jkw(t:TE):TT:=λσ H Q=>t σ H λx H'=>∃k,x=.bl k/\Q k H'
theorem Jv{op:g9}{r:R2}(ho:OpR X (aO op) r)(ha:PE X a ta)(hb:PE X b tb)(hm:aH op b=a4):PT X (.Compare a [op] [b] pos) (jkw (tOp r ta tb)):=by
 intro pins s σ H Q I h;refine jN (thn (ha pins s σ H _ I h) λv s1 ⟨x,H1,I1,r1,q1⟩=>thn (hb pins s1 σ H1 _ I1 q1) λu s2 ⟨y,H2,I2,r2,q2⟩ =>
  thn (ho pins s2 σ H2 x y v u _ I2 r1 r2 q2) λc s3 ⟨z,H3,I3,r3,k,e,q3⟩=>?_) hm
 subst e;cases r3;exact bc ⟨H3,I3,q3⟩
def jge(r r':R2)(ta tb tc:TE):TE:=λσ H Q=>ta σ H λx H1=>tb σ H1 λy H2=>r x y H2 λz H3=>∃k,z=.bl k /\
 (if k=a6 then tc σ H3 λw' H4=>r' y w' H4 Q else Q (.bl a4) H3)
theorem j9o{op op':g9}{r r':R2}(ho:OpR X (aO op) r)(ho':OpR X (aO op') r')(ha:PE X a ta)(hb:PE X b tb)(hc:PE X c tc)
  (hm:lz [op,op'] [b,c]=a4:=by with_unfolding_all rfl):PE X (.Compare a [op,op'] [b,c] pos) (jge r r' ta tb tc):=by
 intro pins s σ H Q I h;refine Compare_chain (thn (ha pins s σ H _ I h) λv s1 ⟨x,H1,I1,r1,q1⟩=>chain_link (thn (hb pins s1 σ H1 _ I1 q1) λu s2 ⟨y,H2,I2,r2,q2⟩ =>
  thn (ho pins s2 σ H2 x y v u _ I2 r1 r2 q2) λd s3 ⟨z,H3,I3,r3,k,e,q3⟩=>?_)) hm
 subst e;cases r3;refine bc ?_;cases k with
 |false=>exact ite_ff ⟨.bl a4,H3,I3,rfl,q3⟩
 |true=>exact ite_tt (chain_last (thn (hc pins s3 σ H3 _ I3 q3) λw' s4 ⟨z',H4,I4,r4,q4⟩=>ho' pins s4 σ H4 y z' u w' Q I4 r2 r4 q4))
theorem R8:(ak:Nat)<2^63:=by rw[fE];decide
theorem j54:OpR X (b8 .Add) (λx y H Q=>∃i j,x=.str i/\y=.str j/\i.length+j.length<=ak/\Q (.str (i++j)) H):=by intro pins s σ H x y v u Q I rx ry h;obtain⟨i,j,rfl,rfl,hz,q⟩:=h;obtain⟨t,rfl⟩:=rx;obtain⟨t',rfl⟩:=ry;exact add_str (λt' tk=>⟨.str (i++j),H,I.tok _,⟨_,rfl⟩,q⟩) hz
theorem vals1{x:V}{us:List aa}(r:Vals [x] us):∃u,us=[u]/\RelV x u:=by
 cases r with
 |cons r1 r2=>cases r2;exact⟨_,rfl,r1⟩
theorem vals2{x y:V}{us:List aa}(r:Vals [x,y] us):∃u w',us=[u,w']/\RelV x u/\RelV y w':=by
 cases r with
 |cons r1 r2 =>
  cases r2 with
  |cons r3 r4=>cases r4;exact⟨_,_,rfl,r1,r3⟩
theorem j8i (hc:X.calm=a6):Ju X (.builtin "max") (λxs H Q=>∃i j,xs=[.int i,.int j]/\Q (.int (if j>i then j else i)) H):=by
 intro pins s σ H xs us Q I r h;obtain⟨i,j,rfl,q⟩:=h;obtain⟨u,w',rfl,⟨t,rfl⟩,⟨t',rfl⟩⟩:=vals2 r;refine max_two_ints (I.ok.hd hc) λh' tk k=>⟨_,H,I.kept k,?_,q⟩
 by_cases hj:j>i
 .rw[if_pos hj,if_pos hj];exact⟨_,rfl⟩
 .rw[if_neg hj,if_neg hj];exact⟨_,rfl⟩
theorem j8g (hc:X.calm=a6):Ju X (.builtin "min") (λxs H Q=>∃i j,xs=[.int i,.int j]/\Q (.int (if j<i then j else i)) H):=by
 intro pins s σ H xs us Q I r h;obtain⟨i,j,rfl,q⟩:=h;obtain⟨u,w',rfl,⟨t,rfl⟩,⟨t',rfl⟩⟩:=vals2 r;refine min_two_ints (I.ok.hd hc) λh' tk k=>⟨_,H,I.kept k,?_,q⟩
 by_cases hj:j<i
 .rw[if_pos hj,if_pos hj];exact⟨_,rfl⟩
 .rw[if_neg hj,if_neg hj];exact⟨_,rfl⟩
theorem j8l:Ju X (.type "int") (λxs H Q=>(∃i,xs=[.int i]/\Q (.int i) H)\/∃k,xs=[.bl k]/\Q (.int (if k then 1 else 0)) H):=by
 intro pins s σ H xs us Q I r h;rcases h with ⟨i,rfl,q⟩|⟨k,rfl,q⟩
 .obtain⟨u,rfl,t,rfl⟩:=vals1 r;exact call_int_int ⟨.int i,H,I,⟨_,rfl⟩,q⟩
 .obtain⟨u,rfl,r1⟩:=vals1 r;cases r1;exact call_int_bool ⟨.int (if k then 1 else 0),H,I.tok _,⟨_,rfl⟩,q⟩
end
structure ObjM(h:aC)(x dx C:ae)(mA:k9g):Prop where
 obj:h.get? x=a3 (W.instObj C dx)
 ns:h.Ns1 dx mA
 ne:dx≠x
section
variable{prog:av}{w:az}{A:aB}{E:k9e}{s:af}{K:k9d}{x dx C f:ae}{mA:k9g}{name:ah}{v:aa}
end
noncomputable def j9i(f:ah)(v:V):List (ah×V)->List (ah×V)
 |[]=>[(f,v)]
 |(g,x)::r=>if g=f then(g,v)::r else(g,x)::j9i f v r
section
variable{P:av}{w:az}{H H':Hp}{h h':aC}{a C dx:ae}{fs fs':List (ah×V)}
end
structure Cls(K:k9d)(C:ae):Prop where
 pg:W.plainGet K C Str.empty=a6
 hd:W.hasDictIn K C=a6
 po:W.plainOver K C=a6
 sa:W.findIn K (.ref C) "__setattr__" = a3 (a3 (.builtin "object.__setattr__"))
structure Con(K:k9d)(C:ae)(f:ah)(v:V)(u:aa):Prop where
 at_:W.findIn K (.ref C) f=a3 (a3 u)
 rel:RelV v u
 get:W.specialIn K u "__get__" = a3 a9
 cp:W.copiedNames.contains f=a4
structure Meth(K:k9d)(C:ae)(m:ah)(f:ae):Prop where
 at_:W.findIn K (.ref C) m=a3 (a3 (.ref f))
 fn:W.isFn K (.ref f)=a6
 kp:W.keepIn K (.ref f)=a6
section
variable{X:Cx}{pins:k9f}{σ:St}{H:Hp}{s:af}{a C dx:ae}{fs:List (ah×V)}{f:ah}{v:V}{A:aB}{E:k9e}
end
section
variable{X:Cx}{o e value:aj}{f:ah}{pos pos' tpos:aM}{ta tv:TE}
end
section
variable{X:Cx}{pins:k9f}{σ:St}{H:Hp}{s:af}{A:aB}{E:k9e}{Q:k9e}{c:aa}{b:Bool}
inductive TyOf(K:k9d)(H:Hp):V->aa->Prop where
 |non:TyOf K H .non (.type "NoneType")
 |bl (x:Bool):TyOf K H (.bl x) (.type "bool")
 |int (i:Int):TyOf K H (.int i) (.type "int")
 |str (x:ah):TyOf K H (.str x) (.type "str")
 |flt (x:UInt64):TyOf K H (.flt x) (.type "float")
 |lst {a:ae} {xs:List V} (e:H a=a3 (.lst xs)):TyOf K H (.ref a) (.type "list")
 |frz {a:ae} {o:dw} {xs:List V} (e:H a=a3 (.frz o (.lst xs))):TyOf K H (.ref a) (.type "list")
 |tup {a:ae} {xs:List V} (e:H a=a3 (.tup xs)):TyOf K H (.ref a) (.type "tuple")
 |dK {a:ae} {kvs:List (Key×V)} (e:H a=a3 (.dK kvs)):TyOf K H (.ref a) (.type "dict")
 |dT {a:ae} {kvs:List (List Key×V)} (e:H a=a3 (.dT kvs)):TyOf K H (.ref a) (.type "dict")
 |ins {a C dx:ae} {fs:List (ah×V)} (e:H a=a3 (.ins C dx fs)) (cl:Cls K C) (ha:W.findIn K (.ref C) "__class__" = a3 (a3 (.builtin "object.__class__")))
   (hn:W.specialIn K (.builtin "object.__class__") "__get__" = a3 (a3 (.builtin "getset_descriptor.__get__"))) (htk:W.takesIn K (.builtin "object.__class__")=a3 a6)
   (hm:W.mroIn K C (.type "object")=a3 a6):TyOf K H (.ref a) (.ref C)
end
structure Room(k:Nat)(A:aB):Prop where
 hd:A.handled=a9
 dp:A.depth+3*k+5<f6
 un:A.units+16*k+200<aV
theorem Room.mono{j k:Nat}{A:aB}(r:Room k A)(h:j<=k):Room j A:=⟨r.hd,by have:=r.dp;omega,by have:=r.un;omega⟩
theorem Room.deeper{k:Nat}{A:aB}(r:Room (k+1) A)(env:dR):Room k (A.deeper env) :=
 ⟨r.hd,by have:=r.dp;show A.depth+1+3*k+5<_;omega,by have:=r.un;show A.units+3+16*k+200<_;omega⟩
theorem Room.depth{k:Nat}{A:aB}(r:Room k A):A.depth<f6:=by have:=r.dp;omega
def jgd:TA:=λ_ H Q=>Q [] H
def jc2(ta:TE)(tr:TA):TA:=λσ H Q=>ta σ H λx H1=>tr σ H1 λxs H2=>Q (x::xs) H2
section
variable{X:Cx}{e:aj}{es:List aj}{te:TE}{t:TA}{pos:aM}
theorem jy:PA X [] jgd:=λ_ _ _ _ H Q I h=>dn ⟨[],H,I,.nil,h⟩
theorem jg(ha:PE X e te)(hr:PA X es t)(hs:a8 (e::es) X.env=(a4,ay e X.env)::a8 es X.env:=by rfl):PA X (e::es) (jc2 te t):=by intro pos pins s σ H Q I h;rw[hs];show ar _ _ (hJ ((a4,ay e X.env)::aL pos (a8 es X.env))) _ _ s;refine d0 (thn (ha pins s σ H _ I h) λu s1 ⟨x,H1,I1,r1,q1⟩=>?_);exact thn (hr pos pins s1 σ H1 _ I1 q1) λus s2 ⟨xs,H2,I2,r2,q2⟩=>⟨x::xs,H2,I2,.cons r1 r2,q2⟩
def jn2(t:TA):TE:=λσ H Q=>t σ H λxs H1=>xs.length<=ak/\∀p,H1 p=a9->Q (.ref p) (upd H1 p (.tup xs))
def jn7(t:TA):TE:=λσ H Q=>t σ H λxs H1=>xs.length<=ak/\∀p,H1 p=a9->Q (.ref p) (upd H1 p (.lst xs))
theorem j6x{x1}(h:PA X es t):PE X (.Tuple es x1 pos) (jn2 t):=by intro pins s σ H Q I hq;refine wpAny_Tuple_spliced (thn (h pos pins s σ H _ I hq) λus s1 ⟨xs,H1,I1,r,z,q⟩=>⟨by rw[<-r.length];exact z,?_⟩);have hf:H1 s1.heap.objs.size=a9:=I1.hok.fresh (xu _);refine⟨.ref s1.heap.objs.size,upd H1 s1.heap.objs.size (.tup xs),I1.laid (t':=s1.toks) (λb u e=>xj _ e) (xu _) ?_,rfl,q _ hf⟩;exact⟨z,us,r,⟨_,X5 _ rfl,rfl,_,rfl⟩,Vg.new _ _⟩
theorem jhc(h:PA X es t):PE X (.List es pos) (jn7 t):=by intro pins s σ H Q I hq;refine wpAny_List_spliced (thn (h pos pins s σ H _ I hq) λus s1 ⟨xs,H1,I1,r,z,q⟩=>⟨by rw[<-r.length];exact z,?_⟩);have hf:H1 s1.heap.objs.size=a9:=I1.hok.fresh (xu _);refine⟨.ref s1.heap.objs.size,upd H1 s1.heap.objs.size (.lst xs),I1.laid (t':=s1.toks) (λb u e=>xj _ e) (xu _) ?_,rfl,q _ hf⟩;exact⟨z,us,0,r,X5 _ rfl⟩
end
abbrev Sp:=List V->Hp->VK->XK->Prop
abbrev CXT:=List dR->Hp->af->XK->aa->af->Prop
structure Env0(P:av)(w:az)(K:k9d)(mg:k9g)(base:aC)(A:aB)(outer:List dR)(s:af)(H:Hp):Prop where
 frames:A.frames=a3 outer
 mod:Mod K mg base
 bs:∀b o,base.get? b=a3 o->s.heap.get? b=a3 o/\H b=a9
 bsz:base.objs.size<=s.heap.objs.size
 funs:s.heap.FunFrames base outer
 frf:∀b∈frs outer,H b=a9
 hok:HOk P w H s.heap
 bare:dS s.gens
def CE(outer:List dR)(P:av)(w:az)(H:Hp)(s:af)(Q:VK)(u:aa)(s':af):Prop :=
 ∃v H',s'.os=s.os/\dS s'.gens/\Un (frs outer) [] H H' s.heap s'.heap/\HOk P w H' s'.heap/\RelV v u/\Q v H'
def CR(CX:CXT)(outer:List dR)(P:av)(w:az)(H:Hp)(s:af)(Q:VK)(E:XK)(r:fO)(s':af):Prop :=
 match r with
 |.ok (.ret u)=>CE outer P w H s Q u s'
 |.ok _=>False
 |.error e=>CX outer H s E e s'
structure FnOk(P:av)(w:az)(K:k9d)(mg:k9g)(base:aC)(CX:CXT)(k:Nat)(f:ae)(fd:aN)(ps:List ah)(sp:Sp):Prop where
 len:∀vs H Q E,sp vs H Q E->vs.length=ps.length
 run:∀(A:aB)(outer:List dR)(s:af)(H:Hp)(args:Args)(us:List aa)(vs:List V) (Q:VK) (E:XK),Room k A->Env0 P w K mg base A outer s H->dy s fd args (ps.zip us)->Vals vs us->sp vs H Q E ->
  cG (ax P w) A (.call (.ref f) args) (CR CX outer P w H s Q E) s
theorem FnOk.imp{P:av}{w:az}{K:k9d}{mg:k9g}{base:aC}{CX:CXT}{k:Nat}{f:ae}{fd:aN}{ps:List ah}{sp sp':Sp}(F:FnOk P w K mg base CX k f fd ps sp)
  (h:∀vs H Q E,sp' vs H Q E->sp vs H Q E):FnOk P w K mg base CX k f fd ps sp' :=
 ⟨λvs H Q E q=>F.len vs H Q E (h _ _ _ _ q),λA outer s H args us vs Q E hr he hb hv hs=>F.run A outer s H args us vs Q E hr he hb hv (h _ _ _ _ hs)⟩
section
variable{X:Cx}{pins:k9f}{σ:St}{H:Hp}{s s':af}
theorem Inv.env0(I:Inv X pins σ H s):Env0 X.prog X.w X.K X.mg X.base X.A X.stack s H :=
 ⟨I.ok.frames,I.ok.mod,I.bs,Xl I.ok.bsz I.sz,I.stack,I.stkFree,I.hok,I.bare⟩
theorem Inv.after{Q:VK}{u:aa}(I:Inv X pins σ H s)(h:CE X.stack X.prog X.w H s Q u s'):EP X pins σ Q u s':=by obtain⟨v,H',os,bare,un,hok,r,q⟩:=h;obtain⟨hh,g,d,t,os'⟩:=s';obtain rfl:os'=s.os:=os;exact⟨v,H',I.call (h':=hh) (g':=g) (d':=d) (t':=t) (ch:=[]) un hok bare (λb z=>absurd z (by simp)),r,q⟩
end
def jl1(sp:Sp)(dvs:List V)(E:XK)(t:TA):TE:=λσ H Q=>t σ H λvs H1=>sp (vs++dvs) H1 Q E
def Binds(K:k9d)(fd:aN)(ps:List ah)(ds:List aa):Prop :=
 ∀(s:af)(us:List aa),K.In s.heap->(us++ds).length=ps.length->dy s fd ⟨us,[]⟩ (ps.zip (us++ds))
theorem Binds.all{K:k9d}{fd:aN}{ps:List ah}(h:∀us:List aa,us.length=ps.length->fb fd ⟨us,[]⟩=pure (ps.zip us)):Binds K fd ps []:=λs us _ hl=>by rw[Xx]at hl ⊢;exact .of_eq (h us hl)
def Bb(CX:CXT)(X:Cx)(E:XK):Prop:=∀(pins:k9f) (σ:St) (H:Hp) (s:af) (e:aa) (s':af),Inv X pins σ H s->CX X.stack H s E e s'->X.xe e s'
section
variable{X:Cx}{CX:CXT}{k:Nat}{f C:ae}{fd:aN}{ps:List ah}{sp:Sp}{dvs:List V}{ds:List aa}{E:XK}{x m:ah}{p pos apos:aM}{e o:aj}{es:List aj}{ta:TE}{t:TA}
theorem jgs{pins:k9f}{σ:St}{H:Hp}{s:af}{Q:VK}{us:List aa}{vs:List V}(F:FnOk X.prog X.w X.K X.mg X.base CX k f fd ps sp)(hr:Room k X.A)(hb:Binds X.K fd ps ds)(hd:Vals dvs ds)(hx:Bb CX X E)
  (I:Inv X pins σ H s) (r:Vals vs us) (h:sp (vs++dvs) H Q E):ar (ax X.prog X.w) X.A (call (.ref f) us) (EP X pins σ Q) X.xe s:=by
 have r2:Vals (vs++dvs) (us++ds):=r.append hd;have hl:(us++ds).length=ps.length:=by rw[<-r2.length];exact F.len _ _ _ _ h
 refine eL (bh (F.run X.A X.stack s H ⟨us,[]⟩ (us++ds) (vs++dvs) Q E hr I.env0 (hb s us I.kIn hl) r2 h) λr s' hq=>?_);cases r with
 |error e=>exact hx pins σ H s e s' I hq
 |ok fl =>
  cases fl with
  |ret u=>exact I.after hq
  |next=>exact aR hq
  |brk=>exact aR hq
  |cont=>exact aR hq
theorem Bo(F:FnOk X.prog X.w X.K X.mg X.base CX k f fd ps sp)(hr:Room k X.A)(hg:Gl X x)(hm:X.mg x=a3 (.ref f))(hk:W.keepIn X.K (.ref f)=a6)(hb:Binds X.K fd ps ds)(hd:Vals dvs ds)(hx:Bb CX X E)
  (ha:PA X (e::es) t) (hdb:(x==k9h)=a4:=by decide) (he:a8 (e::es) X.env=(a4,ay e X.env)::a8 es X.env:=by rfl) (hpl:(aL pos (a8 es X.env)).any (·.1)=a4:=by rfl) :
  PE X (.Call (.Name x p) (e::es) [] pos) (jl1 sp dvs E t):=by
 intro pins s σ H Q I h;refine aG (U4 I hg hm ?_ hdb);refine W.callWith_K (h₀:=X.base) I.ok.mod.kin hk (thn (ha pos pins s σ H _ I h) λus s1 ⟨vs,H1,I1,r,q⟩=>⟨I1.kIn,?_⟩) he hpl;exact jgs F hr hb hd hx I1 r q
structure Mk(K:k9d)(C f:ae):Prop where
 makes:W.makesIn K C=a6
 init:W.findIn K (.ref C) "__init__" = a3 (a3 (.ref f))
 fn:W.isFn K (.ref f)=a6
 kp:W.keepIn K (.ref C)=a6
end
def PK(X:Cx)(kws:List aS)(t:TA):Prop :=
 ∀(pos:aM)(pins:k9f) (s:af) (σ:St) (H:Hp) (Q:List V->Hp->Prop),Inv X pins σ H s->t σ H Q->ar (ax X.prog X.w) X.A (evalAll ((aT pos (aD kws X.env)).map (·.2))) (AP X pins σ Q) X.xe s
section
variable{X:Cx}{CX:CXT}{k:Nat}{f C:ae}{fd:aN}{ps ks:List ah}{sp:Sp}{E:XK}{x m:ah}{p pos apos kpos:aM}{e o:aj}{es:List aj}{kws:List aS}{te ta:TE}{t tk:TA}{nm:Option ah}
theorem jh9:PK X [] jgd:=λ_ _ _ _ H Q I h=>wpAny_evalAll_nil ⟨[],H,I,.nil,h⟩
theorem Vn(ha:PE X e te)(hr:PK X kws t):PK X (⟨nm,e,kpos⟩::kws) (jc2 te t):=by intro pos pins s σ H Q I h;show ar _ _ (evalAll ((do let v <-ay e X.env;fY pos;pure v)::(aT pos (aD kws X.env)).map (·.2))) _ _ s;refine wpAny_evalAll_cons (a7 (thn (ha pins s σ H _ I h) λu s1 ⟨x,H1,I1,r1,q1⟩=>a7 (dU (ai ?_))));exact thn (hr pos pins s1 σ H1 _ I1 q1) λus s2 ⟨xs,H2,I2,r2,q2⟩=>⟨x::xs,H2,I2,.cons r1 r2,q2⟩
structure KBinds(K:k9d)(fd:aN)(ps ks:List ah)(g:List aa->List aa->List aa)(gV:List V->List V->List V):Prop where
 to:∀(s:af)(us ws:List aa),K.In s.heap->(g us ws).length=ps.length->dy s fd ⟨us,ks.zip ws⟩ (ps.zip (g us ws))
 rel:∀{vs:List V}{us:List aa}{zs:List V}{ws:List aa},Vals vs us->Vals zs ws->Vals (gV vs zs) (g us ws)
def jgf(sp:Sp)(gV:List V->List V->List V)(E:XK)(t tk:TA):TE:=λσ H Q=>t σ H λvs H1=>tk σ H1 λzs H2=>sp (gV vs zs) H2 Q E
variable{g:List aa->List aa->List aa}{gV:List V->List V->List V}
theorem jdh{pins:k9f}{σ:St}{H:Hp}{s:af}{Q:VK}{us ws:List aa}{vs zs:List V}(F:FnOk X.prog X.w X.K X.mg X.base CX k f fd ps sp)(hr:Room k X.A)(hb:KBinds X.K fd ps ks g gV)(hx:Bb CX X E)
  (I:Inv X pins σ H s) (r:Vals vs us) (rz:Vals zs ws) (h:sp (gV vs zs) H Q E):ar (ax X.prog X.w) X.A (call (.ref f) us (ks.zip ws)) (EP X pins σ Q) X.xe s:=by
 have r2:=hb.rel r rz;have hl:(g us ws).length=ps.length:=by rw[<-r2.length];exact F.len _ _ _ _ h
 refine eL (bh (F.run X.A X.stack s H ⟨us,ks.zip ws⟩ (g us ws) (gV vs zs) Q E hr I.env0 (hb.to s us ws I.kIn hl) r2 h) λr s' hq=>?_);cases r with
 |error e=>exact hx pins σ H s e s' I hq
 |ok fl =>
  cases fl with
  |ret u=>exact I.after hq
  |next=>exact aR hq
  |brk=>exact aR hq
  |cont=>exact aR hq
theorem j9p(F:FnOk X.prog X.w X.K X.mg X.base CX k f fd ps sp)(hr:Room k X.A)(hg:Gl X x)(hm:X.mg x=a3 (.ref f))(hk:W.keepIn X.K (.ref f)=a6)(hb:KBinds X.K fd ps ks g gV)(hx:Bb CX X E)
  (ha:PA X (e::es) t) (hkw:PK X kws tk) (hall:(aT pos (aD kws X.env)).all (·.1.isSome)=a6:=by rfl) (hks:(aT pos (aD kws X.env)).filterMap (·.1)=ks:=by rfl)
  (hdb:(x==k9h)=a4:=by decide) (he:a8 (e::es) X.env=(a4,ay e X.env)::a8 es X.env:=by rfl)
  (hpl:((aL pos (a8 (e::es) X.env)).any (·.1) || (aT pos (aD kws X.env)).any (·.1.isNone))=a4:=by rfl) :
  PE X (.Call (.Name x p) (e::es) kws pos) (jgf sp gV E t tk):=by
 intro pins s σ H Q I h;refine aG (U4 I hg hm ?_ hdb);refine W.callWith_KW (h₀:=X.base) I.ok.mod.kin hk hall (thn (ha pos pins s σ H _ I h) λus s1 ⟨vs,H1,I1,r,q⟩=>?_) hpl he;refine thn (hkw pos pins s1 σ H1 _ I1 q) λws s2 ⟨zs,H2,I2,rz,q2⟩=>⟨I2.kIn,?_⟩
 rw[hks];exact jdh F hr hb hx I2 r rz q2
end
structure FnScope(N P:List ah)(sc:b9):Prop where
 kind:sc.kind=.function
 co:sc.isCoroutine=a4
 gen:sc.isGenerator=a4
 nd:N.Nodup
 pre:N.take P.length=P
 par:∀x∈P,sc.names.lookup x=a3 .local\/sc.names.lookup x=a3 .cell
 nofree:∀y∈sc.names,y.2≠.free
theorem Et{kindOf:ah->Option bq}{x:ah}:∀{binds:List (ah×aa)} {m:k9g},(∀v,(x,v)∉binds)->iQ kindOf binds m x=m x
 |[],_,_=>rfl
 |(n,v)::r,m,h=>by
  unfold iQ;rw[Et λw hw=>h w (xf _ hw)];split
  .have:x≠n:=by rintro rfl;exact h v xq
   simp[this]
  .rfl
theorem Ew{kindOf:ah->Option bq}{x:ah}:∀{binds:List (ah×aa)} {m:k9g},(∀v,(x,v)∉binds)->iR kindOf binds m x=m x
 |[],_,_=>rfl
 |(n,v)::r,m,h=>by
  unfold iR;rw[Ew λw hw=>h w (xf _ hw)];split
  .rfl
  .have:x≠n:=by rintro rfl;exact h v xq
   simp[this]
theorem Eu{kindOf:ah->Option bq}{x:ah}{v:aa}:∀{P:List ah}{vs:List aa}{i:Nat}{m:k9g},P.Nodup->P[i]?=a3 x->vs[i]?=a3 v->kindOf x=a3 .local ->
  iQ kindOf (P.zip vs) m x=a3 v
 |[],_,_,_,_,h,_,_=>by simp at h
 |_::_,[],_,_,_,_,h,_=>by simp at h
 |p::P,w::vs,0,m,nd,h1,h2,hk=>by simp at h1 h2;subst h1;subst h2;show iQ kindOf ((p,w)::P.zip vs) m p=_;unfold iQ;rw[Et λv hv=>(Xi.mp nd).1 (dY hv).1,if_pos hk];simp
 |p::P,w::vs,i+1,m,nd,h1,h2,hk=>by show iQ kindOf ((p,w)::P.zip vs) m x=_;unfold iQ;exact Eu (i:=i) (Xi.mp nd).2 (by simpa using h1) (by simpa using h2) hk
theorem Ey{kindOf:ah->Option bq}{x:ah}{v:aa}:∀{P:List ah}{vs:List aa}{i:Nat}{m:k9g},P.Nodup->P[i]?=a3 x->vs[i]?=a3 v->kindOf x≠a3 .local ->
  iR kindOf (P.zip vs) m x=a3 v
 |[],_,_,_,_,h,_,_=>by simp at h
 |_::_,[],_,_,_,_,h,_=>by simp at h
 |p::P,w::vs,0,m,nd,h1,h2,hk=>by simp at h1 h2;subst h1;subst h2;show iR kindOf ((p,w)::P.zip vs) m p=_;unfold iR;rw[Ew λv hv=>(Xi.mp nd).1 (dY hv).1,if_neg hk];simp
 |p::P,w::vs,i+1,m,nd,h1,h2,hk=>by show iR kindOf ((p,w)::P.zip vs) m x=_;unfold iR;exact Ey (i:=i) (Xi.mp nd).2 (by simpa using h1) (by simpa using h2) hk
noncomputable def start(N:List ah)(vs:List V):St:=vs.map a3++a5 (N.length-vs.length) a9
noncomputable def J1(CX:CXT)(P:av)(w:az)(K:k9d)(mg:k9g)(base:aC)(N:List ah)(qual:ah)(scope:b9)(f:ae)(cd:aa)(A:aB)(outer:List dR)(s:af)(H:Hp)(E:XK):Cx where
 prog:=P
 w:=w
 K:=K
 mg:=mg
 base:=base
 A:=A.deeper (bB qual scope s.heap.objs.size f cd)
 N:=N
 s₀:=s
 H₀:=H
 env:=bB qual scope s.heap.objs.size f cd
 outer:=outer
 stack:=bB qual scope s.heap.objs.size f cd::outer
 ex:=[]
 calm:=a6
 fn:=λ_=>a6
 pn:=[]
 xe:=λe s'=>ar (ax P w) (A.deeper (bB qual scope s.heap.objs.size f cd)) (leaving (bB qual scope s.heap.objs.size f cd) e) (λ_ s''=>CX outer H s E e s'') (λe' s''=>CX outer H s E e' s'') s'
theorem j2g{sc:b9}{n:Nat}{x:ah}(h:sc.names.lookup x=a3 .cell):∃c,(aP n sc.names []).lookup x=a3 c:=by have q:=W.cellsFrom_some sc.names n [] (.inl h);exact Xz.mp q
theorem j7k{CX:CXT}{P:av}{w:az}{K:k9d}{mg:k9g}{base:aC}{N ps:List ah}{qual:ah}{scope:b9}{f:ae}{cd:aa}{A:aB}{outer:List dR}{s s1:af}{H:Hp}{E:XK}{us:List aa}{vs:List V}
  (S:FnScope N ps scope) (cm:Bool) (hd:cm=a6->A.handled=a9) (e0:Env0 P w K mg base A outer s H) (hl:vs.length=ps.length) (r:Vals vs us)
  (x:InCallC s s.heap.objs.size (iQ (bB qual scope s.heap.objs.size f cd).kindOf (ps.zip us) λ_=>a9) (aP (s.heap.objs.size+1) scope.names []) (iR (bB qual scope s.heap.objs.size f cd).kindOf (ps.zip us) λ_=>a9) s1) :
  Inv { J1 CX P w K mg base N qual scope f cd A outer s H E with calm:=cm } [] (start N vs) H s1:=by
 have hpl:ps.length<=N.length:=by have:=congrArg cP S.pre;rw[Xq]at this;omega
 obtain⟨h1,tk,rfl,hk⟩:=x.done;have noA:∀b:ae,b∉(J1 CX P w K mg base N qual scope f cd A outer s H E).ex:=λb z=>absurd (show b∈([]:List ae)from z) (by simp);refine⟨⟨e0.mod,S.kind,rfl,rfl,xu _,λy z c h1 h2=>?_,λy hy=>?_,λy c _ h=>?_,hd,Around.frames_deeper e0.frames,.inr ⟨rfl,rfl⟩,λb z=>absurd z (noA b),e0.bs,e0.bsz,λb _ _=>noA b,λb z=>absurd z (noA b),e0.funs,e0.frf⟩,
  rfl,e0.bare,Un.kept hk,⟨_,x.toInCall.ns,λi y v h1 h2 h3=>?_⟩,λy c h=>⟨_,x.cell y c h⟩,e0.hok.fresh (xu _),λy c h=>?_,λp hp=>absurd (show p∈([]:k9f)from hp) (by simp),e0.hok.kept hk,?_⟩
 .exact name_of_addr x.apart (Pz h1) (Pz h2)
 .have hy:scope.names.lookup y=a3 .cell\/scope.names.lookup y=a3 .free:=hy;rcases hy with hy|hy
  .exact j2g hy
  .exact absurd rfl (S.nofree _ (Pz hy))
 .exact cJ (x.above y c (Pz h))
 .have hi:i<vs.length:=by
   unfold start at h2;by_cases hi:i<vs.length
   .exact hi
   .rw[bT (by simpa using hi)]at h2;rw[su]at h2;split at h2<;>cases h2
  have ha:vs[i]?=a3 v:=by
   unfold start at h2;rw[Px (by simpa using hi),xx]at h2;cases e:vs[i]? with
   |none=>rw[e]at h2;cases h2
   |some a=>rw[e]at h2;cases h2;rfl
  obtain⟨u,hu,rv⟩:=r.get ha;have hp:ps[i]?=a3 y:=by rw[<-S.pre,List.getElem?_take_of_lt nofun];exact h1
  have ndP:ps.Nodup:=by rw[<-S.pre];exact S.nd.sublist (List.take_sublist _ _)
  refine⟨u,rv,?_⟩;rcases S.par y (Xf hp)with k|k
  .exact .inl ⟨k,Eu ndP hp hu k⟩
  .obtain⟨c,e⟩:=j2g (n:=s.heap.objs.size+1) k;refine .inr ⟨.inl k,c,e,?_⟩;have q:=x.cell y c e;rw[Ey ndP hp hu (by show scope.names.lookup y≠_;rw[k];decide)]at q;exact q
 .exact e0.hok.fresh (cJ (x.above y c (Pz h)))
 .unfold start;show _=N.length;rw[Xa,km,Xg];omega
theorem Inv.extOut{X:Cx}{pins:k9f}{σ:St}{H H2:Hp}{s:af}(J:Inv X pins σ H s)(x:Ext X H H2 s):HOk X.prog X.w H2 s.heap/\(X.ex=[]->Un X.fs [] X.H₀ H2 X.s₀.heap s.heap):=by
 have old:∀b o,X.s₀.heap.get? b=a3 o->H2 b=H b:=λb o e=>(x b).elim id λ⟨y,ob,v,hc,hf,_⟩=>absurd (Xn (X3 e) (J.ok.cab y b hf hc)) (Pg _);have trk:∀{b:ae}{u:HO},H b=a3 u->H2 b=a3 u:=λ{b u} e=>(x b).elim (λz=>z.trans e) λ⟨y,ob,v,hc,_⟩=>by rw[J.freeC y b hc]at e;cases e
 refine⟨λa o e=>?_,λhx=>?_⟩
 .rcases x a with z|⟨y,ob,v,_,_,e2,e3,_⟩
  .exact(J.hok a o (z▸e)).stay (λ_ _ _ q=>q) (λ_ q=>trk q) (λ_ _ q=>trk q) λ_ _ _ q=>trk q
  .rw[e2]at e;cases e;exact⟨e3,ob,e3⟩
 .have nx:∀b,b∉X.ex:=λb=>by rw[hx];simp
  exact⟨λb o e n hb _=>J.base.keep b o e n hb (nx b),λb o e n hb _=>J.base.slot b o e n hb (nx b),λb o e n _=>(old b o e).trans (J.base.free b o e n (nx b)),λb o e _=>J.base.there b o e (nx b),
   λb xs e=>trk (J.base.tups b xs e),λb o u e=>trk (J.base.frzs b o u e),λb ps e=>let ⟨m,z⟩:=J.base.tbls b ps e;⟨m,trk z⟩⟩
theorem jcl{CX:CXT}{P:av}{w:az}{K:k9d}{mg:k9g}{base:aC}{k:Nat}{f:ae}{name qual:ah}{params:dC}{body:List aX}{scope:b9}{dV kV doc pm cdv ct oc:aa}{an od:Option ae}
  {osl:Array (Option aa)} {N ps:List ah} {sp:Sp} (lk:K.lookup f=a3 ⟨oc,od,.func (W.fnOf name qual params body scope dV kV doc pm an cdv ct),osl⟩) (hcd:W.codeIn K cdv qual=a6) (S:FnScope N ps scope)
  (len:∀vs H Q E,sp vs H Q E->vs.length=ps.length)
  (hbody:∀(A:aB)(outer:List dR)(s:af)(H:Hp)(vs:List V)(Q:VK)(E:XK),Room k (A.deeper (bB qual scope s.heap.objs.size f cdv))->sp vs H Q E ->
   ∃t,PSs (J1 CX P w K mg base N qual scope f cdv A outer s H E) body t/\t { nx:=λ_ H'=>Q .non H',rt:=Q } (start N vs) H) :
  FnOk P w K mg base CX (k+1) f (W.fnOf name qual params body scope dV kV doc pm an cdv ct) ps sp:=by
 refine⟨len,λA outer s H args us vs Q E hr e0 hb r hsp=>?_⟩;have hl:=len _ _ _ _ hsp;have KX:K.In s.heap:=e0.mod.kin.keeps λb o e=>(e0.bs b o e).1;have lim:s.heap.NoLimit:=e0.mod.nolimit.keeps λb o e=>(e0.bs b o e).1;have hkind:∀y∈ps.zip us,scope.names.lookup y.1=a3 .local\/(scope.names.lookup y.1=a3 .cell/\((aP (s.heap.objs.size+1) scope.names []).lookup y.1).isSome=a6):=λ⟨n,v⟩ hy=>by
  rcases S.par n (dY hy).1 with q|q
  .exact .inl q
  .exact .inr ⟨q,W.cellsFrom_some _ _ _ (.inl q)⟩
 refine codeAny_call_function hr.depth (KX _ _ lk) rfl S.co S.gen rfl (W.codeRec_of KX hcd) (hb _ _ _ _ ?_);refine wpAny_newFunctionEnv_cells S.kind hkind λenv he s1 x=>?_;subst he;refine⟨lim.keeps x.toInCall.keep,codeAny_func ?_⟩;obtain⟨t,ht,hq⟩:=hbody A outer s H vs Q E (hr.deeper _) hsp;have I:Inv (J1 CX P w K mg base N qual scope f cdv A outer s H E) [] (start N vs) H s1:=j7k S a6 (λ_=>hr.hd) e0 hl r x;refine bL (ht [] s1 (start N vs) H _ I hq) (λfl s' hs=>?_) λe s' hs=>hs;have fin:∀{σ':St}{H':Hp}{v:V}{u:aa},Inv (J1 CX P w K mg base N qual scope f cdv A outer s H E) [] σ' H' s'->RelV v u->Q v H'->CE outer P w H s Q u s' :=
  λ{σ' H' v u} J rv q=>⟨v,H',J.os,J.bare,J.base,J.hok,rv,q⟩
 cases fl with
 |ret u =>obtain⟨v,σ',H',H2,J,rv,x,q⟩:=hs;exact⟨v,H2,J.os,J.bare,(J.extOut x).2 rfl,(J.extOut x).1,rv,q⟩
 |next =>obtain⟨σ',H',J,q⟩:=hs;exact fin (v:=V.non) (u:=aQ) J rfl q
 |brk =>obtain⟨_,_,_,q⟩:=hs;exact aR q
 |cont =>obtain⟨_,_,_,q⟩:=hs;exact aR q
section
variable{X:Cx}{x:ah}{p pos:aM}{e:aj}{es:List aj}{t:TA}{id T:String}{r:List V->Hp->VK->Prop}
def tCB(r:List V->Hp->VK->Prop)(t:TA):TE:=λσ H Q=>t σ H λvs H1=>r vs H1 Q
theorem J0 (hc:Ju X (.builtin id) r) (hg:Gl X x) (hm:X.mg x=a9) (hv:b7 x=a3 (.builtin id)) (ha:PA X (e::es) t) (hn:x ≠ "__name__":=by decide) (hdb:(x==k9h)=a4:=by decide)
  (he:a8 (e::es) X.env=(a4,ay e X.env)::a8 es X.env:=by rfl) (hpl:(aL pos (a8 es X.env)).any (·.1)=a4:=by rfl):PE X (.Call (.Name x p) (e::es) [] pos) (tCB r t):=by
 intro pins s σ H Q I h;refine aG (Ql I hg hm hv ?_ hn hdb);exact callWith_builtin1 (thn (ha pos pins s σ H _ I h) λus s1 ⟨vs,H1,I1,r1,q1⟩=>hc pins s1 σ H1 vs us Q I1 r1 q1) he hpl
theorem O9 (hc:Ju X (.type T) r) (hg:Gl X x) (hm:X.mg x=a9) (hv:b7 x=a3 (.type T)) (ha:PA X (e::es) t) (hn:x ≠ "__name__":=by decide) (hdb:(x==k9h)=a4:=by decide)
  (he:a8 (e::es) X.env=(a4,ay e X.env)::a8 es X.env:=by rfl) (hpl:(aL pos (a8 es X.env)).any (·.1)=a4:=by rfl):PE X (.Call (.Name x p) (e::es) [] pos) (tCB r t):=by
 intro pins s σ H Q I h;refine aG (Ql I hg hm hv ?_ hn hdb);exact callWith_type1 (thn (ha pos pins s σ H _ I h) λus s1 ⟨vs,H1,I1,r1,q1⟩=>hc pins s1 σ H1 vs us Q I1 r1 q1) he hpl
end
end L2
namespace HT
open PySem PyProof.Rows
noncomputable def lexLt:List Int->List Int->Bool
 |[],[]=>a4
 |[],_::_=>a6
 |_::_,[]=>a4
 |x::xs,y::ys=>if x=y then lexLt xs ys else decide (x<y)
theorem j5c(x y:Int)(xs ys:List Int):lexLt (x::xs) (y::ys)=if x=y then lexLt xs ys else decide (x<y):=rfl
theorem j05:lexLt [] []=a4:=rfl
theorem Kq(y:Int)(ys:List Int):lexLt [] (y::ys)=a6:=rfl
theorem Kr(x:Int)(xs:List Int):lexLt (x::xs) []=a4:=rfl
theorem jay(A:aB)(s:af)(a:Int)(t:hV)(c:Int)(u:hV):∃e,cZ A s (.int a t) (.int c u) e/\(e=a6↔a=c) :=
 ⟨(a==c),SeqAt.EqAt.int_int a t c u,by simp⟩
theorem j9g(A:aB)(s:af)(a:Int)(t:hV)(c:Int)(u:hV)(prog:av)(w:az)(E:k9e)(Q:k9e)(h:Q (.bool (decide (a<c))) s) :
  ar (ax prog w) A (jS .Lt (.int a t) (.int c u)) Q E s :=
 (lt_int h:ar (ax prog w) A (aO .Lt (.int a t) (.int c u)) Q E s)
section
open PySem.SeqAt
open PySem.AutoSeq1 (wpAny_loadPart')
open PySem.MeetsSeq PySem.MeetsSeq2 PySem.MeetsSeq3
theorem j00(l b:ae)(items items2:Array aa)(n n2:Nat)(dd dd2:Option ae)(sl sl2:Array (Option aa))(ns ms:List Int)(hi:cX items.toList ns)(hj:cX items2.toList ms) :
  mz (eN.«tuple.__lt__» ⟨[.ref l,.ref b],[]⟩)
   (λ_ R s=>s.heap.get? l=a3 { cls:=.type "tuple",dict:=dd,data:=.seq items n,slots:=sl }/\s.heap.get? b=a3 { cls:=.type "tuple",dict:=dd2,data:=.seq items2 n2,slots:=sl2 } /\
    R (.ok (.ret (.bool (lexLt ns ms)))) s) :=
 .of_wp λprog w A R s h=>by
  obtain⟨hp,g,d,tk,os⟩:=s;obtain⟨hl,hb,h⟩:=h;have f2:=AutoSeq1.sub_tuple_tuple;have z1:items.size=ns.length:=by rw[<-hi.length];simp
  have z2:items2.size=ms.length:=by rw[<-hj.length];simp
  wp_walk using lW hl,lW hb,wpAny_forIn_list _ (λrest b s'=>b.1=a9/\s'=⟨hp,g,d,tk,os⟩/\∃(vs ws:List aa)(ns' ms':List Int),rest=vs.zip ws /\
   cX vs ns'/\cX ws ms'/\ns'.length+items2.size=ms'.length+items.size/\R (.ok (.ret (.bool (lexLt ns' ms')))) ⟨hp,g,d,tk,os⟩) _
  case turn =>
   rintro⟨y,x⟩ rest b s' ⟨hb',rfl,vs,ws,ns',ms',hz,hvi,hwi,hlen,hR⟩;cases hvi with
   |nil=>rw[List.zip_nil_left]at hz;cases hz
   |cons a t hvi' =>
    cases hwi with
    |nil=>rw[List.zip_nil_right]at hz;cases hz
    |cons c u hwi' =>
     rw[iV]at hz;injection hz with hyx hrest;injection hyx with hy hx;subst hy hx;rw[j5c]at hR;simp only[X7]at hlen;obtain⟨e,he,hiff⟩:=jay A.in1 ⟨hp,g,d,tk,os⟩ a t c u;refine a7 (he prog w _ _ ?_);cases e with
     |true =>
      rw[if_pos (hiff.mp rfl)]at hR
      wp_walk
      exact⟨rfl,rfl,_,_,_,_,hrest,hvi',hwi',by omega,hR⟩
     |false =>
      rw[if_neg (λq=>absurd (hiff.mpr q) xg)]at hR;have hri:=j9g A.in1 ⟨hp,g,d,tk,os⟩ a t c u prog w
      wp_walk using hri
      exact⟨_,rfl,by simpa using hR⟩
  case fin =>
   rintro⟨b1,b2⟩ s' ⟨hb',rfl,vs,ws,ns',ms',hz,hvi,hwi,hlen,hR⟩;simp only at hb';subst hb';have hv:lexLt ns' ms'=decide (items.size<items2.size):=by
    cases hvi with
    |nil =>
     cases hwi with
     |nil =>simp only[Tg]at hlen;rw[j05];exact(decide_eq_false nofun).symm
     |cons c u hw =>simp only[Tg,X7]at hlen;rw[Kq];exact(decide_eq_true nofun).symm
    |cons a t hv =>
     cases hwi with
     |nil =>simp only[Tg,X7]at hlen;rw[Kr];exact(decide_eq_false nofun).symm
     |cons c u hw =>rw[iV]at hz;cases hz
   rw[hv]at hR
   wp_walk
   exact⟨_,rfl,by simpa [l9]using hR⟩
  case h =>exact⟨rfl,rfl,items.toList,items2.toList,ns,ms,rfl,hi,hj,by omega,h⟩
end
section
variable{prog:av}{w:az}{A:aB}{E:k9e}{s:af}
theorem lt_tupInts{l b:ae}{items items2:Array aa}{ns ms:List Int}{Q:k9e}(hl:ig s.heap l items)(hb:ig s.heap b items2)(hi:cX items.toList ns)(hj:cX items2.toList ms)
  (hu:A.units<aV) (h:Q (.bool (lexLt ns ms)) s):ar (ax prog w) A (aO .Lt (.ref l) (.ref b)) Q E s:=by
 obtain⟨⟨cls,dd,data,sl⟩,ho,hc,n,hd⟩:=id hl;obtain⟨⟨cls2,dd2,data2,sl2⟩,ho2,hc2,n2,hd2⟩:=id hb;simp only at hc hd hc2 hd2;subst hc hd hc2 hd2;exact richCompare_meets_room (op:=.Lt) ⟨_,ho,rfl⟩ ⟨_,ho2,rfl⟩ PySem.F.slot_tuple_lt PySem.F.entry_tuple_lt (PySem.F.args_tuple_lt_2 _ _) (j00 l b items items2 n n2 dd dd2 sl sl2 ns ms hi hj)
  ⟨ho,ho2,show bC (lexLt ns ms)≠i6/\Q (.bool (lexLt ns ms)) s from⟨(λx=>nomatch x),h⟩⟩ hu
theorem cat_tup{t b:ae}{vs ws:List aa}{Q:k9e}(ht:ig s.heap t vs.toArray)(hb:ig s.heap b ws.toArray)(hv:vs≠[])
  (h1:ws=[]->Q (.ref t) s) (h2:ws≠[]->Q (.ref s.heap.objs.size) { s with heap:=s.heap.push { cls:=.type "tuple",data:=.seq (vs++ws).toArray } })
  (hsz:vs.length+ws.length<=ak):ar (ax prog w) A (b8 .Add (.ref t) (.ref b)) Q E s:=by
 obtain⟨⟨cls,dd,data,sl⟩,ho,hc,n,hd⟩:=id ht;obtain⟨⟨cls2,dd2,data2,sl2⟩,ho2,hc2,n2,hd2⟩:=id hb;simp only at hc hd hc2 hd2;subst hc hd hc2 hd2;have e:vs.toArray++ws.toArray=(vs++ws).toArray:=by simp
 by_cases hw:ws=[]
 .exact fZ ⟨_,ho,rfl⟩ ⟨_,ho2,rfl⟩ gB iJ dG dq (di _ _)
   (tuple_addW1 t b vs.toArray ws.toArray n n2 dd dd2 sl sl2 (by simpa using hv) (by simp[hw])) ⟨ho,ho2,h1 hw⟩
 .refine fZ ⟨_,ho,rfl⟩ ⟨_,ho2,rfl⟩ gB iJ dG dq (di _ _)
   (tuple_addW2 t b vs.toArray ws.toArray n n2 dd dd2 sl sl2 (by simpa using hv) (by simpa using hw) (by rw[X4,X4];exact hsz)) ⟨ho,ho2,?_⟩
  rw[e];exact h2 hw
noncomputable def sIx(n d:Nat):Option Int->Nat
 |none=>d
 |some v=>if v<0 then(v+(n:Int)).toNat else min v.toNat n
theorem sIx_none(n d:Nat):sIx n d a9=d:=rfl
theorem sIx_nat(n d k:Nat):sIx n d (a3 (k:Int))=min k n:=by show(if (k:Int)<0 then((k:Int)+(n:Int)).toNat else min (k:Int).toNat n)=min k n;rw[if_neg nofun,X6]
theorem jgr(n d:Nat)(hd:d<=n)(o:Option Int):sIx n d o<=n:=by
 cases o with
 |none=>exact hd
 |some v =>
  show(if v<0 then(v+(n:Int)).toNat else min v.toNat n)<=n;by_cases hv:v<0
  .rw[if_pos hv];omega
  .rw[if_neg hv];exact Nat.min_le_right _ _
theorem j4h(v:Int)(n d:Nat):(if v<0 then max (v+(n:Int)) 0 else min v (n:Int))=((sIx n d (a3 v):Nat):Int):=by
 show(if v<0 then max (v+(n:Int)) 0 else min v (n:Int))=(((if v<0 then(v+(n:Int)).toNat else min v.toNat n):Nat):Int)
 by_cases hv:v<0
 .simp only[if_pos hv];omega
 .simp only[if_neg hv];omega
theorem j5u(lo hi:Option Int)(n:Nat):cO lo hi 1 (n:Int)=(((sIx n 0 lo:Nat):Int),((sIx n n hi:Nat):Int)):=by
 have h1:¬((1:Int)<0):=by omega
 unfold cO;simp only[h1,if_false];refine Prod.ext ?_ ?_
 .cases lo with
  |none=>rfl
  |some v=>exact j4h v n 0
 .cases hi with
  |none=>rfl
  |some v=>exact j4h v n n
theorem j4z(i j:Nat):bH (i:Int) (j:Int) 1=j-i:=by
 unfold bH;have h1:(1:Int)>0:=by omega
 simp only[h1,if_true,Int.ediv_one];split<;>omega
theorem Cj{v:aa}{o:Option Int}{Q:Option Int->af->Prop}(p:fe v o)(h:Q o s):ar (ax prog w) A (lh v) Q E s:=by
 cases p with
 |none=>exact mC h
 |int i t=>exact slicePart_int h
theorem Fg{sl:ae}{vl vu:aa}{lo hi:Option Int}{n:Nat}{Q:Int×Int×Nat->af->Prop}(hs:s.heap.IsSliceOf sl vl vu .none)(pl:fe vl lo)(pu:fe vu hi)
  (h:Q (((sIx n 0 lo:Nat):Int),1,sIx n n hi-sIx n 0 lo) s):ar (ax prog w) A (eV (.ref sl) (pure (n:Int))) Q E s:=by
 obtain⟨os,hos,hcs,hds⟩:=id hs;unfold eV lj;refine a7 (a7 (cL hos hds (x:=vl) rfl (a7 (cL hos hds (x:=vu) rfl (a7 (cL hos hds (x:=.none) rfl (ai ?_)))))));refine a7 (mC ?_);show ar _ _ (if ((1:Int)==0)=a6 then _ else _) _ _ s;rw[if_neg (by decide)];refine a7 (Cj pl (a7 (Cj pu (a7 (ai ?_)))));show ar _ _ (match cO lo hi 1 (n:Int)with|(lo,hi)=>pure (lo,(1:Int),bH lo hi 1)) _ _ s;rw[j5u lo hi n];show ar _ _ (pure (((sIx n 0 lo:Nat):Int),(1:Int),bH ((sIx n 0 lo:Nat):Int) ((sIx n n hi:Nat):Int) 1)) _ _ s;rw[j4z];exact ai h
theorem j9m(xs:Array aa)(i k:Nat):((aq k).filterMap λ(m:Nat)=>xs[((i:Int)+(m:Int)*1).toNat]?).toArray=((xs.toList.drop i).take k).toArray:=by
 have e:(λ(m:Nat)=>xs[((i:Int)+(m:Int)*1).toNat]?)=λm=>xs[i+m]?:=by
  funext m
  have:((i:Int)+(m:Int)*1).toNat=i+m:=by omega
  rw[this]
 rw[e];have:=pick_run xs i k;rw[List.filterMap_map]at this;have e2:((λx=>xs[x]?) ∘ λx=>i+x)=λm=>xs[i+m]?:=rfl;rw[e2]at this;rw[this]
theorem getItem_tuple_cut{t sl:ae}{items:Array aa}{vl vu:aa}{lo hi:Option Int}{Q:k9e}(ht:ig s.heap t items)(hs:s.heap.IsSliceOf sl vl vu .none)(pl:fe vl lo)(pu:fe vu hi)
  (hw:¬(sIx items.size 0 lo=0/\sIx items.size items.size hi=items.size))
  (h:Q (.ref s.heap.objs.size) { s with heap:=s.heap.push { cls:=.type "tuple",data:=.seq ((items.toList.drop (sIx items.size 0 lo)).take (sIx items.size items.size hi-sIx items.size 0 lo)).toArray } })
  (hsz:items.size<=ak):ar (ax prog w) A (jv (.ref t) (.ref sl)) Q E s:=by
 have htake:sizeOk (.seq ((items.toList.drop (sIx items.size 0 lo)).take (sIx items.size items.size hi-sIx items.size 0 lo)).toArray):=by show((items.toList.drop (sIx items.size 0 lo)).take (sIx items.size items.size hi-sIx items.size 0 lo)).toArray.size<=ak;rw[X4,Xq,Tp,c9];omega
 have hj:sIx items.size items.size hi<=items.size:=jgr _ _ (xu _) hi;obtain⟨os,hos,hcs,hds⟩:=id hs;have hTs:s.TypeIs (.ref sl) "slice":=⟨os,hos,hcs⟩
 unfold jv
 try with_reducible refine bx ?_
 first|refine a7 (ai ?_)|skip
 refine a7 (wpAny_sequenceKey ht.typeIs (by decide) ?_);refine a7 (bF (name:=cY "__getitem__") ht.typeIs kA
  (bE kA ht.typeIs entry_tuple_getitem ?_ (args_tuple_getitem _ _)))
 show ar _ _ (l7 (.ref t) >>= _) _ _ s;refine a7 (tupleItemsOf_ ht ?_);refine a7 (wpAny_typeOf hTs ?_);rw[if_pos (by decide)];refine a7 (Fg hs pl pu ?_);have hno:¬((((sIx items.size 0 lo:Nat):Int)==0&&(1:Int)==1&&(sIx items.size items.size hi-sIx items.size 0 lo)==items.size)=a6):=by intro q;rw[Xd,Xd]at q;have q1:((sIx items.size 0 lo:Nat):Int)=0:=eq_of_beq q.1.1;have q2:sIx items.size items.size hi-sIx items.size 0 lo=items.size:=eq_of_beq q.2;exact hw ⟨by omega,by omega⟩
 show ar _ _ (if (((sIx items.size 0 lo:Nat):Int)==0&&(1:Int)==1&&(sIx items.size items.size hi-sIx items.size 0 lo)==items.size)=a6 then _ else _) _ _ s;rw[if_neg hno,j9m]
 first
  |exact a7 (m:=aY _) (aJ (ai ⟨_,rfl,ai h⟩) htake)
  |exact a7 (m:=aY _) (aJ (a7 (ai (ai ⟨_,rfl,ai h⟩))) htake)
  |exact a7 (a7 (m:=aY _) (aJ (ai (ai ⟨_,rfl,ai h⟩)) htake))
  |exact a7 (a7 (m:=aY _) (aJ (ai ⟨_,rfl,ai h⟩) htake))
end
end HT
namespace L2
open PySem PySem.Spec PyProof.Rows
abbrev TO:=St->Hp->(Option Int->Hp->Prop)->Prop
def PO(X:Cx)(e:Option aj)(t:TO):Prop :=
 ∀(pins:k9f) (s:af) (σ:St) (H:Hp) (Q:Option Int->Hp->Prop),Inv X pins σ H s->t σ H Q ->
  ar (ax X.prog X.w) X.A (evalPart e X.env) (λu s'=>∃o H',Inv X pins σ H' s'/\fe u o/\Q o H') X.xe s
def jd2:TO:=λ_ H Q=>Q a9 H
def jkx(t:TE):TO:=λσ H Q=>t σ H λx H1=>∃i,x=.int i/\Q (a3 i) H1
theorem intsAre_of{ns:List Int}:∀{us:List aa},Vals (ns.map V.int) us->cX us ns:=by
 induction ns with
 |nil=>intro us r;rw[bY]at r;cases r;exact .nil
 |cons n ns ih =>
  intro us r;rw[xm]at r;cases r with
  |cons r1 r2 =>obtain⟨t,e⟩:=r1;subst e;exact .cons n t (ih r2)
section
variable{X:Cx}{e:aj}{te:TE}{lo hi:Option aj}{tl th:TO}{pos p2:aM}
theorem jdy:PO X a9 jd2:=by intro pins s σ H Q I h;rw[mJ];exact ai ⟨a9,H,I,.none,h⟩
theorem jdx(h:PE X e te):PO X (a3 e) (jkx te):=by intro pins s σ H Q I hw;rw[evalPart_some];refine thn (h pins s σ H _ I hw) λu s1 ⟨x,H1,I1,r1,q1⟩=>?_;obtain⟨i,rfl,q⟩:=q1;obtain⟨t,rfl⟩:=r1;exact⟨a3 i,H1,I1,.int i t,q⟩
def SlR(X:Cx)(r:V->Option Int->Option Int->Hp->VK->Prop):Prop :=
 ∀(pins:k9f) (s:af) (σ:St) (H:Hp) (x:V) (v vl vu:aa) (lo hi:Option Int) (sl:ae) (Q:VK),Inv X pins σ H s->RelV x v->s.heap.IsSliceOf sl vl vu .none->fe vl lo->fe vu hi->r x lo hi H Q ->
  ∃T id,typeLookup (.type T) "__getitem__" = pure (a3 (.builtin id))/\s.TypeIs v T/\ar (ax X.prog X.w) X.A (jv v (.ref sl)) (EP X pins σ Q) X.xe s
def tSl(r:V->Option Int->Option Int->Hp->VK->Prop)(te:TE)(tl th:TO):TE:=λσ H Q=>te σ H λx H1=>tl σ H1 λl H2=>th σ H2 λu H3=>r x l u H3 Q
theorem Ft{r:V->Option Int->Option Int->Hp->VK->Prop}(hr:SlR X r)(he:PE X e te)(hl:PO X lo tl)(hu:PO X hi th):PE X (.Subscript e (.Slice lo hi a9 p2) pos) (tSl r te tl th):=by intro pins s σ H Q I h;refine Subscript_ (thn (he pins s σ H _ I h) λv s1 ⟨x,H1,I1,r1,q1⟩=>?_);refine wpAny_Slice (thn (hl pins s1 σ H1 _ I1 q1) λvl s2 ⟨l,H2,I2,pl,q2⟩=>thn (hu pins s2 σ H2 _ I2 q2) λvu s3 ⟨u,H3,I3,pu,q3⟩=>?_);rw[mJ];refine ai ?_;have I4:Inv X pins σ H3 { s3 with heap:=s3.heap.push { cls:=.type "slice",data:=.fields #[vl,vu,.none] } }:=I3.kept (t':=s3.toks) λb ob q=>xj _ q;obtain⟨T,id,hT,ht,hg⟩:=hr pins { s3 with heap:=s3.heap.push { cls:=.type "slice",data:=.fields #[vl,vu,.none] } } σ H3 x v vl vu l u s3.heap.objs.size Q I4 r1 (Heap.IsSliceOf.new ..) pl pu q3;show ar (ax X.prog X.w) X.A (mM e (.Slice lo hi a9 p2) v (.ref s3.heap.objs.size)) (EP X pins σ Q) X.xe { s3 with heap:=s3.heap.push { cls:=.type "slice",data:=.fields #[vl,vu,.none] } };exact mB (ops:=[.ref s3.heap.objs.size,v]) ht hT hg (by with_unfolding_all rfl)
noncomputable def Ou(xs:List V)(lo hi:Option Int):List V:=(xs.drop (HT.sIx xs.length 0 lo)).take (HT.sIx xs.length xs.length hi-HT.sIx xs.length 0 lo)
theorem Nv(xs:List V)(lo hi:Option Int):(Ou xs lo hi).length<=xs.length:=by unfold Ou;rw[Xq,Tp];omega
def jni(K:k9d):V->Option Int->Option Int->Hp->VK->Prop:=λx lo hi H Q=>∃a xs,x=.ref a/\SqT K H a xs /\
 ¬(HT.sIx xs.length 0 lo=0/\HT.sIx xs.length xs.length hi=xs.length)/\∀p,H p=a9->Q (.ref p) (upd H p (.tup (Ou xs lo hi)))
theorem jgk:SlR X (jni X.K):=by
 intro pins s σ H x v vl vu lo hi sl Q I rx hs pl pu h;obtain⟨a,xs,rfl,hx,hw,q⟩:=h;cases rx;obtain⟨its,r,ht,hz⟩:=I.tuple hx;have hlen:its.toArray.size=xs.length:=by rw[X4];exact r.length.symm
 refine⟨"tuple",_,slot_tuple_getitem.lookup,ht.typeIs,?_⟩;refine HT.getItem_tuple_cut ht hs pl pu (by rw[hlen];exact hw) ?_ (by rw[hlen];exact hz);rw[hlen];refine⟨.ref s.heap.objs.size,_,I.laid (t':=s.toks) (o:=.tup (Ou xs lo hi)) (λb ob q=>xj _ q) (xu _) ?_,rfl,q _ (I.hok.fresh (xu _))⟩;exact⟨Xl (Nv xs lo hi) hz,_,(r.drop (HT.sIx xs.length 0 lo)).take (HT.sIx xs.length xs.length hi-HT.sIx xs.length 0 lo),IsTup.new _ _,Vg.new _ _⟩
def jlc(K:k9d):R2:=λx y H Q=>∃a b xs ys,x=.ref a/\y=.ref b/\SqT K H a xs/\SqT K H b ys/\xs≠[]/\xs.length+ys.length<=ak /\
 (ys=[]->Q (.ref a) H)/\(ys≠[]->∀p,H p=a9->Q (.ref p) (upd H p (.tup (xs++ys))))
theorem Vals.nil_iff{xs:List V}{us:List aa}(r:Vals xs us):us=[]↔xs=[]:=by
 cases r with
 |nil=>simp
 |cons _ _=>simp
theorem je4:OpR X (b8 .Add) (jlc X.K):=by intro pins s σ H x y v u Q I rx ry h;obtain⟨a,b,xs,ys,rfl,rfl,ha,hb,hx,hz,q1,q2⟩:=h;cases rx;cases ry;obtain⟨its,r1,p1,_⟩:=I.tuple ha;obtain⟨its2,r2,p2,_⟩:=I.tuple hb;refine HT.cat_tup p1 p2 (λz=>hx (r1.nil_iff.mp z)) (λz=>⟨.ref a,H,I,rfl,q1 (r2.nil_iff.mp z)⟩) (λz=>?_) (by rw[<-r1.length,<-r2.length];exact hz);refine⟨.ref s.heap.objs.size,_,I.laid (t':=s.toks) (o:=.tup (xs++ys)) (λb ob q=>xj _ q) (xu _) ?_,rfl,q2 (λw=>z (r2.nil_iff.mpr w)) _ (I.hok.fresh (xu _))⟩;exact⟨by rw[Xa];exact hz,_,r1.append r2,IsTup.new _ _,Vg.new _ _⟩
end
noncomputable def ixN(n:Nat)(i:Int):Option Nat:=if 0<=i then(if i<n then a3 i.toNat else a9)else if -(n:Int)<=i then a3 (i+n).toNat else a9
noncomputable def atI{α:Type}(xs:List α)(i:Int):Option α:=(ixN xs.length i).bind λj=>xs[j]?
theorem Ks{n:Nat}{i:Int}{j:Nat}(h:ixN n i=a3 j):lr i n=a3 j/\j<n/\-(n:Int)<=i/\i<n:=by
 unfold ixN at h;by_cases h0:0<=i
 .rw[if_pos h0]at h;by_cases h1:i<n
  .rw[if_pos h1]at h;have e:i.toNat=j:=aw h;exact⟨by rw[jR h0 h1,e],by omega,by omega,h1⟩
  .rw[if_neg h1]at h;cases h
 .rw[if_neg h0]at h;by_cases h1:-(n:Int)<=i
  .rw[if_pos h1]at h;have e:(i+n).toNat=j:=aw h;exact⟨by rw[js nofun h1,e],by omega,h1,by omega⟩
  .rw[if_neg h1]at h;cases h
theorem Io{α:Type}{xs:List α}{i:Int}{v:α}(h:atI xs i=a3 v):∃j,lr i xs.length=a3 j/\xs[j]?=a3 v/\j<xs.length/\-(xs.length:Int)<=i/\i<xs.length:=by
 unfold atI at h;cases e:ixN xs.length i with
 |none=>rw[e]at h;cases h
 |some j =>rw[e]at h;obtain⟨h1,h2,h3,h4⟩:=Ks e;exact⟨j,h1,h,h2,h3,h4⟩
theorem jft{α:Type}{xs:List α}{j:Nat}{v:α}(h:xs[j]?=a3 v):atI xs (j:Int)=a3 v:=by
 have hj:j<xs.length:=(X8.mp h).1;have e:ixN xs.length (j:Int)=a3 j:=by unfold ixN;rw[if_pos nofun,if_pos nofun];simp
 unfold atI;rw[e];exact h
def U7(b:aj):Prop:=∀o i,subscripted b a4 o i=operate [o,i] (jv o i)
def IxR(X:Cx)(r:R2):Prop :=
 ∀(value slice:aj)(pins:k9f) (s:af) (σ:St) (H:Hp) (x y:V) (v u:aa) (Q:VK),Inv X pins σ H s->RelV x v->RelV y u->r x y H Q ->
  subscripted slice a4 v u=operate [v,u] (jv v u)->ar (ax X.prog X.w) X.A (mM value slice v u) (EP X pins σ Q) X.xe s
def MtR(X:Cx)(id:String)(r:V->List V->Hp->VK->Prop):Prop :=
 ∀(pins:k9f) (s:af) (σ:St) (H:Hp) (x:V) (xs:List V) (v:aa) (us:List aa) (Q:VK),Inv X pins σ H s->RelV x v->Vals xs us->r x xs H Q ->
  ar (ax X.prog X.w) X.A (call (.builtin id) (v::us)) (EP X pins σ Q) X.xe s
section
variable{X:Cx}{a b:aj}{ta tb:TE}{pos:aM}
theorem Cu{r:R2}(hr:IxR X r)(ha:PE X a ta)(hb:PE X b tb)(hs:U7 b):PE X (.Subscript a b pos) (tOp r ta tb):=by intro pins s σ H Q I h;exact Subscript_ (jbm ha hb I h λv u s2 x y H2 I2 rx ry q=>hr a b pins s2 σ H2 x y v u Q I2 rx ry q (hs _ _))
def jh0(K:k9d):R2:=λx y H Q=>∃p xs i v,x=.ref p/\y=.int i/\SqL K H p xs/\atI xs i=a3 v/\Q v H
def jgy(K:k9d):R2:=λx y H Q=>∃p xs i v,x=.ref p/\y=.int i/\SqT K H p xs/\atI xs i=a3 v/\Q v H
def jgz:R2:=λx y H Q=>∃z i c,x=.str z/\y=.int i/\z.length<=ak/\atI z.cps.toList i=a3 c/\Q (.str ⟨#[c]⟩) H
theorem jen:IxR X (jh0 X.K):=by
 intro value slice pins s σ H x y v u Q I rx ry h hs;obtain⟨p,xs,i,z,rfl,rfl,hq,he,q⟩:=h;cases rx;obtain⟨t,rfl⟩:=ry;obtain⟨its,r,pl,hz⟩:=I.list hq;obtain⟨j,h1,h2,h3,h4,h5⟩:=Io he;obtain⟨w,ew,rw'⟩:=r.get h2;have hl:=r.length;have hn:=R8;have fin:EP X pins σ Q w s:=⟨z,H,I,rw',q⟩
 by_cases h0:0<=i
 .have hj:i.toNat=j:=by rw[jR h0 h5]at h1;exact aw h1
  exact item_listR pl.isList h0 nofun (by rw[hj];simpa using ew) fin hs
 .have hj:(i+(its.toArray.size:Int)).toNat=j:=by rw[js nofun h4]at h1;rw[X4,<-hl];exact aw h1
  exact jB (x:=w) pl.isList.typeIs slot_list_getitem.lookup
   (wpAny_getItem_list_neg (Q:=λr s'=>r=w/\EP X pins σ Q r s') pl.isList nofun (by rw[X4]<;>omega) nofun (by rw[hj];simpa using ew) ⟨rfl,fin⟩) hs
theorem j7g:IxR X (jgy X.K):=by
 intro value slice pins s σ H x y v u Q I rx ry h hs;obtain⟨p,xs,i,z,rfl,rfl,hq,he,q⟩:=h;cases rx;obtain⟨t,rfl⟩:=ry;obtain⟨its,r,pl,hz⟩:=I.tuple hq;obtain⟨j,h1,h2,h3,h4,h5⟩:=Io he;obtain⟨w,ew,rw'⟩:=r.get h2;have hl:=r.length;have hn:=R8;have fin:EP X pins σ Q w s:=⟨z,H,I,rw',q⟩
 exact jB (x:=w) pl.typeIs slot_tuple_getitem.lookup
  (getItem_tuple (j:=j) (Q:=λr s'=>r=w/\EP X pins σ Q r s') pl nofun nofun (by rw[X4,<-hl];exact h1) (by simpa using ew) ⟨rfl,fin⟩) hs
theorem jig:IxR X jgz:=by
 intro value slice pins s σ H x y v u Q I rx ry h hs;obtain⟨z,i,c,rfl,rfl,hz,he,q⟩:=h;obtain⟨t,rfl⟩:=rx;obtain⟨t',rfl⟩:=ry;obtain⟨j,h1,h2,h3,h4,h5⟩:=Io he;have hl:z.cps.toList.length=z.length:=by simp[mf]
 rw[hl]at h1 h4 h5;have hn:=R8;exact mB (ib s z t) slot_str_getitem.lookup (getItem_str (c:=c) (by
  have e1:decide (i < -(2^63:Int))=a4:=decide_eq_false nofun
  have e2:decide (i>=2^63)=a4:=decide_eq_false nofun
  rw[e1,e2,gO]) (by rw[h1];simpa using h2) ⟨.str ⟨#[c]⟩,H,I.tok _,⟨_,rfl⟩,q⟩) hs
theorem j5a(its:List aa)(n j:Nat)(u:aa):bV (·.setIfInBounds j u) { cls:=.type "list",data:=.seq its.toArray n }={ cls:=.type "list",data:=.seq (its.set j u).toArray n }:=by simp[bV]
theorem Inv.lst{pins:k9f}{σ:St}{H:Hp}{s:af}{p:ae}{xs:List V}(I:Inv X pins σ H s)(h:H p=a3 (.lst xs)) :
  ∃(its:List aa)(n:Nat),Vals xs its/\s.heap.get? p=a3 { cls:=.type "list",data:=.seq its.toArray n }/\xs.length<=ak:=by
 obtain⟨z,its,n,r,e⟩:=I.hok p _ h;exact⟨its,n,r,e,z⟩
theorem Inv.lstUpd{pins:k9f}{σ:St}{H:Hp}{s:af}{p:ae}{xs ys:List V}{its its':List aa}{n n':Nat}{f:dw->dw}(I:Inv X pins σ H s)(h:H p=a3 (.lst xs))
  (ho:s.heap.get? p=a3 { cls:=.type "list",data:=.seq its.toArray n }) (hf:f { cls:=.type "list",data:=.seq its.toArray n }={ cls:=.type "list",data:=.seq its'.toArray n' }) (r:Vals ys its') (hz:ys.length<=ak) (t:Nat) :
  Inv X pins σ (upd H p (.lst ys)) { s with heap:=s.heap.update p f,toks:=t }:=by
 have e:(s.heap.update p f).get? p=a3 { cls:=.type "list",data:=.seq its'.toArray n' }:=by rw[eA f ho (by rw[hf]<;>rfl),hf]
 refine I.write (x:=p) (e:=p) (by rw[h];trivial) (.inl rfl) (λb u hb q=>(gZ _ _ (cb hb)).trans q) ⟨_,e⟩ ?_;exact⟨hz,its',n',r,e⟩
def jlb:V->V->V->Hp->(Hp->Prop)->Prop:=λo i v H Q=>∃p xs k j,o=.ref p/\i=.int k/\H p=a3 (.lst xs)/\ixN xs.length k=a3 j/\Q (upd H p (.lst (xs.set j v)))
theorem set_list:jkq X jlb:=by
 intro pins s σ H o i v ov iv u Q I ro ri rv h;obtain⟨p,xs,k,j,rfl,rfl,hp,hj,q⟩:=h;cases ro;obtain⟨t,rfl⟩:=ri;obtain⟨its,n,r,ho,hz⟩:=I.lst hp;obtain⟨h1,h2,h3,h4⟩:=Ks hj;have hl:=r.length;have hn:=R8;have I':Inv X pins σ (upd H p (.lst (xs.set j v))) { s with heap:=s.heap.update p (bV (·.setIfInBounds j u)) } :=
  I.lstUpd hp ho (j5a its n j u) (r.set rv j) (by rw[T8];exact hz) s.toks
 by_cases h0:0<=k
 .have hk:k.toNat=j:=by rw[jR h0 h4]at h1;exact aw h1
  exact W.ki_setAt ho h0 nofun (by rw[X4,<-hl];exact h4) (by rw[hk];exact⟨_,I',q⟩)
 .have hk:(k+(its.toArray.size:Int)).toNat=j:=by rw[js nofun h3]at h1;rw[X4,<-hl];exact aw h1
  exact W.ki_setBack ho nofun (by rw[X4,<-hl];exact h3) nofun (by rw[hk];exact⟨_,I',q⟩)
theorem j10(lo hi:Option Int)(n:Nat):(d4 lo hi a9 n).1=((HT.sIx n 0 lo:Nat):Int)/\(d4 lo hi a9 n).2.1=((HT.sIx n n hi:Nat):Int)/\(d4 lo hi a9 n).2.2=1:=by
 refine⟨?_,?_,rfl⟩
 .cases lo with
  |none=>simp[d4,HT.sIx]
  |some i =>
   simp only[d4,HT.sIx,iU,show(1:Int)>0 by decide,if_true];by_cases h:i<0
   .simp only[h,if_true]<;>omega
   .simp only[h,if_false]<;>omega
 .cases hi with
  |none=>simp[d4,HT.sIx]
  |some i =>
   simp only[d4,HT.sIx,iU,show(1:Int)>0 by decide,if_true];by_cases h:i<0
   .simp only[h,if_true]<;>omega
   .simp only[h,if_false]<;>omega
theorem j03(its:List aa)(lo hi:Option Int):slicePick its.toArray lo hi a9=((its.drop (HT.sIx its.length 0 lo)).take (HT.sIx its.length its.length hi-HT.sIx its.length 0 lo)).toArray:=by obtain⟨h1,h2,h3⟩:=j10 lo hi its.toArray.size;unfold slicePick;rw[h1,h2,h3];simp only[sliceRange_one,pick_run,X4]<;>rfl
def jnk(K:k9d):V->Option Int->Option Int->Hp->VK->Prop:=λx lo hi H Q=>∃a xs,x=.ref a/\SqL K H a xs/\∀p,H p=a9->Q (.ref p) (upd H p (.lst (Ou xs lo hi)))
theorem jd7:SlR X (jnk X.K):=by intro pins s σ H x v vl vu lo hi sl Q I rx hs pl pu h;obtain⟨a,xs,rfl,hx,q⟩:=h;cases rx;obtain⟨its,r,ht,hz⟩:=I.list hx;have hlen:=r.length;refine⟨"list",_,slot_list_getitem.lookup,ht.isList.typeIs,?_⟩;refine wpAny_getItem_list_slice ht.isList hs pl pu .none (by simp) ?_ (by rw[X4]<;>omega);rw[j03,<-hlen];refine⟨.ref s.heap.objs.size,_,I.laid (t':=s.toks) (o:=.lst (Ou xs lo hi)) (λb ob q=>xj _ q) (xu _) ?_,rfl,q _ (I.hok.fresh (xu _))⟩;exact⟨Xl (Nv xs lo hi) hz,_,0,(r.drop (HT.sIx xs.length 0 lo)).take (HT.sIx xs.length xs.length hi-HT.sIx xs.length 0 lo),X5 _ rfl⟩
theorem Ow:Ju X (.builtin "len") (λxs H Q=>∃p ys,xs=[.ref p]/\(SqL X.K H p ys\/SqT X.K H p ys)/\Q (.int ys.length) H):=by
 intro pins s σ H xs us Q I r h;obtain⟨p,ys,rfl,hq,q⟩:=h;obtain⟨u,rfl,rx⟩:=vals1 r;cases rx;have hn:=R8;rcases hq with hq|hq
 .obtain⟨its,r',pl,hz⟩:=I.list hq;have hlen:=r'.length;exact Calls.call_len_list pl.isList (by simp only[X4]<;>omega) ⟨.int ys.length,H,I.tok _,⟨s.toks+1,by rw[X4,hlen]⟩,q⟩
 .obtain⟨its,r',pl,hz⟩:=I.tuple hq;have hlen:=r'.length;exact len_tuple pl (by simp only[X4]<;>omega) ⟨.int ys.length,H,I.tok _,⟨s.toks+1,by rw[X4,hlen]⟩,q⟩
theorem j2i:Ju X (.builtin "len") (λxs H Q=>∃z,xs=[.str z]/\z.length<=ak/\Q (.int z.length) H):=by intro pins s σ H xs us Q I r h;obtain⟨z,rfl,hz,q⟩:=h;obtain⟨u,rfl,t,rfl⟩:=vals1 r;have hn:=R8;exact len_str nofun ⟨.int z.length,H,I.tok _,⟨_,rfl⟩,q⟩
theorem j2h:Ju X (.type "list") (λxs H Q=>∃p ys,xs=[.ref p]/\(SqL X.K H p ys\/SqT X.K H p ys)/\∀l,H l=a9->Q (.ref l) (upd H l (.lst ys))):=by
 intro pins s σ H xs us Q I r h;obtain⟨p,ys,rfl,hq,q⟩:=h;obtain⟨u,rfl,rx⟩:=vals1 r;cases rx;have fin:∀(its:List aa),Vals ys its->ys.length<=ak->∀(h':aC)(c':Nat),(∀b o',s.heap.get? b=a3 o'->h'.get? b=a3 o') ->
   h'.get? s.heap.objs.size=a3 { cls:=.type "list",dict:=a9,data:=.seq its.toArray c',slots:=#[] }->EP X pins σ Q (.ref s.heap.objs.size) { s with heap:=h' }:=λits r' hz h' c' kp e =>
  ⟨.ref s.heap.objs.size,_,I.laid (t':=s.toks) kp (xu _) (show jj X.prog X.w _ h' _ (.lst ys) from⟨hz,its,c',r',e⟩),rfl,q _ (I.hok.fresh (xu _))⟩
 rcases hq with hq|hq
 .obtain⟨its,r',pl,hz⟩:=I.list hq;have hlen:=r'.length;obtain⟨o,ho,hc,n,hd⟩:=pl.isList;exact mK p (.inl rfl) ho hc hd (λh' c' kp e=>fin its r' hz h' c' kp e) (by simp only[X4]<;>omega)
 .obtain⟨its,r',pl,hz⟩:=I.tuple hq;have hlen:=r'.length;obtain⟨o,ho,hc,n,hd⟩:=pl;exact mK p (.inr rfl) ho hc hd (λh' c' kp e=>fin its r' hz h' c' kp e) (by simp only[X4]<;>omega)
theorem j08:Ju X (.type "tuple") (λxs H Q=>∃p ys,xs=[.ref p]/\((SqL X.K H p ys/\∀l,H l=a9->Q (.ref l) (upd H l (.tup ys)))\/(SqT X.K H p ys/\Q (.ref p) H))):=by
 intro pins s σ H xs us Q I r h;obtain⟨p,ys,rfl,h⟩:=h;obtain⟨u,rfl,rx⟩:=vals1 r;cases rx;rcases h with ⟨hq,q⟩|⟨hq,q⟩
 .obtain⟨its,r',pl,hz⟩:=I.list hq;have hlen:=r'.length;refine call_tuple_list pl.isList (λh' kp=>?_) (by simp only[X4]<;>omega);have I1:Inv X pins σ H { s with heap:=h' }:=I.kept (t':=s.toks) kp;have I2:Inv X pins σ (upd H h'.objs.size (.tup ys)) { s with heap:=h'.push { cls:=.type "tuple",data:=.seq its.toArray } } :=
   I1.laid (t':=s.toks) (λb o e=>xj _ e) (xu _) (show jj X.prog X.w _ _ _ (.tup ys) from⟨hz,its,r',IsTup.new _ _,Vg.new _ _⟩)
  exact⟨.ref h'.objs.size,_,I2,rfl,q _ (I1.hok.fresh (xu _))⟩
 .obtain⟨its,r',pl,hz⟩:=I.tuple hq;exact call_tuple_same pl ⟨.ref p,H,I,rfl,q⟩
def tyV(K:k9d)(T:String)(x:V)(H:Hp):Prop:=match x with
 |.str _=>T = "str"
 |.int _=>T = "int"
 |.ref p=>(T = "list"/\∃xs,SqL K H p xs)\/(T = "tuple"/\∃xs,SqT K H p xs) \/
   (T = "dict"/\((∃kvs,H p=a3 (.dK kvs))\/∃kvs,H p=a3 (.dT kvs)))\/(T = "set"/\∃S n,H p=a3 (.set S n))
 |_=>False
theorem j63{pins:k9f}{σ:St}{H:Hp}{s:af}{T:String}{x:V}{v:aa}(I:Inv X pins σ H s)(r:RelV x v)(ty:tyV X.K T x H) :
  s.TypeIs v T/\∀a,v=.ref a->∃ob,s.heap.get? a=a3 ob/\ob.dict=a9:=by
 cases x with
 |str z =>obtain⟨t,rfl⟩:=r;cases(show T = "str" from ty);exact⟨ib s z t,λ_ e=>nomatch e⟩
 |int i =>obtain⟨t,rfl⟩:=r;cases(show T = "int" from ty);exact⟨fL s i t,λ_ e=>nomatch e⟩
 |ref p =>
  cases r;rcases ty with ⟨rfl,xs,hq⟩|⟨rfl,xs,hq⟩|⟨rfl,hk⟩|⟨rfl,S,n,hk⟩
  .obtain⟨its,_,pl,_⟩:=I.list hq;refine⟨pl.isList.typeIs,λa e=>?_⟩;cases e;obtain⟨o,n,e,c,hd,_⟩:=pl;exact⟨o,e,hd⟩
  .obtain⟨its,_,⟨o,e1,e2,_⟩,_⟩:=I.tuple hq;refine⟨⟨o,e1,e2⟩,λa e=>?_⟩;cases e;exact⟨o,e1,I.tupD hq o e1⟩
  .have z:∃o,s.heap.get? p=a3 o/\o.ExactDict:=by
    rcases hk with ⟨kvs,hk⟩|⟨kvs,hk⟩
    .obtain⟨_,_,_,_,o,_,_,e,ex,_⟩:=I.hok p _ hk;exact⟨o,e,ex⟩
    .obtain⟨_,_,_,_,o,_,_,e,ex,_⟩:=I.hok p _ hk;exact⟨o,e,ex⟩
   obtain⟨o,e,ex⟩:=z;refine⟨⟨o,e,ex.1⟩,λa e2=>?_⟩;cases e2;exact⟨o,e,ex.2.1⟩
  .obtain⟨o,_,_,_,e,ex,_⟩:=I.hok p _ hk;refine⟨⟨o,e,ex.1⟩,λa e2=>?_⟩;cases e2;exact⟨o,e,ex.2.1⟩
 |_=>exact aR ty
def jnc(K:k9d)(T:String)(r:V->List V->Hp->VK->Prop)(to:TE):TE:=λσ H Q=>to σ H λx H1=>tyV K T x H1/\r x [] H1 Q
def tBM(K:k9d)(T:String)(r:V->List V->Hp->VK->Prop)(to:TE)(t:TA):TE:=λσ H Q=>to σ H λx H1=>tyV K T x H1/\t σ H1 λxs H2=>r x xs H2 Q
variable{o e:aj}{es:List aj}{to:TE}{t:TA}{name:ah}{apos cpos:aM}{T id:String}{r:V->List V->Hp->VK->Prop}
theorem jhf (pa:PlainAttrs T) (slot:Slot T name id) (hty:typeOf (.builtin id)=pure (.type "method_descriptor")) (hm:MtR X id r) (ho:PE X o to)
  (hbase:aI o name X.env (ay o X.env)=ay o X.env:=by rfl) (hline:(apos.endLine==cpos.line)=a6:=by rfl):PE X (.Call (.Attribute o name apos) [] [] cpos) (jnc X.K T r to):=by
 intro pins s σ H Q I h;refine iO hbase hline (thn (ho pins s σ H _ I h) λv s1 ⟨x,H1,I1,r1,ty,q1⟩=>?_);obtain⟨h1,h2⟩:=j63 I1 r1 ty;exact⟨T,id,pa,slot,hty,h1,h2,cB rfl (iB (hm pins s1 σ H1 x [] v [] Q I1 r1 .nil q1))⟩
theorem Rn (pa:PlainAttrs T) (slot:Slot T name id) (hty:typeOf (.builtin id)=pure (.type "method_descriptor")) (hm:MtR X id r) (ho:PE X o to) (ha:PA X (e::es) t)
  (hbase:aI o name X.env (ay o X.env)=ay o X.env:=by rfl)
  (hfew:((aL cpos (a8 (e::es) X.env)).all (λx=>!x.1)&&(aT cpos (aD [] X.env)).all (λx=>x.1.isSome)
   && decide ((e::es).length+([]:List aS).length+(if ([]:List aS).isEmpty then 0 else 1)<30))=a6:=by rfl)
  (hline:(apos.endLine==cpos.line)=a6:=by rfl) (hs:a8 (e::es) X.env=(a4,ay e X.env)::a8 es X.env:=by rfl) (hplain:(aL cpos (a8 es X.env)).any (·.1)=a4:=by rfl) :
  PE X (.Call (.Attribute o name apos) (e::es) [] cpos) (tBM X.K T r to t):=by
 intro pins s σ H Q I h;refine wpAny_Call_method_late hbase hfew hline rfl (thn (ho pins s σ H _ I h) λv s1 ⟨x,H1,I1,r1,ty,q1⟩=>?_);obtain⟨h1,h2⟩:=j63 I1 r1 ty;refine⟨T,id,pa,slot,hty,h1,h2,?_⟩;have hA:=ha cpos pins s1 σ H1 _ I1 q1;rw[hs]at hA ⊢;refine cB (by show(a4 || (aL cpos (a8 es X.env)).any (·.1))=a4;rw[hplain]<;>rfl) (ia ?_);exact thn hA λus s2 ⟨vs,H2,I2,r2,q2⟩=>hm pins s2 σ H2 x vs v us Q I2 r1 r2 q2
/- xs.append(e),list.index on a module's tuple .. are MtR facts of 06m -/
end
def MtM(X:Cx)(id:String)(r:V->List V->Hp->VK->Prop):Prop :=
 ∀(pins:k9f) (s:af) (σ:St) (H:Hp) (x:V) (xs:List V) (v:aa) (us:List aa) (Q:VK),Inv X pins σ H s->RelV x v->Vals xs us->r x xs H Q ->
  ar (ax X.prog X.w) X.A (call (.builtin id) (v::us)) (EP X pins σ Q) X.xe s
theorem Vals.one{x:V}{us:List aa}(h:Vals [x] us):∃u,us=[u]/\RelV x u:=by cases h with|cons r t=>cases t;exact⟨_,rfl,r⟩
theorem Vals.zero:∀{us:List aa},Vals [] us->us=[]
 |_,.nil=>rfl
theorem Vals.dropLast{xs:List V}{us:List aa}(h:Vals xs us):Vals xs.dropLast us.dropLast:=by
 induction h with
 |nil=>exact .nil
 |cons r t ih =>
  cases t with
  |nil=>exact .nil
  |cons q t'=>exact .cons r ih
theorem Vals.eraseIdx:∀{xs:List V}{us:List aa}(i:Nat),Vals xs us->Vals (xs.eraseIdx i) (us.eraseIdx i)
 |_,_,_,.nil=>.nil
 |_,_,0,.cons _ t=>t
 |_,_,i+1,.cons r t=>.cons r (Vals.eraseIdx i t)
theorem Vals.reverse{xs:List V}{us:List aa}(h:Vals xs us):Vals xs.reverse us.reverse:=by
 induction h with
 |nil=>exact .nil
 |cons r t ih=>rw[jE,jE];exact Vals.append ih (.cons r .nil)
theorem Vals.rep{xs:List V}{us:List aa}(h:Vals xs us):∀k:Nat,Vals (a5 k xs).flatten (a5 k us).flatten
 |0=>.nil
 |k+1=>by rw[Xv,Xv,Te,Te];exact Vals.append h (Vals.rep h k)
theorem j5h{α:Type}(l:List α):l.eraseIdx (l.length-1)=l.dropLast:=by
 induction l with
 |nil=>rfl
 |cons a r ih =>
  cases r with
  |nil=>rfl
  |cons b r =>
   have e:(a::b::r).length-1=((b::r).length-1)+1:=by have h1:(a::b::r).length=r.length+2:=rfl;have h2:(b::r).length=r.length+1:=rfl;omega
   rw[e,sy,ih]
   all_goals rfl
theorem Ei{α:Type}:∀(l:List α)(i:Nat),(l.eraseIdx i).length<=l.length
 |[],_=>xu _
 |_::_,0=>Pr _
 |_::r,i+1=>Nat.succ_le_succ (Ei r i)
theorem foldl_rep(its:List aa):∀(k:Nat)(acc:List aa),
  de (λx1 x2=>x1++x2) acc.toArray (a5 k its.toArray)=(acc++(a5 k its).flatten).toArray
 |0,acc=>by simp
 |k+1,acc=>by
  have e:acc.toArray++its.toArray=(acc++its).toArray:=by simp
  have e2:(acc++its)++(a5 k its).flatten=acc++(a5 (k+1) its).flatten:=by rw[Xv,Te,Tf]
  rw[<-e2,<-foldl_rep its k (acc++its),<-e,Xv,Tt]
section
variable{X:Cx}{pins:k9f}{σ:St}{H:Hp}{s:af}{l b:ae}{xs ys zs:List V}
theorem Inv.lset{its its':List aa}{n:Nat}{f:Array aa->Array aa}{t':Nat}(I:Inv X pins σ H s)(hH:H l=a3 (.lst xs))
  (e:s.heap.get? l=a3 { cls:=.type "list",data:=.seq its.toArray n }) (hf:f its.toArray=its'.toArray) (hv:Vals ys its') (hz:ys.length<=ak) :
  Inv X pins σ (upd H l (.lst ys)) { s with heap:=s.heap.update l (bV f),toks:=t' }:=by
 have q:=PySem.IsL.update e f;rw[hf]at q;refine I.write (x:=l) (e:=l) (by rw[hH];exact trivial) (.inl rfl) (λb' u hb hu=>(gZ s.heap (bV f) (cb hb)).trans hu) ⟨_,q⟩ ?_;exact⟨hz,its',_,hv,q⟩
theorem Inv.lnew{its:List aa}{t':Nat}(I:Inv X pins σ H s)(hv:Vals ys its)(hz:ys.length<=ak) :
  Inv X pins σ (upd H s.heap.objs.size (.lst ys)) { s with heap:=s.heap.push { cls:=.type "list",data:=.seq its.toArray },toks:=t' } :=
 I.laid (λ_ _ q=>xj _ q) (xu _) ⟨hz,its,0,hv,X5 _ rfl⟩
theorem Inv.fresh(I:Inv X pins σ H s):H s.heap.objs.size=a9:=I.hok.fresh (xu _)
theorem Inv.lstM(I:Inv X pins σ H s)(hH:H l=a3 (.lst xs)):xs.length<=ak/\∃(its:List aa)(n:Nat),Vals xs its/\xs.length=its.length/\s.heap.get? l=a3 { cls:=.type "list",data:=.seq its.toArray n }:=by obtain⟨z,its,n,r,e⟩:=I.hok l _ hH;exact⟨z,its,n,r,r.length,e⟩
theorem j1j{n:Nat}(h:n<=ak):bN n=a4:=by unfold bN;exact decide_eq_false nofun
end
section
variable{X:Cx}
def jdt:V->List V->Hp->VK->Prop:=λx vs H Q=>∃l xs y,x=.ref l/\vs=[y]/\H l=a3 (.lst xs)/\xs.length<ak/\Q .non (upd H l (.lst (xs++[y])))
theorem Oa:MtM X "list.append" jdt:=by intro pins s σ H x vs v us Q I rx rv h;obtain⟨l,xs,y,rfl,rfl,hH,hz,q⟩:=h;cases rx;obtain⟨u,rfl,ru⟩:=rv.one;obtain⟨z,its,n,r,hl,e⟩:=I.lstM hH;refine bA dQ ⟨_,e,rfl⟩ F.entry_list_append (F.args_list_append_2 _ _) (PySem.list_append l its.toArray n u (by rw[X4];omega)) ⟨e,?_⟩;refine⟨.non,_,I.lset (its':=its++[u]) hH e (by simp) (r.append (.cons ru .nil)) ?_,rfl,q⟩;rw[Xa,cM];omega
def jds:V->List V->Hp->VK->Prop:=λx vs H Q=>∃l b xs zs,x=.ref l/\vs=[.ref b]/\H l=a3 (.lst xs)/\H b=a3 (.lst zs)/\xs.length+zs.length<=ak/\Q .non (upd H l (.lst (xs++zs)))
theorem j77:MtM X "list.extend" jds:=by
 intro pins s σ H x vs v us Q I rx rv h;obtain⟨l,b,xs,zs,rfl,rfl,hH,hB,hz,q⟩:=h;cases rx;obtain⟨u,rfl,ru⟩:=rv.one;cases ru;obtain⟨z,its,n,r,hl,e⟩:=I.lstM hH;obtain⟨z2,its2,n2,r2,hl2,e2⟩:=I.lstM hB;have hsz:its.toArray.size+its2.toArray.size<=ak:=by rw[X4,X4];omega
 have hlong:¬(!its.toArray.isEmpty&&bN (its.toArray.size+its2.toArray.size))=a6:=by rw[j1j hsz,gr];exact xg
 refine bA i8 ⟨_,e,rfl⟩ F.entry_list_extend (F.args_list_extend_2 _ _)
  (AutoSeq1.list_extend_list_list_0 l its.toArray n b its2.toArray n2 hlong (by rw[X4];omega) nofun) ⟨e,e2,?_⟩
 refine⟨.non,_,I.lset (its':=its++its2) hH e (by simp) (r.append r2) ?_,rfl,q⟩;rw[Xa];omega
def jnn:V->List V->Hp->VK->Prop:=λx vs H Q=>∃l xs y,x=.ref l/\vs=[]/\H l=a3 (.lst xs)/\xs[xs.length-1]?=a3 y/\Q y (upd H l (.lst xs.dropLast))
theorem jhw:MtM X "list.pop" jnn:=by
 intro pins s σ H x vs v us Q I rx rv h;obtain⟨l,xs,y,rfl,rfl,hH,hy,q⟩:=h;cases rx;have hus:=rv.zero;subst hus;obtain⟨z,its,n,r,hl,e⟩:=I.lstM hH;obtain⟨u,hu,ru⟩:=r.get hy;have hy':its.toArray[its.toArray.size-1]?=a3 u:=by show its.toArray[its.length-1]?=a3 u;rw[<-Sh,<-hl];exact hu
 refine bA d7 ⟨_,e,rfl⟩ kr (F.args_list_pop_1 _) (MeetsSeq.list_pop_last l its.toArray n u hy' (by rw[X4];omega)) ⟨e,?_⟩;refine⟨y,_,I.lset (its':=its.dropLast) hH e ?_ r.dropLast ?_,ru,q⟩
 .show its.toArray.eraseIdxIfInBounds (its.toArray.size-1)=its.dropLast.toArray;rw[X4,fC,j5h]
 .rw[List.length_dropLast];omega
def jgx:V->List V->Hp->VK->Prop:=λx vs H Q=>∃l xs i k y,x=.ref l/\vs=[.int i]/\H l=a3 (.lst xs)/\-(2^63)<=i/\i<2^63/\lr i xs.length=a3 k/\xs[k]?=a3 y/\Q y (upd H l (.lst (xs.eraseIdx k)))
theorem j9t:MtM X "list.pop" jgx:=by
 intro pins s σ H x vs v us Q I rx rv h;obtain⟨l,xs,i,k,y,rfl,rfl,hH,h1,h2,hk,hy,q⟩:=h;cases rx;obtain⟨u,rfl,ru⟩:=rv.one;obtain⟨t,rfl⟩:=ru;obtain⟨z,its,n,r,hl,e⟩:=I.lstM hH;obtain⟨w,hw,rw'⟩:=r.get hy;refine bA d7 ⟨_,e,rfl⟩ kr (F.args_list_pop_2 _ _)
  (MeetsSeq.list_pop_at l its.toArray n i t k w (mx h1 h2) (by rw[X4,<-hl];exact hk) (by rw[<-Sh];exact hw) (by rw[X4];omega)) ⟨e,?_⟩
 refine⟨y,_,I.lset (its':=its.eraseIdx k) hH e ?_ (r.eraseIdx k) ?_,rw',q⟩
 .show its.toArray.eraseIdxIfInBounds k=(its.eraseIdx k).toArray;rw[fC]
 .have:=Ei xs k;omega
def jnm:R2:=λx y H Q=>∃l k xs,x=.ref l/\y=.int k/\H l=a3 (.lst xs)/\-(2^63)<=k/\k<2^63/\xs.length*k.toNat<=ak /\
 ∀p,H p=a9->Q (.ref p) (upd H p (.lst (a5 k.toNat xs).flatten))
theorem len_rep{α:Type}(xs:List α)(k:Nat):(a5 k xs).flatten.length=k*xs.length:=by
 induction k with
 |zero=>simp
 |succ k ih=>rw[Xv,Te,Xa,ih,lA,Nat.add_comm]
theorem jhm:OpR X (b8 .Mult) jnm:=by
 intro pins s σ H x y v u Q I rx ry h;obtain⟨l,k,xs,rfl,rfl,hH,h1,h2,hz,q⟩:=h;cases rx;obtain⟨t,rfl⟩:=ry;obtain⟨z,its,n,r,hl,e⟩:=I.lstM hH;have hlen:its.toArray.size*k.toNat<=ak:=by rw[X4,<-hl];exact hz
 have hcap:¬its.toArray.size*k.toNat>(2^63-1)/8:=by
  have:(ak:Nat)<=(2^63-1)/8:=by decide
  omega
 have hfit:¬(!Builtin.List.listFitsIndex k)=a6:=by rw[mx h1 h2];exact xg
 have hlong:¬bN (its.toArray.size*k.toNat)=a6:=by rw[j1j hlen];exact xg
 have hnew:de (λx1 x2=>x1++x2) #[] (a5 (if its.toArray.isEmpty=a6 then 0 else k.toNat) its.toArray)=(a5 k.toNat its).flatten.toArray:=by
  have f0:∀m:Nat,de (λx1 x2=>x1++x2) #[] (a5 m its.toArray)=(a5 m its).flatten.toArray:=λm=>by have:=foldl_rep its m [];rw[Sq]at this;exact this
  rw[f0];cases its with
  |nil=>simp
  |cons a r'=>rw[if_neg (by simp)]
 refine iA (T:="list") (U:="int") (by decide) ⟨_,e,rfl⟩ (λs'=>fL s' k t) noFill_list_mul kI eG repeat_list F.slot_int_index.lookup
  (bA eG (fL s k t) ku (ki _ _) (int___rmul___int_list k t l its.toArray n)
   ⟨e,rfl,⟨_,e,rfl⟩,bA F.slot_list_mul ⟨_,e,rfl⟩ F.entry_list_mul (F.args_list_mul_2 _ _) (AutoListH.list___mul___list_int_3 l its.toArray n k t hfit hcap hlong) ⟨e,?_⟩⟩)
 rw[hnew];exact⟨.ref _,_,I.lnew (t':=s.toks) (r.rep k.toNat) (by rw[len_rep,fB];exact hz),rfl,q _ I.fresh⟩
end
section
variable{prog:av}{w:az}{A:aB}{E:k9e}{s:af}
end
section
variable{X:Cx}
end
end L2
namespace Att
open PySem PySem.W PySem.Calls PyProof.Rows
theorem La{P:my}{h:aC}:∀(ns:List Int)(vs:List aa),WellAll P h vs (ns.map WData.int)->cX vs ns:=by
 intro ns;induction ns with
 |nil =>intro vs w;rw[bY]at w;cases w;exact .nil
 |cons n ns ih =>
  intro vs w;rw[xm]at w;cases w with
  |cons a b =>cases a;exact .cons _ _ (ih _ b)
theorem j6j{l:dA}{n:Nat}(hn:l.most=a3 n){P:my}{h:aC}{args:List WData}{vals:List aa}
  (hpre:l.row.toRowW.claim.pre args=a6) (hwl:WellAll P h vals args) :
  ∃a vs ns,vals=[aF a]/\args=[WData.list (ns.map WData.int)]/\h.get? a=a3 { cls:=.type "list",data:=.seq vs.toArray }/\cX vs ns/\ns.length<=n:=by
 have hsh:WShape.hasAll [] args [.list .int]=a6:=(pre_splitW hpre).1;have hc:l.pre.holds [] { args:=args }=a6:=(pre_splitW hpre).2;obtain⟨d,r,rfl,h1,h2⟩:=hasAllW_cons hsh;obtain rfl:=hasAllW_nil h2;obtain⟨xs,rfl,h3⟩:=hasW_list h1;obtain⟨ns,rfl⟩:=items_int h3;have hlen:ns.length<=n:=by
  unfold OpenLaw.pre at hc;have h4:(WTm.not (.lt (.lit (.int (n:Int))) (.len (.arg 0)))).holds [] { args:=[.list (ns.map .int)] }=a6:=by have h4:=(holds_andW hc).1;rw[hn]at h4;exact h4
  have h5:=condW_of h4 (w_not (w_lt w_lit (w_len_list (w_arg rfl))));rw[km]at h5;refine Nat.le_of_not_lt λq=>?_;have q':(n:Int)<((ns.length:Nat):Int):=by omega
  first
   |(rw[decide_eq_true q']at h5;exact absurd h5 (by decide))
   |(simp at h5;omega)
 cases hwl with
 |cons w1 w2 =>
  cases w2;cases w1 with
  |list ho hall=>exact⟨_,_,ns,rfl,rfl,ho,La ns _ hall,hlen⟩
theorem j6q(l:dA)(args:List WData):l.row.toRowW.claim.post args (.bool a6) args=a6 :=
 postW_of (r:=l.row.toRowW) (X:=(a6==a6))
  (show WShape.has [] (.bool a6) .bool=a6 by first|rfl|decide|simp[WShape.has,WShape.arms,WShape.armsAll])
  (show(WTm.eq .res (.lit (.bool a6))).value [] { args:=args,res:=a3 (.bool a6),after:=args }=a3 (.bool (a6==a6))from w_eq_bool (w_res rfl) w_lit) rfl
theorem attach_call{l:dA}{n:Nat}{q:av}{loose:List ah}{XP:(ah->Option aa)->aC->Prop}{YP:az->aC->Prop}{d:DefRec}
  (hn:l.most=a3 n) (hdf:d.params.defaults=[])
  (call:∀(w:az)(s₀ s₁:af)(mg mb:k9g)(fa:ae)(o:dw)(pm cd doc:aa)(a:ae) (vs:List aa) (ns:List Int),
   Ground q loose [] XP w s₀ mg mb s₁.heap->YP w s₁.heap ->
   s₁.heap.get? fa=a3 o->o.data=.func (docDef d.name d.params d.body d.scope pm cd doc)->s₁.heap.CodeRec cd d.name->mg d.name=a3 (.ref fa) ->
   s₁.heap.get? a=a3 { cls:=.type "list",data:=.seq vs.toArray }->cX vs ns->ns.length<=n->s₁.gens = #[] ->
   cG (ax l.prog w) g6 (.call (.ref fa) ⟨[.ref a],[]⟩) (λr s'=>r=.ok (.ret (.bool a6))/\OldK s₁.heap s'.heap/\s'.os=s₁.os/\dS s'.gens) s₁) :
  iH q loose XP YP l.row.toRowW d [] (λf vs=>iK f vs):=by
 intro w s₀ s₁ mg mb G Y fa o pm cd doc dV kV ho hd hcd hD hmg hg args vals as hpre hlay hrd hwl hlo;obtain rfl:dV=.none:=Dflts.none hD hdf;obtain rfl:kV=.none:=Dflts.noKw hD;obtain⟨a,vs,ns,rfl,rfl,hobj,hints,hlen⟩:=j6j hn hpre hwl;refine enter_call (bh (call w s₀ s₁ mg mb fa o pm cd doc a vs ns G Y ho (fd_plain hd) hcd hmg hobj hints hlen hg) λr s' hq=>?_);obtain⟨rfl,h2,h3,h4⟩:=hq;exact⟨.inl ⟨.bool a6,.bool a6,[],rfl,λ_=>rfl,.bool a6,j6q l _,λ_=>⟨gc,λ_ hm=>(nomatch hm)⟩⟩,h2,h3,h4⟩
section
variable{prog:av}{w:az}{A:aB}{E:k9e}{s:af}{K:md}
end
end Att
namespace L2
open PySem PySem.Spec PyProof.Rows
theorem Iv:∀{vs:List aa}{ns:List Int},cX vs ns->Vals (ns.map V.int) vs
 |_,_,.nil=>.nil
 |_,_,.cons n t h=>.cons ⟨t,rfl⟩ (Iv h)
def Only(ts:List (ae×ah))(H:Hp):Prop:=(∀b,H b=a9\/(∃o xs,H b=a3 (.frz o (.lst xs)))\/∃q,(b,q)∈ts/\H b=a3 (.cod q))/\∀t∈ts,H t.1=a3 (.cod t.2)
def jby(ts:List (ae×ah))(h:aC):Prop:=(ts.map (·.1)).Nodup/\∀t∈ts,(∃c,iZ h c t.1)/\h.get? t.1=a3 (W.tabObj #[])
theorem j3h:∀{ts:List (ae×ah)} {b:ae} {q:ah},ts.lookup b=a3 q->(b,q)∈ts
 |p::r,b,q,h=>by
  rw[Xp]at h;cases e:b==p.1 with
  |true=>rw[e]at h;cases h;rw[beq_iff_eq.mp e];exact xq ..
  |false=>rw[e]at h;exact xf _ (j3h h)
theorem lookup_tab:∀{ts:List (ae×ah)},(ts.map (·.1)).Nodup->∀t∈ts,ts.lookup t.1=a3 t.2
 |[],_,_,h=>by cases h
 |p::r,nd,t,ht=>by
  rw[xm]at nd;rcases xn.mp ht with e|ht
  .subst e;rw[Xp,beq_self_eq_true]
  .have ne:(t.1==p.1)=a4:=beq_eq_false_iff_ne.mpr λz=>(Xi.mp nd).1 (z▸eS ht);rw[Xp,ne];exact lookup_tab (Xi.mp nd).2 t ht
theorem ja0{P:av}{w:az}{K:k9d}{mg mb:k9g}{CX:CXT}{k:Nat}{fa a:ae}{fd:aN}{x:ah}{sp:Sp}{s₁:af}{vs:List aa}{ns:List Int}{ts:List (ae×ah)}
  (KX:K.In s₁.heap) (hns:s₁.heap.Ns au mg) (hb:s₁.heap.Ns dN mb) (hbb:∀x:ah,x ≠ "__name__"->mb x=b7 x) (hlim:s₁.heap.NoLimit)
  (hbm:∃bm ob,mg "__builtins__" = a3 (.ref bm)/\bm≠dN/\s₁.heap.get? bm=a3 ob/\ob.cls=.type "module"/\ob.dict=a3 dN/\ob.data=.plain) (hT:jby ts s₁.heap) (hK0:W.noTabs K=a6) (hg:s₁.gens = #[])
  (ha:s₁.heap.get? a=a3 { cls:=.type "list",data:=.seq vs.toArray }) (hi:cX vs ns) (hl:ns.length<=ak) (hr:Room k g6)
  (F:∀base:aC,K.In base->base.Ns au mg->FnOk P w K mg base CX k fa fd [x] sp) (hbind:∀(s:af)(u:aa),dy s fd ⟨[u],[]⟩ [(x,u)])
  (hsp:∀H:Hp,Only ts H->SqL K H a (ns.map V.int)->sp [.ref a] H (λv H'=>v=.bl a6/\∀b o,H b=a3 o->H' b=a3 o) λ_ _ _=>False)
  (hCX:∀H e s',CX [] H s₁ (λ_ _ _=>False) e s'->False) :
  cG (ax P w) g6 (.call (.ref fa) ⟨[.ref a],[]⟩) (λr s'=>r=.ok (.ret (.bool a6))/\OldK s₁.heap s'.heap/\s'.os=s₁.os/\dS s'.gens) s₁:=by
 have rv:=Iv hi;have lenV:=hi.length;have at_:∀{q:ah}{b:ae},(b,q)∈ts->s₁.heap.get? b=a3 (W.tabObj #[]):=λ{q b} h=>(hT.2 _ h).2;have core:∀H:Hp,Only ts H->SqL K H a (ns.map V.int)->HOk P w H s₁.heap->(∀b,H b≠a9->b=a\/∃q,(b,q)∈ts)->(H a≠a9->K.lookup a=a9) ->
   cG (ax P w) g6 (.call (.ref fa) ⟨[.ref a],[]⟩) (λr s'=>r=.ok (.ret (.bool a6))/\OldK s₁.heap s'.heap/\s'.os=s₁.os/\dS s'.gens) s₁:=by
  intro H hO hS hok hA hK;have base_of:∀{b:ae}{o:dw},s₁.heap.get? b=a3 o->H b=a9->(Rx s₁.heap H).get? b=a3 o:=λe n=>jam e n;have noA:∀{b:ae}{o:dw},s₁.heap.get? b=a3 o->(∀vs n,o.data≠.seq vs n)->(∀vs,o.data≠.fields vs)->H b=a9:=λ{b o} e d d2=>by
   cases q:H b with
   |none=>rfl
   |some u =>
    rcases hA b (by rw[q];simp)with e'|⟨q',e'⟩
    .subst e';rw[ha]at e;cases e;exact absurd rfl (d _ _)
    .rw[at_ e']at e;cases e;exact absurd rfl (d2 _)
  have nsK:∀{b:ae}{m:k9g},s₁.heap.Ns b m->(Rx s₁.heap H).Ns b m:=λ{b m} ⟨o,es,ep,e,d,r⟩=>⟨o,es,ep,base_of e (noA e (λ_ _ z=>by rw[d]at z;cases z) λ_ z=>by rw[d]at z;cases z),d,r⟩
  have hKb:K.In (Rx s₁.heap H):=λb o e=>base_of (KX b o e) (by
   cases q:H b with
   |none=>rfl
   |some u =>
    rcases hA b (by rw[q];simp)with e'|⟨q',e'⟩
    .subst e'
     rw[hK (by rw[q];simp)]at e;cases e
    .have e2:=KX b o e
     rw[at_ e']at e2
     have h2:=Xy.mp hK0 (b,o) (W.mem_of_lookupK e)
     cases e2
     exact absurd (show a4=a6 from h2) xg)
  have hM:Mod K mg (Rx s₁.heap H):=⟨hKb,nsK hns,⟨mb,nsK hb,hbb⟩,(let ⟨mc,h1,h2⟩:=hlim;⟨mc,nsK h1,h2⟩),
   let ⟨bm,ob,b1,b2,b3,b4,b5,b6⟩:=hbm;⟨bm,ob,b1,b2,base_of b3 (noA b3 (λ_ _ z=>by rw[b6]at z;cases z) λ_ z=>by rw[b6]at z;cases z),b4,b5,b6⟩⟩
  have e0:Env0 P w K mg (Rx s₁.heap H) g6 [] s₁ H:=⟨rfl,hM,λb o e=>je8 e,Nat.le_of_eq (j7l _ _),trivial,λb hb=>absurd (show b∈([]:List ae)from hb) (by simp),hok,.of_eq hg⟩
  refine bh ((F _ hKb (nsK hns)).run g6 [] s₁ H ⟨[.ref a],[]⟩ [.ref a] [.ref a] _ _ hr e0 (hbind s₁ (.ref a)) (.cons rfl .nil) (hsp H hO hS)) λr s' h=>?_;cases r with
  |error e=>exact(hCX H e s' h).elim
  |ok fl =>
   cases fl with
   |next=>exact aR h
   |brk=>exact aR h
   |cont=>exact aR h
   |ret u =>
    obtain⟨v,H',os,bare,un,hok',r',q,sm⟩:=h;have q':v=.bl a6:=q;subst q';obtain rfl:u=bC a6:=r';have main:∀b o,s₁.heap.get? b=a3 o->s'.heap.get? b=a3 o\/((∃q,(b,q)∈ts)/\o=W.tabObj #[]/\∃ps,s'.heap.get? b=a3 (W.tabObj ps)):=λb o e=>by
     cases q:H b with
     |none=>exact .inl (un.keep b o e q (by intro z;exact absurd (show b∈([]:List ae)from z) (by simp)) (by simp))
     |some u =>
      rcases hO.1 b with z|⟨ob,xs,z⟩|⟨q',hq,z⟩
      .rw[q]at z;cases z
      .have z2:=un.frzs b ob _ z;obtain⟨e1,_⟩:=hok b _ z;obtain⟨e2,_⟩:=hok' b _ z2;rw[e]at e1;cases e1;exact .inl e2
      .obtain⟨ps,e2,_⟩:=(show jj P w H' s'.heap b (.cod q')from hok' b _ (sm b _ z))
       rw[at_ hq]at e;exact .inr ⟨⟨q',hq⟩,(aw e).symm,ps,e2⟩
    refine⟨rfl,⟨λb o e=>?_,λb o e=>?_⟩,os,bare⟩
    .rcases main b o e with z|⟨⟨q,hq⟩,rfl,ps,z⟩
     .exact .inl z
     .obtain⟨c,hc⟩:=(hT.2 _ hq).1;exact .inr (.inl ⟨(hc.tab (at_ hq)).isCodeTable,rfl,#[],ps,rfl,by rw[z,Array.empty_append]⟩)
    .rcases main b o e with z|⟨_,_,ps,z⟩
     .exact⟨o,z⟩
     .exact⟨_,z⟩
 have lkT:∀b q,ts.lookup b=a3 q->(b,q)∈ts:=λb q h=>j3h h;have ofT:∀t∈ts,ts.lookup t.1=a3 t.2:=lookup_tab hT.1;have okT:∀(H:Hp) b q,(b,q)∈ts->jj P w H s₁.heap b (.cod q):=λH b q h=>⟨#[],at_ h,trivial,λpos cv z=>by cases z⟩
 cases hk:K.lookup a with
 |some o =>
  have e:=KX a o hk;rw[ha]at e;cases e;refine core (λb=>(ts.lookup b).map HO.cod) ⟨λb=>?_,λt ht=>by show(ts.lookup t.1).map HO.cod=_;rw[ofT t ht];rfl⟩ (.inr ⟨_,vs.toArray,_,hk,rfl,rfl,rfl,by rw[X4,lenV];exact hl,by simpa using rv⟩) (λb u z=>?_) (λb z=>?_) λz=>?_
  .cases e:ts.lookup b with
   |none=>exact .inl (by show(ts.lookup b).map HO.cod=_;rw[e];rfl)
   |some q=>exact .inr (.inr ⟨q,lkT b q e,by show(ts.lookup b).map HO.cod=_;rw[e];rfl⟩)
  .obtain⟨q,e,rfl⟩:=Xw.mp z;exact okT _ b q (lkT b q e)
  .cases e:ts.lookup b with
   |none=>exact absurd (by show(ts.lookup b).map HO.cod=_;rw[e];rfl) z
   |some q=>exact .inr ⟨q,lkT b q e⟩
  .cases e:ts.lookup a with
   |none=>exact absurd (by show(ts.lookup a).map HO.cod=_;rw[e];rfl) z
   |some q=>have:=at_ (lkT a q e);rw[ha]at this;cases this
 |none =>
  have na:∀q,(a,q)∉ts:=λq h=>by have:=at_ h;rw[ha]at this;cases this
  refine core (λb=>if b=a then a3 (.frz { cls:=.type "list",data:=.seq vs.toArray } (.lst (ns.map V.int))) else(ts.lookup b).map HO.cod) ⟨λb=>?_,λt ht=>?_⟩ (.inl (.inr ⟨{ cls:=.type "list",data:=.seq vs.toArray },if_pos rfl⟩)) (λb u z=>?_) (λb z=>?_) λ_=>hk
  .by_cases hb:b=a
   .exact .inr (.inl ⟨_,_,if_pos hb⟩)
   .cases e:ts.lookup b with
    |none=>exact .inl (by show(if b=a then _ else _)=_;rw[if_neg hb,e];rfl)
    |some q=>exact .inr (.inr ⟨q,lkT b q e,by show(if b=a then _ else _)=_;rw[if_neg hb,e];rfl⟩)
  .have nb:t.1≠a:=λz=>na t.2 (z▸ht);show(if t.1=a then _ else _)=_;rw[if_neg nb,ofT t ht];rfl
  .by_cases hb:b=a
   .have z':=(if_pos hb).symm.trans z;cases z';subst hb;exact⟨ha,by rw[km];exact hl,vs,_,rv,ha⟩
   .have z':=(if_neg hb).symm.trans z;obtain⟨q,e,rfl⟩:=Xw.mp z';exact okT _ b q (lkT b q e)
  .by_cases hb:b=a
   .exact .inl hb
   .cases e:ts.lookup b with
    |none=>exact absurd (by show(if b=a then _ else _)=_;rw[if_neg hb,e];rfl) z
    |some q=>exact .inr ⟨q,lkT b q e⟩
theorem walk_of{l:dA}{n k:Nat}{q:av}{loose:List ah}{XP:(ah->Option aa)->aC->Prop}{YP:az->aC->Prop}{d:DefRec}{K:my->k9d}{CX:az->CXT}{sp:az->Sp}{x:ah}{ts:az->List (ae×ah)}
  (hn:l.most=a3 n) (hn2:n<=ak) (hdf:d.params.defaults=[]) (hr:Room k g6)
  (hY:∀(w:az)(h:aC),YP w h->(K w.params).In h/\jby (ts w) h) (hK0:∀w:az,W.noTabs (K w.params)=a6)
  (F:∀(w:az)(mg:k9g)(fa:ae)(h:aC),(K w.params).In h->h.Ns au mg->mg d.name=a3 (.ref fa) ->
   ∃fd:aN,(∀(s:af)(u:aa),dy s fd ⟨[u],[]⟩ [(x,u)]) /\
    ∀base:aC,(K w.params).In base->base.Ns au mg->FnOk l.prog w (K w.params) mg base (CX w) k fa fd [x] (sp w))
  (hsp:∀(w:az)(H:Hp)(a:ae)(ns:List Int),ns.length<=n->Only (ts w) H->SqL (K w.params) H a (ns.map V.int)->sp w [.ref a] H (λv H'=>v=.bl a6/\∀b o,H b=a3 o->H' b=a3 o) λ_ _ _=>False)
  (hCX:∀(w:az)(H:Hp)(s:af)(e:aa)(s':af),CX w [] H s (λ_ _ _=>False) e s'->False) :
  iH q loose XP YP l.row.toRowW d [] (λf vs=>iK f vs):=by
 refine Att.attach_call hn hdf λw s₀ s₁ mg mb fa o pm cd doc a vs ns G Y ho hd hcd hmg hobj hints hlen hg=>?_;obtain⟨KX,hT⟩:=hY w _ Y;obtain⟨fd,hb,hF⟩:=F w mg fa _ KX G.T.g hmg;exact ja0 KX G.T.g G.T.b G.T.builtins G.T.nolimit G.T.bmain hT (hK0 w) hg hobj hints (Xl hlen hn2) hr hF hb (λH hO hS=>hsp w H a ns hlen hO hS) λH e s'=>hCX w H s₁ e s'
end L2
/- THE LAST THEOREM (shape;LID,My.* are yours):
 My.Adr: a structure of the addresses that your layer names (classes,functions);My.Txt K t: a structure (Prop) of the equations over K;
 My.txt_mk:{K} {implicit addresses ..} (e1:bK K au "law" = a3 (a3 (.ref f))) (e2:K.lookup f=a3 ⟨oc,od,.func (fnOf "law" "law" params body scope dV kV doc pm an cdv ct),sl⟩) (e3:codeIn K cdv "law" = a6) ..:∃t,My.Txt K t
(the tactic k_is has no namespace: write k_is) -/
namespace L2
open PySem PySem.Spec PyProof.Rows
noncomputable def v9(s:aX):dC:=match s with
 |.FunctionDef _ a _ _ _ _ _ _ _ _=>a
 |_=>{ posonlyargs:=[],args:=[],vararg:=a9,kwonlyargs:=[],kw_defaults:=[],kwarg:=a9,defaults:=[] }
noncomputable def jr(s:aX):List aX:=match s with
 |.FunctionDef _ _ b _ _ _ _ _ _ _=>b
 |_=>[]
noncomputable def jc(s:aX):b9:=match s with
 |.FunctionDef _ _ _ _ _ _ sc _ _ _=>sc
 |_=>{ kind:=.function,names:=[],isGenerator:=a4,isCoroutine:=a4 }
noncomputable abbrev CX0:CXT:=λ_ _ _ _ _ _=>False
noncomputable abbrev E0:XK:=λ_ _ _=>False
theorem Cv{X:Cx}:Bb CX0 X E0:=λ_ _ _ _ _ _ _ h=>h.elim
structure Fun(K:k9d)(x qual:ah)(st:aX)(f:ae)(fd:aN):Prop where
 ex:∃(oc:aa)(od:Option ae)(dV kV doc pm:aa)(an:Option ae)(cdv ct:aa)(osl:Array (Option aa)),
  fd=W.fnOf x qual (v9 st) (jr st) (jc st) dV kV doc pm an cdv ct/\K.lookup f=a3 ⟨oc,od,.func fd,osl⟩/\W.codeIn K cdv qual=a6
 kp:W.keepIn K (.ref f)=a6
section
variable{P:av}{w:az}{K:k9d}{mg:k9g}{base:aC}
theorem Fun.binds{x qual:ah}{st:aX}{f:ae}{kV doc pm:aa}{an:Option ae}{cdv ct:aa}{ps:List ah}(F:Fun K x qual st f (W.fnOf x qual (v9 st) (jr st) (jc st) .none kV doc pm an cdv ct))
  (h:∀(kV doc pm:aa)(an:Option ae)(cdv ct:aa)(us:List aa),us.length=ps.length->fb (W.fnOf x qual (v9 st) (jr st) (jc st) .none kV doc pm an cdv ct) ⟨us,[]⟩=pure (ps.zip us)):Binds K (W.fnOf x qual (v9 st) (jr st) (jc st) .none kV doc pm an cdv ct) ps []:=.all (h kV doc pm an cdv ct)
theorem Lg{x qual:ah}{st:aX}{f:ae}{oc:aa}{od an:Option ae}{osl:Array (Option aa)}{dV kV doc pm cdv ct:aa}(l:K.lookup f=a3 ⟨oc,od,.func (W.fnOf x qual (v9 st) (jr st) (jc st) dV kV doc pm an cdv ct),osl⟩)
  (c:W.codeIn K cdv qual=a6) (k:W.keepIn K (.ref f)=a6):Fun K x qual st f (W.fnOf x qual (v9 st) (jr st) (jc st) dV kV doc pm an cdv ct):=⟨⟨oc,od,dV,kV,doc,pm,an,cdv,ct,osl,rfl,l,c⟩,k⟩
end
section
variable{X:Cx}
end
theorem Kv{A B:Prop}(h:B):if a4=a6 then A else B:=by rw[if_neg xg];exact h
theorem Ku{A B:Prop}(h:A):if a6=a6 then A else B:=by rw[if_pos rfl];exact h
def j0(H H':Hp):Prop:=∀b o,H b=a3 o->H' b=a3 o
theorem j0.refl(H:Hp):j0 H H:=λ_ _ h=>h
theorem j0.trans{H H1 H2:Hp}(a:j0 H H1)(b:j0 H1 H2):j0 H H2:=λc o h=>b c o (a c o h)
theorem j0.free{H H':Hp}(e:j0 H H'){l:ae}(h:H' l=a9):H l=a9:=by
 cases q:H l with
 |none=>rfl
 |some o =>rw[e l o q]at h;cases h
theorem j0.seq{K:k9d}{H H':Hp}{a:ae}{xs:List V}(e:j0 H H')(h:SqL K H a xs):SqL K H' a xs:=by
 rcases h with (h|⟨o,h⟩)|h
 .exact .inl (.inl (e _ _ h))
 .exact .inl (.inr ⟨o,e _ _ h⟩)
 .exact .inr h
set_option genInjectivity true in
inductive D where
 |non
 |bl (b:Bool)
 |int (i:Int)
 |str (x:ah)
 |tup (ds:List D)
 |lst (ds:List D)
 |dct (ks:List (List Int)) (ds:List D)
 |sct (kvs:List (ah×Int))
 |fn (x:ah) (cs:List D)
noncomputable def kvI(kvs:List (ah×Int)):List (Key×V):=kvs.map λp=>(.inr p.1,.int p.2)
noncomputable def jx(x:ah):ah:=x ++ ".<locals>." ++ "<lambda>"
noncomputable abbrev Tx:=dC×aj×b9
noncomputable def jnp:aj->Option Tx
 |.Lambda a b sc _=>a3 (a,b,sc)
 |.Call _ es _ _=>match es.getLast? with
  |some (.Lambda a b sc _)=>a3 (a,b,sc)
  |_=>a9
 |_=>a9
noncomputable def Fy(b:List aX):Option Tx:=match b.getLast? with
 |some (.Return (a3 e) _)=>jnp e
 |_=>a9
noncomputable def Z5(K:k9d)(x:ah):Option Tx:=match W.nsIn K au x with
 |some (a3 (.ref f))=>match K.lookup f with
  |some ⟨_,_,.func fd,_⟩=>match fd.body with
   |.stmts b=>Fy b
   |_=>a9
  |_=>a9
 |_=>a9
noncomputable def zx(sc:b9):List ah:=((sc.names.filter λp=>p.2==.free).map (·.1)).reverse
def vy(H:Hp):List ae->List V->Prop
 |[],vs=>vs=[]
 |c::cs,vs=>∃v r o u,vs=v::r/\H c=a3 (.frz o (.own 0))/\o.data=.cell (a3 u)/\RelV v u/\vy H cs r
theorem vy.mono{H H':Hp}(g:j0 H H'):∀{cs:List ae}{vs:List V},vy H cs vs->vy H' cs vs
 |[],_,h=>h
 |_::_,_,⟨v,r,o,u,e,h,d,rv,l⟩=>⟨v,r,o,u,e,g _ _ h,d,rv,l.mono g⟩
structure LamAt(K:k9d)(H:Hp)(x:ah)(a c:ae)(t:Tx)(cl:List (ah×ae))(vs:List V):Prop where
 tx:Z5 K x=a3 t
 fo:∃pm ctv,H a=a3 (.frz (W.kla_obj "<lambda>" (jx x) t.1 t.2.1 t.2.2 cl pm c ctv) (.own 0))
 co:∃oc,H c=a3 (.frz oc (.own 0))/\Ng oc (jx x)
 nm:cl.map (·.1)=zx t.2.2
 nd:(cl.map (·.2)).Nodup
 cs:vy H (cl.map (·.2)) vs
theorem LamAt.mono{K:k9d}{H H':Hp}{x:ah}{a c:ae}{tx:Tx}{cl:List (ah×ae)}{vs:List V}(g:j0 H H')(h:LamAt K H x a c tx cl vs):LamAt K H' x a c tx cl vs :=
 ⟨h.tx,let ⟨pm,ctv,e⟩:=h.fo;⟨pm,ctv,g _ _ e⟩,let ⟨oc,e,q⟩:=h.co;⟨oc,g _ _ e,q⟩,h.nm,h.nd,h.cs.mono g⟩
noncomputable def del(H:Hp)(A:List ae):Hp:=λb=>if b∈A then a9 else H b
section
variable{H H' F:Hp}{A A':List ae}{a b:ae}{o:HO}
theorem qt(h:b∈A):del H A b=a9:=if_pos h
theorem j6(h:b∉A):del H A b=H b:=if_neg h
theorem of_del(h:del H A b=a3 o):b∉A/\H b=a3 o:=by
 by_cases e:b∈A
 .rw[qt e]at h;cases h
 .rw[j6 e]at h;exact⟨e,h⟩
theorem jh(g:j0 H H'):j0 (del H A) (del H' A):=λb o h=>by obtain⟨n,e⟩:=of_del h;rw[j6 n];exact g b o e
end
theorem j0.seqT{K:k9d}{H H':Hp}{a:ae}{xs:List V}(e:j0 H H')(h:SqT K H a xs):SqT K H' a xs:=by
 rcases h with (h|⟨o,h⟩)|h
 .exact .inl (.inl (e _ _ h))
 .exact .inl (.inr ⟨o,e _ _ h⟩)
 .exact .inr h
mutual
def Enc(K:k9d)(H:Hp):D->V->Prop
 |.non,v=>v=.non
 |.bl b,v=>v=.bl b
 |.int i,v=>v=.int i
 |.str x,v=>v=.str x
 |.tup ds,v=>∃a xs,v=.ref a/\SqT K H a xs/\j4 K H ds xs
 |.lst ds,v=>∃a xs,v=.ref a/\SqL K H a xs/\j4 K H ds xs
 |.dct ks ds,v=>∃(a:ae)(xs:List (List Int×ae×aa)) (ep:Nat) (vs:List V),v=.ref a/\H a=a3 (.dI xs ep)/\ks=(xs.map λx=>x.1)/\(∀x∈xs,SqT K H x.2.1 (x.1.map V.int))/\Vals vs (xs.map λx=>x.2.2)/\j4 K H ds vs
 |.sct kvs,v=>∃a:ae,v=.ref a/\H a=a3 (.dK (kvI kvs))
 |.fn x ds,v=>∃(a c:ae)(tx:Tx)(cl:List (ah×ae)) (vs:List V),v=.ref a/\LamAt K H x a c tx cl vs/\j4 K (del H (cl.map (·.2))) ds vs
def j4(K:k9d)(H:Hp):List D->List V->Prop
 |[],xs=>xs=[]
 |d::ds,xs=>∃x r,xs=x::r/\Enc K H d x/\j4 K H ds r
end
mutual
theorem Enc.mono{K:k9d}{H H':Hp}(g:j0 H H'):∀{d:D}{v:V},Enc K H d v->Enc K H' d v
 |.non,_,h=>h
 |.bl _,_,h=>h
 |.int _,_,h=>h
 |.str _,_,h=>h
 |.tup _,_,⟨a,xs,e,q,l⟩=>⟨a,xs,e,g.seqT q,j4.mono g l⟩
 |.lst _,_,⟨a,xs,e,q,l⟩=>⟨a,xs,e,g.seq q,j4.mono g l⟩
 |.dct _ _,_,⟨a,xs,ep,vs,e,q,ek,kt,rv,l⟩=>⟨a,xs,ep,vs,e,g _ _ q,ek,λx hx=>g.seqT (kt x hx),rv,j4.mono g l⟩
 |.sct _,_,⟨a,e,q⟩=>⟨a,e,g _ _ q⟩
 |.fn _ _,_,⟨a,c,tx,cl,vs,e,q,l⟩=>⟨a,c,tx,cl,vs,e,q.mono g,j4.mono (jh g) l⟩
theorem j4.mono{K:k9d}{H H':Hp}(g:j0 H H'):∀{ds:List D}{xs:List V},j4 K H ds xs->j4 K H' ds xs
 |[],_,h=>h
 |_::_,_,⟨x,r,e,h,l⟩=>⟨x,r,e,Enc.mono g h,j4.mono g l⟩
end
section
variable{K:k9d}{H H':Hp}{ds ds':List D}{xs ys:List V}
theorem j4.length:∀{ds:List D}{xs:List V},j4 K H ds xs->xs.length=ds.length
 |[],_,h=>by cases h;rfl
 |_::_,_,⟨x,r,e,_,l⟩=>by subst e;simp[j4.length l]
theorem j4.get:∀{ds:List D}{xs:List V}{i:Nat}{d:D},j4 K H ds xs->ds[i]?=a3 d->∃x,xs[i]?=a3 x/\Enc K H d x
 |[],_,i,d,_,e=>by simp at e
 |_::_,_,0,d,⟨x,r,e,h,_⟩,q=>by subst e;simp at q;subst q;exact⟨x,rfl,h⟩
 |_::_,_,i+1,d,⟨x,r,e,_,l⟩,q=>by subst e;simp at q;obtain⟨y,hy,hd⟩:=j4.get l q;exact⟨y,by simpa using hy,hd⟩
theorem j4.get':∀{ds:List D}{xs:List V}{i:Nat}{x:V},j4 K H ds xs->xs[i]?=a3 x->∃d,ds[i]?=a3 d/\Enc K H d x
 |[],_,i,d,h,e=>by cases h;simp at e
 |d::_,_,0,y,⟨x,r,e,h,_⟩,q=>by subst e;simp at q;subst q;exact⟨d,rfl,h⟩
 |_::_,_,i+1,y,⟨x,r,e,_,l⟩,q=>by subst e;simp at q;obtain⟨y,hy,hd⟩:=j4.get' l q;exact⟨y,by simpa using hy,hd⟩
theorem j4.append:∀{ds ds':List D}{xs ys:List V},j4 K H ds xs->j4 K H ds' ys->j4 K H (ds++ds') (xs++ys)
 |[],_,_,_,h,h'=>by cases h;exact h'
 |_::_,_,_,_,⟨x,r,e,h,l⟩,h'=>by subst e;exact⟨x,_,rfl,h,j4.append l h'⟩
theorem j4.one{d:D}{x:V}(h:Enc K H d x):j4 K H [d] [x]:=⟨x,[],rfl,h,rfl⟩
theorem j4.set:∀{ds:List D}{xs:List V}{i:Nat}{d:D}{x:V},j4 K H ds xs->Enc K H d x->j4 K H (ds.set i d) (xs.set i x)
 |[],_,i,d,x,h,_=>by cases h;exact rfl
 |_::_,_,0,d,y,⟨x,r,e,h,l⟩,q=>by subst e;exact⟨y,r,rfl,q,l⟩
 |_::_,_,i+1,d,y,⟨x,r,e,h,l⟩,q=>by subst e;exact⟨x,_,rfl,h,j4.set l q⟩
theorem j4.take:∀{ds:List D}{xs:List V}(n:Nat),j4 K H ds xs->j4 K H (ds.take n) (xs.take n)
 |[],_,n,h=>by cases h;simp;exact rfl
 |_::_,_,0,⟨x,r,e,h,l⟩=>by simp;exact rfl
 |_::_,_,n+1,⟨x,r,e,h,l⟩=>by subst e;exact⟨x,_,rfl,h,j4.take n l⟩
theorem j4.drop:∀{ds:List D}{xs:List V}(n:Nat),j4 K H ds xs->j4 K H (ds.drop n) (xs.drop n)
 |[],_,n,h=>by cases h;simp;exact rfl
 |_::_,_,0,h=>h
 |_::_,_,n+1,⟨x,r,e,h,l⟩=>by subst e;exact j4.drop n l
theorem j4.rep{ds:List D}{xs:List V}(h:j4 K H ds xs):∀k:Nat,j4 K H (a5 k ds).flatten (a5 k xs).flatten
 |0=>rfl
 |k+1=>by rw[Xv,Xv,Te,Te];exact h.append (j4.rep h k)
theorem j4.ints(ns:List Int):j4 K H (ns.map D.int) (ns.map V.int):=by
 induction ns with
 |nil=>exact rfl
 |cons n ns ih=>exact⟨_,_,rfl,rfl,ih⟩
end
section
variable{H H' F:Hp}{A A':List ae}{a b:ae}{o:HO}
theorem Q3:del H []=H:=funext λb=>if_neg (by simp)
theorem jt:j0 (del H A) H:=λ_ _ h=>(of_del h).2
theorem v8(h:∀b,b∈A'->b∈A):j0 (del H A) (del H A'):=λb o e=>by obtain⟨n,e⟩:=of_del e;rw[j6 λz=>n (h b z)];exact e
theorem Vt(h:a∈A):del (upd H a o) A=del H A:=funext λb=>by
 by_cases e:b∈A
 .rw[qt e,qt e]
 .rw[j6 e,j6 e,ji];rintro rfl;exact e h
noncomputable def mrg(A:List ae)(H F:Hp):Hp:=λb=>if b∈A then H b else F b
theorem Jh(h:b∈A):mrg A H F b=H b:=if_pos h
theorem jm(h:b∉A):mrg A H F b=F b:=if_neg h
theorem U5(h:∀a∈A,F a=a9):del (mrg A H F) A=F:=funext λb=>by
 by_cases e:b∈A
 .rw[qt e,h b e]
 .rw[j6 e,jm e]
theorem Fp(g:j0 (del H A) F):j0 H (mrg A H F):=λb o e=>by
 by_cases z:b∈A
 .rw[Jh z];exact e
 .rw[jm z];exact g b o (by rw[j6 z];exact e)
theorem j7(h:H a=a9):j0 H (upd H a o):=λb u q=>by rw[ji (vd q h)];exact q
end
def Hd(o:Option HO):Prop:=(∃xs,o=a3 (.lst xs))\/∃xs ep,o=a3 (.dI xs ep)
section
variable{X:Cx}{pins:k9f}{σ σ':St}{H F:Hp}{s s':af}{A:List ae}
theorem Inv.noFs(I:Inv X pins σ H s){b:ae}(hb:b∈X.fs):H b=a9:=by
 have q:b∈frs X.stack:=by
  rcases I.ok.stk with e|⟨e,_⟩
  .rw[e];exact hb
  .rw[e];have hb:b∈frs X.outer:=hb;unfold frs at hb ⊢;rw[cc];split
   .exact hb
   .exact xf _ hb
 exact I.stkFree b q
theorem Inv.hide(I:Inv X pins σ H s)(hA:∀a∈A,Hd (H a)):Inv X (pins++Ue A s.heap) σ (del H A) s where
 ok:=I.ok
 os:=I.os
 bare:=I.bare
 base:={
  keep:=I.base.keep
  slot:=I.base.slot
  free:=λb o e n hx=>by
   have q:=I.base.free b o e n hx
   by_cases z:b∈A
   .exact qt z
   .rw[j6 z];exact q
  there:=I.base.there
  tups:=λb xs e=>by
   have q:=I.base.tups b xs e
   rw[j6];exact q
   intro z;rcases hA b z with ⟨ys,e'⟩|⟨ys,ep,e'⟩<;>(rw[q]at e';cases e')
  frzs:=λb o u e=>by
   have q:=I.base.frzs b o u e
   rw[j6];exact q
   intro z;rcases hA b z with ⟨ys,e'⟩|⟨ys,ep,e'⟩<;>(rw[q]at e';cases e')
  tbls:=λb ps e=>by
   obtain⟨more,q⟩:=I.base.tbls b ps e
   refine⟨more,?_⟩
   rw[j6];exact q
   intro z;rcases hA b z with ⟨ys,e'⟩|⟨ys,ep,e'⟩<;>(rw[q]at e';cases e') }
 loc:=I.loc
 cell:=I.cell
 free:=by
  by_cases z:X.env.locals∈A
  .exact qt z
  .rw[j6 z];exact I.free
 freeC:=λx c e=>by
  by_cases z:c∈A
  .exact qt z
  .rw[j6 z];exact I.freeC x c e
 pin:=λp hp=>by
  rw[<-Tf]at hp;rcases Pn.mp hp with hp|hp
  .obtain⟨h1,h2,h3⟩:=I.pin p hp;refine⟨h1,?_,h3⟩;by_cases z:p.1∈A
   .exact qt z
   .rw[j6 z];exact h2
  .obtain⟨h1,h2⟩:=Eh hp;rcases hA _ h1 with ⟨xs,e⟩|⟨xs,ep,e⟩
   .refine⟨h2,qt h1,λz=>?_,λz=>?_,λv z=>?_⟩
    .rw[z,I.free]at e;cases e
    .rw[I.noFs z]at e;cases e
    .obtain⟨_,its,n,_,q⟩:=(show jj X.prog X.w H s.heap p.1 (.lst xs)from I.hok _ _ e)
     rw[h2]at q;rw[aw q]at z;cases z
   .refine⟨h2,qt h1,λz=>?_,λz=>?_,λv z=>?_⟩
    .rw[z,I.free]at e;cases e
    .rw[I.noFs z]at e;cases e
    .obtain⟨_,_,_,ob,es,q,_,qd,_⟩:=(show jj X.prog X.w H s.heap p.1 (.dI xs ep)from I.hok _ _ e)
     rw[h2]at q;rw[aw q,qd]at z;cases z
 hok:=λa o e=>by
  obtain⟨n,e⟩:=of_del e;refine jj.stay (I.hok a o e) (λb u _ q=>q) (λb q=>?_) (λb xs q=>?_) (λb _ _ q=>?_)
  .rw[j6];exact q;intro z;rcases hA b z with ⟨ys,e'⟩|⟨ys,ep,e'⟩<;>(rw[q]at e';cases e')
  .rw[j6];exact q;intro z;rcases hA b z with ⟨ys,e'⟩|⟨ys,ep,e'⟩<;>(rw[q]at e';cases e')
  .rw[j6];exact q;intro z;rcases hA b z with ⟨ys,e'⟩|⟨ys,ep,e'⟩<;>(rw[q]at e';cases e')
 len:=I.len
theorem Inv.unhide(I0:Inv X pins σ H s)(hA:∀a∈A,Hd (H a))(I:Inv X (pins++Ue A s.heap) σ' F s') :
  (∀a∈A,F a=a9)/\Inv X pins σ' (mrg A H F) s':=by
 have pinned:∀a∈A,∃o,s.heap.get? a=a3 o/\s'.heap.get? a=a3 o/\F a=a9:=λa ha=>by
  have ob:∃o,s.heap.get? a=a3 o:=by
   rcases hA a ha with ⟨xs,e⟩|⟨xs,ep,e⟩
   .obtain⟨_,its,n,_,q⟩:=(show jj X.prog X.w H s.heap a (.lst xs)from I0.hok _ _ e)
    exact⟨_,q⟩
   .obtain⟨_,_,_,o,es,q,_⟩:=(show jj X.prog X.w H s.heap a (.dI xs ep)from I0.hok _ _ e)
    exact⟨_,q⟩
  obtain⟨o,q⟩:=ob;obtain⟨h1,h2,_⟩:=I.pin (a,_) (Xo _ (Xo _ (Z3 ha q)));exact⟨_,q,h1,h2⟩
 have hF:∀a∈A,F a=a9:=λa ha=>let ⟨_,_,_,q⟩:=pinned a ha;q;have out:∀{b:ae}{o:HO},F b=a3 o->b∉A:=λ{b o} e z=>by rw[hF b z]at e;cases e
 refine⟨hF,?_⟩;exact{
  ok:=I.ok
  os:=I.os
  bare:=I.bare
  base:={
   keep:=I.base.keep
   slot:=I.base.slot
   free:=λb o e n hx=>by
    by_cases z:b∈A
    .rw[Jh z];exact I0.base.free b o e n hx
    .rw[jm z];exact I.base.free b o e n hx
   there:=I.base.there
   tups:=λb xs e=>by
    have q:=I.base.tups b xs e
    rw[jm (out q)];exact q
   frzs:=λb o u e=>by
    have q:=I.base.frzs b o u e
    rw[jm (out q)];exact q
   tbls:=λb ps e=>by
    obtain⟨more,q⟩:=I.base.tbls b ps e
    exact⟨more,by rw[jm (out q)];exact q⟩ }
  loc:=I.loc
  cell:=I.cell
  free:=by
   by_cases z:X.env.locals∈A
   .rw[Jh z];exact I0.free
   .rw[jm z];exact I.free
  freeC:=λx c e=>by
   by_cases z:c∈A
   .rw[Jh z];exact I0.freeC x c e
   .rw[jm z];exact I.freeC x c e
  pin:=λp hp=>by
   obtain⟨h1,h2,h3⟩:=I.pin p (by rw[<-Tf];exact bS _ hp)
   refine⟨h1,?_,h3⟩
   by_cases z:p.1∈A
   .rw[Jh z];exact(I0.pin p hp).2.1
   .rw[jm z];exact h2
  hok:=λa o e=>by
   by_cases z:a∈A
   .rw[Jh z]at e
    obtain⟨o',q1,q2,_⟩:=pinned a z
    rcases hA a z with ⟨xs,e'⟩|⟨xs,ep,e'⟩
    .rw[e']at e;cases e
     obtain⟨hl,its,n,r,q⟩:=(show jj X.prog X.w H s.heap a (.lst xs)from I0.hok _ _ e')
     rw[q]at q1;cases q1
     exact⟨hl,its,n,r,q2⟩
    .rw[e']at e;cases e
     obtain⟨z1,z2,z3,ob,es,q,z4⟩:=(show jj X.prog X.w H s.heap a (.dI xs ep)from I0.hok _ _ e')
     rw[q]at q1;cases q1
     exact⟨z1,z2,z3,_,es,q2,z4⟩
   .rw[jm z]at e
    refine jj.stay (I.hok a o e) (λb u _ q=>q) (λb q=>?_) (λb xs q=>?_) (λb _ _ q=>?_)
    .rw[jm (out q)];exact q
    .rw[jm (out q)];exact q
    .rw[jm (out q)];exact q
  len:=I.len }
end
def Qu(X:Cx)(e:aj):TE:=λσ H Q=>∀pins s,Inv X pins σ H s->ar (ax X.prog X.w) X.A (ay e X.env) (EP X pins σ Q) X.xe s
def j96(X:Cx)(e:aj):TT:=λσ H Q=>∀pins s,Inv X pins σ H s->ar (ax X.prog X.w) X.A (fM e X.env (ay e X.env)) (TP X pins σ Q) X.xe s
def Kd(X:Cx)(es:List aj):TA:=λσ H Q=>∀pos pins s,Inv X pins σ H s->ar (ax X.prog X.w) X.A (hJ (aL pos (a8 es X.env))) (AP X pins σ Q) X.xe s
def j97(X:Cx)(st:aX):TS:=λD σ H=>∀pins s,Inv X pins σ H s->ar (ax X.prog X.w) X.A (exec st X.env) (SP X pins D) X.xe s
def Ck(X:Cx)(sts:List aX):TS:=λD σ H=>∀pins s,Inv X pins σ H s->ar (ax X.prog X.w) X.A (execs sts X.env) (SP X pins D) X.xe s
def j18(X:Cx)(tg iter:aj):TI:=λσ H R=>∀pins s,Inv X pins σ H s ->
 ar (ax X.prog X.w) X.A (ay iter X.env) (λv s1=>ar (ax X.prog X.w) X.A (ic v) (PIE X pins σ tg R) X.xe s1) X.xe s
section
variable{X:Cx}{e tg:aj}{es:List aj}{st:aX}{sts:List aX}{σ:St}{H:Hp}
theorem peS:PE X e (Qu X e):=λpins s _ _ _ I h=>h pins s I
theorem ptS:PT X e (j96 X e):=λpins s _ _ _ I h=>h pins s I
theorem paS:PA X es (Kd X es):=λpos pins s _ _ _ I h=>h pos pins s I
theorem psS:PS X st (j97 X st):=λpins s _ _ _ I h=>h pins s I
theorem O6:PSs X sts (Ck X sts):=λpins s _ _ _ I h=>h pins s I
theorem piS:PI X tg e (j18 X tg e):=λpins s _ _ _ I h=>h pins s I
theorem PE.to{t:TE}(h:PE X e t){Q:VK}(q:t σ H Q):Qu X e σ H Q:=λpins s I=>h pins s σ H Q I q
theorem PT.to{t:TT}(h:PT X e t){Q:Bool->Hp->Prop}(q:t σ H Q):j96 X e σ H Q:=λpins s I=>h pins s σ H Q I q
theorem PA.to{t:TA}(h:PA X es t){Q:List V->Hp->Prop}(q:t σ H Q):Kd X es σ H Q:=λpos pins s I=>h pos pins s σ H Q I q
theorem PS.to{t:TS}(h:PS X st t){D:Ends}(q:t D σ H):j97 X st D σ H:=λpins s I=>h pins s σ H D I q
theorem PSs.to{t:TS}(h:PSs X sts t){D:Ends}(q:t D σ H):Ck X sts D σ H:=λpins s I=>h pins s σ H D I q
theorem PI.to{t:TI}(h:PI X tg e t){R:It->Hp->Prop}(q:t σ H R):j18 X tg e σ H R:=λpins s I=>h pins s σ H R I q
theorem j4w{A:List ae}{Q Q':VK}(hA:∀a∈A,Hd (H a))(h:Qu X e σ (del H A) Q')(hq:∀v F,Q' v F->(∀a∈A,F a=a9)->Q v (mrg A H F)):Qu X e σ H Q :=
 λpins s I=>thn (h _ s (I.hide hA)) λv s' ⟨x,F,I',r,q⟩=>let ⟨n,I2⟩:=I.unhide hA I';⟨x,_,I2,r,hq x F q n⟩
theorem Cm{A:List ae}{R R':It->Hp->Prop}(hA:∀a∈A,Hd (H a))(h:j18 X tg e σ (del H A) R')(hq:∀J F,R' J F->(∀a∈A,F a=a9)->R J (mrg A H F)):j18 X tg e σ H R :=
 λpins s I=>thn (h _ s (I.hide hA)) λv s' h1=>thn h1 λitv s2 ⟨it,fp,tn,J,F,e,I',T,t0,fk,q⟩=>by
  obtain⟨n,I2⟩:=I.unhide hA I';refine⟨it,fp,tn,J,_,e,I2,T,t0,λb hb=>?_,hq J F q n⟩;obtain⟨f0,f1,f2,f3,f4,f5⟩:=fk b hb;refine⟨?_,f1,f2,f3,f4,λp hp=>f5 p (by rw[<-Tf];exact bS _ hp)⟩;by_cases z:b∈A
  .exfalso;have ob:∃o,s.heap.get? b=a3 o:=by
    rcases hA b z with ⟨xs,e⟩|⟨xs,ep,e⟩
    .obtain⟨_,its,n,_,q⟩:=(show jj X.prog X.w H s.heap b (.lst xs)from I.hok _ _ e)
     exact⟨_,q⟩
    .obtain⟨_,_,_,o,es,q,_⟩:=(show jj X.prog X.w H s.heap b (.dI xs ep)from I.hok _ _ e)
     exact⟨_,q⟩
   obtain⟨o,q⟩:=ob;exact f5 (b,o) (Xo _ (Xo _ (Z3 z q))) rfl
  .rw[jm z];exact f0
end
inductive Sl where
 |un
 |val (d:D)
 |own (a:ae) (ds:List D)
 |raw (a:ae) (o:dw) (x:ah)
noncomputable abbrev Rho:=List Sl
noncomputable def Sl.addr:Sl->Option ae
 |.own a _=>a3 a
 |_=>a9
noncomputable def owns(ρ:Rho):List ae:=ρ.filterMap Sl.addr
theorem Jo{ρ:Rho}{i:Nat}{a:ae}{ds:List D}(h:ρ[i]?=a3 (.own a ds)):a∈owns ρ:=Tq.mpr ⟨_,Xf h,rfl⟩
theorem Y5{ρ:Rho}{a:ae}(h:a∈owns ρ):∃(i:Nat)(ds:List D),ρ[i]?=a3 (.own a ds):=by
 obtain⟨s,hs,e⟩:=Tq.mp h;obtain⟨i,hi⟩:=List.mem_iff_getElem?.mp hs;cases s with
 |own b ds=>cases e;exact⟨i,ds,hi⟩
 |un=>cases e
 |val d=>cases e
 |raw b o x=>cases e
theorem jq(s:Sl)(ρ:Rho):owns (s::ρ)=(match s.addr with|some a=>a::owns ρ|none=>owns ρ):=by unfold owns;rw[cc];cases s.addr<;>rfl
theorem jf{s:Sl}(hs:s.addr=a9):∀{ρ:Rho}{i:Nat},(owns (ρ.set i s)).Sublist (owns ρ)
 |[],_=>List.Sublist.refl _
 |x::r,0=>by
  rw[Pq,jq,jq,hs];cases x.addr with
  |none=>exact List.Sublist.refl _
  |some a=>exact List.sublist_cons_self _ _
 |x::r,i+1=>by
  rw[Pb,jq,jq];have ih:=jf hs (ρ:=r) (i:=i);cases x.addr with
  |none=>exact ih
  |some a=>exact ih.cons_cons a
theorem Qk{a:ae}{ds ds':List D}:∀{ρ:Rho}{i:Nat},ρ[i]?=a3 (.own a ds)->owns (ρ.set i (.own a ds'))=owns ρ
 |[],_,h=>by simp at h
 |x::r,0,h=>by simp at h;subst h;rw[Pq,jq,jq];rfl
 |x::r,i+1,h=>by simp at h;rw[Pb,jq,jq,Qk h]
theorem Nq{s:Sl}(hs:s.addr=a9):∀{ρ:Rho}{i:Nat},(∀a l,ρ[i]?≠a3 (.own a l))->owns (ρ.set i s)=owns ρ
 |[],_,_=>rfl
 |x::r,0,h=>by
  rw[Pq,jq,jq,hs];cases x with
  |own a l=>exact absurd rfl (h a l)
  |un=>rfl
  |val d=>rfl
  |raw a o x=>rfl
 |x::r,i+1,h=>by rw[Pb,jq,jq,Nq hs (λa l=>by simpa using h a l)]
theorem Jx{a:ae}{ds:List D}:∀{ρ:Rho}{i:Nat},(owns ρ).Nodup->a∉owns ρ->(owns (ρ.set i (.own a ds))).Nodup/\∀b∈owns (ρ.set i (.own a ds)),b=a\/b∈owns ρ
 |[],_,n,_=>⟨n,λb hb=>.inr hb⟩
 |x::r,0,n,h=>by
  rw[Pq,jq];rw[jq]at n h;have e:(Sl.own a ds).addr=a3 a:=rfl;rw[e];cases q:x.addr with
  |none =>rw[q]at n h;exact⟨Xi.mpr ⟨h,n⟩,λb hb=>(xn.mp hb).elim .inl λz=>.inr (by rw[jq,q];exact z)⟩
  |some c =>rw[q]at n h;exact⟨Xi.mpr ⟨λz=>h (xf _ z),(Xi.mp n).2⟩,λb hb=>(xn.mp hb).elim .inl λz=>.inr (by rw[jq,q];exact xf _ z)⟩
 |x::r,i+1,n,h=>by
  rw[Pb,jq];rw[jq]at n h;cases q:x.addr with
  |none =>rw[q]at n h;obtain⟨i1,i2⟩:=Jx (ds:=ds) (i:=i) n h;exact⟨i1,λb hb=>(i2 b hb).elim .inl λz=>.inr (by rw[jq,q];exact z)⟩
  |some c =>
   rw[q]at n h;obtain⟨n1,n2⟩:=Xi.mp n;obtain⟨i1,i2⟩:=Jx (ds:=ds) (i:=i) n2 (λz=>h (xf _ z));refine⟨Xi.mpr ⟨λz=>?_,i1⟩,λb hb=>?_⟩
   .rcases i2 c z with e|z
    .subst e;exact h (xq ..)
    .exact n1 z
   .rcases xn.mp hb with e|z
    .exact .inr (by rw[jq,q];exact e▸xq ..)
    .exact(i2 b z).elim .inl λz=>.inr (by rw[jq,q];exact xf _ z)
theorem Uh{a:ae}{l l':List D}:∀{ρ:Rho}{i j:Nat},(owns ρ).Nodup->ρ[i]?=a3 (.own a l)->ρ[j]?=a3 (.own a l')->i=j
 |[],i,_,_,h,_=>by simp at h
 |x::r,0,0,_,_,_=>rfl
 |x::r,0,j+1,n,h,h'=>by simp at h h';subst h;rw[jq]at n;exact absurd (Jo h') (Xi.mp n).1
 |x::r,i+1,0,n,h,h'=>by simp at h h';subst h';rw[jq]at n;exact absurd (Jo h) (Xi.mp n).1
 |x::r,i+1,j+1,n,h,h'=>by
  simp at h h';have n':(owns r).Nodup:=by
   rw[jq]at n;cases q:x.addr with
   |none=>rw[q]at n;exact n
   |some c=>rw[q]at n;exact(Xi.mp n).2
  rw[Uh n' h h']
noncomputable def V9:List ah:=["worst_cost_of_ask","least_numbers","whole_cost_of_ask","round_numbers"]
def TabOk(K:k9d)(H:Hp):Prop:=∀x∈V9,∀c P,W.tabIn K x=a3 (c,P)->H P=a3 (.cod (jx x))
section
variable{K:k9d}{H H':Hp}
theorem TabOk.mono(h:TabOk K H)(g:j0 H H'):TabOk K H':=λx hx c P e=>g _ _ (h x hx c P e)
theorem TabOk.upd{a:ae}{o u:HO}(h:TabOk K H)(e:H a=a3 u)(n:∀q,u≠.cod q):TabOk K (upd H a o):=λx hx c P z=>by have q:=h x hx c P z;rw[ji];exact q;intro y;subst y;rw[e]at q;exact n _ (aw q)
theorem TabOk.del{A:List ae}(h:TabOk K H)(hA:∀a∈A,∃xs,H a=a3 (.lst xs)):TabOk K (del H A):=λx hx c P z=>by have q:=h x hx c P z;rw[j6];exact q;intro y;obtain⟨xs,e⟩:=hA _ y;rw[q]at e;cases e
end
structure Rep(K:k9d)(ρ:Rho)(σ:St)(H:Hp):Prop where
 len:σ.length=ρ.length
 val:∀(i:Nat)(d:D),ρ[i]?=a3 (.val d)->∃v,σ[i]?=a3 (a3 v)/\Enc K (del H (owns ρ)) d v
 own:∀(i:Nat)(a:ae)(ds:List D),ρ[i]?=a3 (.own a ds)->σ[i]?=a3 (a3 (.ref a))/\∃xs,H a=a3 (.lst xs)/\j4 K (del H (owns ρ)) ds xs
 nd:(owns ρ).Nodup
 raw:∀(i:Nat)(a:ae)(o:dw)(x:ah),ρ[i]?=a3 (.raw a o x)->σ[i]?=a3 (a3 (.ref a))/\del H (owns ρ) a=a3 (.frz o (.own a))/\W.nsIn K au x=a3 (a3 o.cls)
 tb:TabOk K H
section
variable{K:k9d}{ρ ρ':Rho}{σ:St}{H H':Hp}{i:Nat}{d:D}{v:V}{a:ae}{ds ds':List D}{xs:List V}
theorem Rep.owned(R:Rep K ρ σ H):∀a∈owns ρ,∃xs,H a=a3 (.lst xs):=λa h=>by obtain⟨i,ds,e⟩:=Y5 h;obtain⟨_,xs,q,_⟩:=R.own i a ds e;exact⟨xs,q⟩
theorem Rep.fresh(R:Rep K ρ σ H)(h:H a=a9):a∉owns ρ:=λz=>by obtain⟨xs,e⟩:=R.owned a z;rw[h]at e;cases e
theorem Rep.grow(R:Rep K ρ σ H)(g:j0 H H'):Rep K ρ σ H' :=
 ⟨R.len,λi d e=>let ⟨v,q,h⟩:=R.val i d e;⟨v,q,h.mono (jh g)⟩,λi a ds e=>let ⟨q,xs,h,l⟩:=R.own i a ds e;⟨q,xs,g _ _ h,l.mono (jh g)⟩,R.nd,λi a o x e=>let ⟨q,h,z⟩:=R.raw i a o x e;⟨q,jh g _ _ h,z⟩,R.tb.mono g⟩
theorem getElem?_set_of{α:Type}{l:List α}{i j:Nat}{x y:α}(h:(l.set i x)[j]?=a3 y):(i=j/\y=x/\i<l.length)\/(i≠j/\l[j]?=a3 y):=by
 rw[dz]at h;split at h
 .rename_i e;subst e;split at h
  .rename_i z;cases h;exact .inl ⟨rfl,rfl,z⟩
  .cases h
 .rename_i e;exact .inr ⟨e,h⟩
theorem Ua{α:Type}{l:List α}{i:Nat}{x:α}(h:i<l.length):(l.set i x)[i]?=a3 x:=by simp[h]
theorem zp{α:Type}{l:List α}{i j:Nat}{x:α}(h:i≠j):(l.set i x)[j]?=l[j]?:=by simp[h]
theorem Rep.set_val(R:Rep K ρ σ H)(e:Enc K (del H (owns ρ)) d v):Rep K (ρ.set i (.val d)) (σ.set i (a3 v)) H:=by
 have sub:(owns (ρ.set i (.val d))).Sublist (owns ρ):=jf rfl;have g:j0 (del H (owns ρ)) (del H (owns (ρ.set i (.val d)))):=v8 λb hb=>sub.subset hb;refine⟨by simp[R.len],λj d' h=>?_,λj a ds h=>?_,sub.nodup R.nd,λj a o x h=>?_,R.tb⟩
 .rcases getElem?_set_of h with ⟨rfl,z,hl⟩|⟨n,h⟩
  .cases z;exact⟨v,Ua (by rw[R.len];exact hl),e.mono g⟩
  .obtain⟨u,q,h⟩:=R.val j d' h;exact⟨u,by rw[zp n];exact q,h.mono g⟩
 .rcases getElem?_set_of h with ⟨rfl,z,_⟩|⟨n,h⟩
  .cases z
  .obtain⟨q,xs,h,l⟩:=R.own j a ds h;exact⟨by rw[zp n];exact q,xs,h,l.mono g⟩
 .rcases getElem?_set_of h with ⟨rfl,z,_⟩|⟨n,h⟩
  .cases z
  .obtain⟨q,h,z⟩:=R.raw j a o x h;exact⟨by rw[zp n];exact q,g _ _ h,z⟩
theorem Rep.set_un{v:Option V}(R:Rep K ρ σ H):Rep K (ρ.set i .un) (σ.set i v) H:=by
 have sub:(owns (ρ.set i .un)).Sublist (owns ρ):=jf rfl;have g:j0 (del H (owns ρ)) (del H (owns (ρ.set i .un))):=v8 λb hb=>sub.subset hb;refine⟨by simp[R.len],λj d' h=>?_,λj a ds h=>?_,sub.nodup R.nd,λj a o x h=>?_,R.tb⟩
 .rcases getElem?_set_of h with ⟨rfl,z,hl⟩|⟨n,h⟩
  .cases z
  .obtain⟨u,q,h⟩:=R.val j d' h;exact⟨u,by rw[zp n];exact q,h.mono g⟩
 .rcases getElem?_set_of h with ⟨rfl,z,_⟩|⟨n,h⟩
  .cases z
  .obtain⟨q,xs,h,l⟩:=R.own j a ds h;exact⟨by rw[zp n];exact q,xs,h,l.mono g⟩
 .rcases getElem?_set_of h with ⟨rfl,z,_⟩|⟨n,h⟩
  .cases z
  .obtain⟨q,h,z⟩:=R.raw j a o x h;exact⟨by rw[zp n];exact q,g _ _ h,z⟩
theorem Rep.set_own(R:Rep K ρ σ H)(g:j0 H H')(ha:H a=a9)(e:H' a=a3 (.lst xs))(l:j4 K (del H' (a::owns ρ)) ds xs):Rep K (ρ.set i (.own a ds)) (σ.set i (a3 (.ref a))) H':=by
 have na:=R.fresh ha;obtain⟨nd,sub⟩:=Jx (ds:=ds) (i:=i) R.nd na;have g1:j0 (del H' (a::owns ρ)) (del H' (owns (ρ.set i (.own a ds)))):=v8 λb hb=>by
  rcases sub b hb with e|z
  .exact e▸xq ..
  .exact xf _ z
 have g2:j0 (del H (owns ρ)) (del H' (a::owns ρ)):=λb o q=>by
  obtain⟨n,q⟩:=of_del q;rw[j6];exact g b o q;intro z;rcases xn.mp z with e|z
  .subst e;rw[ha]at q;cases q
  .exact n z
 refine⟨by simp[R.len],λj d' h=>?_,λj b ds' h=>?_,nd,λj b o x h=>?_,R.tb.mono g⟩
 .rcases getElem?_set_of h with ⟨rfl,z,hl⟩|⟨n,h⟩
  .cases z
  .obtain⟨u,q,h⟩:=R.val j d' h;exact⟨u,by rw[zp n];exact q,h.mono (g2.trans g1)⟩
 .rcases getElem?_set_of h with ⟨rfl,z,hl⟩|⟨n,h⟩
  .cases z;exact⟨Ua (by rw[R.len];exact hl),xs,e,l.mono g1⟩
  .obtain⟨q,ys,h,l⟩:=R.own j b ds' h;exact⟨by rw[zp n];exact q,ys,g _ _ h,l.mono (g2.trans g1)⟩
 .rcases getElem?_set_of h with ⟨rfl,z,hl⟩|⟨n,h⟩
  .cases z
  .obtain⟨q,h,z⟩:=R.raw j b o x h;exact⟨by rw[zp n];exact q,g1 _ _ (g2 _ _ h),z⟩
theorem Rep.upd_own(R:Rep K ρ σ H)(h:ρ[i]?=a3 (.own a ds))(l:j4 K (del H (owns ρ)) ds' xs):Rep K (ρ.set i (.own a ds')) σ (upd H a (.lst xs)):=by
 have eo:owns (ρ.set i (.own a ds'))=owns ρ:=Qk h;have ed:del (upd H a (.lst xs)) (owns ρ)=del H (owns ρ):=Vt (Jo h);refine⟨by simp[R.len],λj d' q=>?_,λj b l' q=>?_,by rw[eo];exact R.nd,λj b o x q=>?_,let ⟨_,_,z,_⟩:=R.own i a ds h;R.tb.upd z λ_ y=>by cases y⟩
 .rw[eo,ed];rcases getElem?_set_of q with ⟨_,z,_⟩|⟨n,q⟩
  .cases z
  .exact R.val j d' q
 .rw[eo,ed];rcases getElem?_set_of q with ⟨rfl,z,_⟩|⟨n,q'⟩
  .cases z;exact⟨(R.own i a ds h).1,xs,j9,l⟩
  .obtain⟨z,ys,y,l''⟩:=R.own j b l' q';refine⟨z,ys,?_,l''⟩;have nb:b≠a:=λe=>n (Uh R.nd h (e▸q'));rw[ji nb];exact y
 .rw[eo,ed];rcases getElem?_set_of q with ⟨_,z,_⟩|⟨n,q⟩
  .cases z
  .exact R.raw j b o x q
theorem Rep.freeze(R:Rep K ρ σ H)(h:ρ[i]?=a3 (.own a ds)):Rep K (ρ.set i (.val (.lst ds))) σ H:=by
 obtain⟨hs,xs,hx,l⟩:=R.own i a ds h;have sub:(owns (ρ.set i (.val (.lst ds)))).Sublist (owns ρ):=jf rfl;have g:j0 (del H (owns ρ)) (del H (owns (ρ.set i (.val (.lst ds))))):=v8 λb hb=>sub.subset hb;have na:a∉owns (ρ.set i (.val (.lst ds))):=λz=>by
  obtain⟨j,l',q⟩:=Y5 z;rcases getElem?_set_of q with ⟨_,z,_⟩|⟨n,q⟩
  .cases z
  .exact n (Uh R.nd h q)
 refine⟨by simp[R.len],λj d' q=>?_,λj b l' q=>?_,sub.nodup R.nd,λj b o x q=>?_,R.tb⟩
 .rcases getElem?_set_of q with ⟨rfl,z,_⟩|⟨n,q⟩
  .cases z;exact⟨_,hs,a,xs,rfl,.inl (.inl (by rw[j6 na];exact hx)),l.mono g⟩
  .obtain⟨u,q,h⟩:=R.val j d' q;exact⟨u,q,h.mono g⟩
 .rcases getElem?_set_of q with ⟨rfl,z,_⟩|⟨n,q⟩
  .cases z
  .obtain⟨q,ys,h,l⟩:=R.own j b l' q;exact⟨q,ys,h,l.mono g⟩
 .rcases getElem?_set_of q with ⟨_,z,_⟩|⟨n,q⟩
  .cases z
  .obtain⟨q,h,z⟩:=R.raw j b o x q;exact⟨q,g _ _ h,z⟩
end
def DE(X:Cx)(ρ:Rho)(e:aj)(d:D):Prop:=∀σ H Q,Rep X.K ρ σ H->(∀v H',j0 H H'->Enc X.K (del H' (owns ρ)) d v->Q v H')->Qu X e σ H Q
def DT(X:Cx)(ρ:Rho)(e:aj)(d:D):Prop:=∀σ H Q,Rep X.K ρ σ H->(∀v H',j0 H H'->Enc X.K H' d v->Q v H')->Qu X e σ H Q
def DO(X:Cx)(ρ:Rho)(e:aj)(ds:List D):Prop:=∀σ H Q,Rep X.K ρ σ H->(∀a xs H',j0 H H'->H a=a9->H' a=a3 (.lst xs)->j4 X.K (del H' (a::owns ρ)) ds xs->Q (.ref a) H')->Qu X e σ H Q
def DL(X:Cx)(ρ:Rho)(e:aj)(ds:List D):Prop:=∀σ H Q,Rep X.K ρ σ H->(∀a xs H',j0 H H'->H' a=a3 (.lst xs)->j4 X.K (del H' (owns ρ)) ds xs->Q (.ref a) H')->Qu X e σ H Q
def DB(X:Cx)(ρ:Rho)(e:aj)(b:Bool):Prop:=∀σ H Q,Rep X.K ρ σ H->(∀H',j0 H H'->Q b H')->j96 X e σ H Q
def DA(X:Cx)(ρ:Rho)(es:List aj)(ds:List D):Prop:=∀σ H Q,Rep X.K ρ σ H->(∀vs H',j0 H H'->j4 X.K (del H' (owns ρ)) ds vs->Q vs H')->Kd X es σ H Q
def DTA(X:Cx)(ρ:Rho)(es:List aj)(ds:List D):Prop:=∀σ H Q,Rep X.K ρ σ H->(∀vs H',j0 H H'->j4 X.K H' ds vs->Q vs H')->Kd X es σ H Q
def j95(X:Cx)(e:aj):TT:=λσ H Q=>∀whole pins s,Inv X pins σ H s->ar (ax X.prog X.w) X.A (fM e X.env whole) (TP X pins σ Q) X.xe s
theorem pwS{X:Cx}{e:aj}:PW X e (j95 X e):=λwhole pins s _ _ _ I h=>h whole pins s I
theorem PW.to{X:Cx}{e:aj}{t:TT}{σ:St}{H:Hp}(h:PW X e t){Q:Bool->Hp->Prop}(q:t σ H Q):j95 X e σ H Q:=λwhole pins s I=>h whole pins s σ H Q I q
def DW(X:Cx)(ρ:Rho)(e:aj)(b:Bool):Prop:=∀σ H Q,Rep X.K ρ σ H->(∀H',j0 H H'->Q b H')->j95 X e σ H Q
mutual
noncomputable def Z2:D->Bool
 |.lst _=>a4
 |.dct _ _=>a4
 |.sct _=>a4
 |.fn _ _=>a4
 |.tup ds=>v5 ds
 |_=>a6
noncomputable def v5:List D->Bool
 |[]=>a6
 |d::ds=>Z2 d&&v5 ds
end
mutual
theorem Enc.hide{K:k9d}{H:Hp}{A:List ae}(hA:∀a∈A,Hd (H a)):∀{d:D}{v:V},Z2 d=a6->Enc K H d v->Enc K (del H A) d v
 |.non,_,_,h=>h
 |.bl _,_,_,h=>h
 |.int _,_,_,h=>h
 |.str _,_,_,h=>h
 |.lst _,_,n,_=>by cases n
 |.dct _ _,_,n,_=>by cases n
 |.sct _,_,n,_=>by cases n
 |.fn _ _,_,n,_=>by cases n
 |.tup ds,_,n,⟨a,xs,e,q,l⟩=>by
  refine⟨a,xs,e,?_,j4.hide hA (by simpa [Z2]using n) l⟩;have out:∀{o:HO},H a=a3 o->(∀ys,o≠.lst ys)->(∀ys ep,o≠.dI ys ep)->del H A a=a3 o:=λ{o} h z z2=>by
   rw[j6];exact h;intro y;rcases hA a y with ⟨ys,e'⟩|⟨ys,ep,e'⟩
   .rw[h]at e';cases e';exact z ys rfl
   .rw[h]at e';cases e';exact z2 ys ep rfl
  rcases q with (q|⟨o,q⟩)|q
  .exact .inl (.inl (out q (λ_ z=>by cases z) λ_ _ z=>by cases z))
  .exact .inl (.inr ⟨o,out q (λ_ z=>by cases z) λ_ _ z=>by cases z⟩)
  .exact .inr q
theorem j4.hide{K:k9d}{H:Hp}{A:List ae}(hA:∀a∈A,Hd (H a)):∀{ds:List D}{xs:List V},v5 ds=a6->j4 K H ds xs->j4 K (del H A) ds xs
 |[],_,_,h=>h
 |d::ds,_,n,⟨x,r,e,h,l⟩=>by
  have n':Z2 d=a6/\v5 ds=a6:=by simpa [v5]using n
  exact⟨x,r,e,Enc.hide hA n'.1 h,j4.hide hA n'.2 l⟩
end
section
variable{X:Cx}{ρ:Rho}{e a b c:aj}{es:List aj}{d da db:D}{ds ds':List D}{i j:Int}{pos:aM}{k:Nat}{x:ah}
theorem DE.toT(h:DE X ρ e d):DT X ρ e d:=λσ H Q R q=>h σ H Q R λv H' g l=>q v H' g (l.mono jt)
theorem DT.toE(h:DT X ρ e d)(n:Z2 d=a6:=by rfl):DE X ρ e d:=λσ H Q R q=>h σ H Q R λv H' g l=>q v H' g (l.hide (λa ha=>.inl ((R.grow g).owned a ha)) n)
theorem DO.toL(h:DO X ρ e ds):DL X ρ e ds:=λσ H Q R q=>h σ H Q R λa xs H' g n m l=>q a xs H' g m (l.mono (v8 λb hb=>xf _ hb))
theorem DO.toE(h:DO X ρ e ds):DE X ρ e (.lst ds):=λσ H Q R q=>h σ H Q R λa xs H' g n m l =>q _ H' g ⟨a,xs,rfl,.inl (.inl (by rw[j6 (R.fresh n)];exact m)),l.mono (v8 λb hb=>xf _ hb)⟩
theorem DL.toT(h:DL X ρ e ds):DT X ρ e (.lst ds):=λσ H Q R q=>h σ H Q R λa xs H' g m l=>q _ H' g ⟨a,xs,rfl,.inl (.inl m),l.mono jt⟩
theorem DW.toB{k:Bool}(h:DW X ρ e k):DB X ρ e k:=λσ H Q R q pins s I=>h σ H Q R q _ pins s I
theorem DE.eq(h:DE X ρ e d){d':D}(q:d=d'):DE X ρ e d':=q▸h
theorem DB.eq{b b':Bool}(h:DB X ρ e b)(q:b=b'):DB X ρ e b':=q▸h
end
section
variable{X:Cx}{ρ:Rho}{e a b c:aj}{es:List aj}{d da db:D}{ds ds':List D}{i j:Int}{pos p:aM}{k:Nat}{x:ah}
theorem DE.var(k:Nat)(h:ρ[k]?=a3 (.val d))(hN:X.N[k]?=a3 x:=by rfl)(hv:Vis X.env.scope x:=by first|exact aU rfl|exact br (aU rfl)|exact br (br rfl))
  (hd:(x==k9h)=a4:=by decide) (hcd:(x==k9i)=a4:=by decide):DE X ρ (.Name x pos) d:=λσ H Q R q=>by
 obtain⟨v,hs,en⟩:=R.val k d h;exact(vo hN hv hd hcd).to ⟨v,hs,q v H (j0.refl H) en⟩
theorem DL.var(k:Nat){l:ae}(h:ρ[k]?=a3 (.own l ds))(hN:X.N[k]?=a3 x:=by rfl)(hv:Vis X.env.scope x:=by first|exact aU rfl|exact br (aU rfl)|exact br (br rfl))
  (hd:(x==k9h)=a4:=by decide) (hcd:(x==k9i)=a4:=by decide):DL X ρ (.Name x pos) ds:=λσ H Q R q=>by
 obtain⟨hs,xs,m,en⟩:=R.own k l ds h;exact(vo hN hv hd hcd).to ⟨_,hs,q l xs H (j0.refl H) m en⟩
theorem DE.glob {u:aa} {v:V} (hg:Gl X x) (hm:X.mg x=a3 u) (r:RelV v u) (h:∀H,Enc X.K H d v) (hd:(x==k9h)=a4:=by decide):DE X ρ (.Name x pos) d :=
 λσ H Q R q=>(je1 hg hm r hd).to (q v H (j0.refl H) (h _))
theorem DE.int{i:Int}{n:Nat}{pos:aM}:DE X ρ (.Constant (.int i) n pos) (.int i):=λσ H Q R q=>jhd.to (q _ H (j0.refl H) rfl)
theorem DE.bl{b:Bool}{n:Nat}:DE X ρ (.Constant (.bool b) n pos) (.bl b):=λσ H Q R q=>jlh.to (q _ H (j0.refl H) rfl)
theorem DE.non{n:Nat}:DE X ρ (.Constant .none n pos) .non:=λσ H Q R q=>j1g.to (q _ H (j0.refl H) rfl)
theorem DE.str{y:ah}{n:Nat}:DE X ρ (.Constant (.str y) n pos) (.str y):=λσ H Q R q=>j6y.to (q _ H (j0.refl H) rfl)
theorem DE.arI0{op:jX}{g:Int->Int->Int}(ho:OpR X (b8 op) (rI0 λi j=>.int (g i j)))(ha:DT X ρ a (.int i))(hb:DT X ρ b (.int j)):DE X ρ (.BinOp a op b pos) (.int (g i j)):=λσ H Q R q =>(W5 ho peS peS).to (ha σ H _ R λv H1 g1 e1=>hb σ H1 _ (R.grow g1) λu H2 g2 e2=>⟨i,j,e1,e2,q _ H2 (g1.trans g2) rfl⟩)
theorem DE.arI{op:jX}{C:Int->Int->Prop}{g:Int->Int->Int}(ho:OpR X (b8 op) (rI C λi j=>.int (g i j)))(ha:DT X ρ a (.int i))(hb:DT X ρ b (.int j))(hC:C i j):DE X ρ (.BinOp a op b pos) (.int (g i j)):=λσ H Q R q =>(W5 ho peS peS).to (ha σ H _ R λv H1 g1 e1=>hb σ H1 _ (R.grow g1) λu H2 g2 e2=>⟨i,j,e1,e2,hC,q _ H2 (g1.trans g2) rfl⟩)
theorem DE.add(ha:DT X ρ a (.int i))(hb:DT X ρ b (.int j)):DE X ρ (.BinOp a .Add b pos) (.int (i+j)):=DE.arI0 jhr ha hb
theorem DE.sub(ha:DT X ρ a (.int i))(hb:DT X ρ b (.int j)):DE X ρ (.BinOp a .Sub b pos) (.int (i-j)):=DE.arI0 jhj ha hb
theorem DE.mul(ha:DT X ρ a (.int i))(hb:DT X ρ b (.int j))(h:j60 i j):DE X ρ (.BinOp a .Mult b pos) (.int (i*j)):=DE.arI jho ha hb h
theorem DE.mod(ha:DT X ρ a (.int i))(hb:DT X ρ b (.int j))(h:0<j):DE X ρ (.BinOp a .Mod b pos) (.int (i%j)):=DE.arI jhp ha hb h
theorem DE.pow(ha:DT X ρ a (.int i))(hb:DT X ρ b (.int j))(h:j5z i j):DE X ρ (.BinOp a .Pow b pos) (.int (i^j.toNat)):=DE.arI jhn ha hb h
theorem DE.shl(ha:DT X ρ a (.int i))(hb:DT X ρ b (.int j))(h:j5z i j):DE X ρ (.BinOp a .LShift b pos) (.int (i*2^j.toNat)):=DE.arI (g:=λi j=>i*2^j.toNat) jhl ha hb h
theorem DE.neg(ha:DT X ρ a (.int i)):DE X ρ (.UnaryOp .USub a pos) (.int (-i)):=λσ H Q R q =>(jlg jg6 peS).to (ha σ H _ R λv H1 g1 e1=>⟨i,e1,q _ H1 g1 rfl⟩)
theorem DE.cmpI{op:g9}{g:Int->Int->Bool}(ho:OpR X (aO op) (rI0 λi j=>.bl (g i j)))(hm:aH op b=a4)(ha:DT X ρ a (.int i))(hb:DT X ρ b (.int j)):DE X ρ (.Compare a [op] [b] pos) (.bl (g i j)):=λσ H Q R q =>(Jw ho peS peS hm).to (ha σ H _ R λv H1 g1 e1=>hb σ H1 _ (R.grow g1) λu H2 g2 e2=>⟨i,j,e1,e2,q _ H2 (g1.trans g2) rfl⟩)
theorem DB.cmpI{op:g9}{g:Int->Int->Bool}(ho:OpR X (aO op) (rI0 λi j=>.bl (g i j)))(hm:aH op b=a4)(ha:DT X ρ a (.int i))(hb:DT X ρ b (.int j)):DB X ρ (.Compare a [op] [b] pos) (g i j):=λσ H Q R q =>(Jv ho peS peS hm).to (ha σ H _ R λv H1 g1 e1=>hb σ H1 _ (R.grow g1) λu H2 g2 e2=>⟨i,j,e1,e2,_,rfl,q H2 (g1.trans g2)⟩)
theorem DB.lt(ha:DT X ρ a (.int i))(hb:DT X ρ b (.int j)):DB X ρ (.Compare a [.Lt] [b] pos) (decide (i<j)):=DB.cmpI j0d (zf _) ha hb
theorem DB.le(ha:DT X ρ a (.int i))(hb:DT X ρ b (.int j)):DB X ρ (.Compare a [.LtE] [b] pos) (decide (i<=j)):=DB.cmpI jc9 (zf _) ha hb
theorem DB.gt(ha:DT X ρ a (.int i))(hb:DT X ρ b (.int j)):DB X ρ (.Compare a [.Gt] [b] pos) (decide (j<i)):=DB.cmpI jca (zf _) ha hb
theorem DB.ge(ha:DT X ρ a (.int i))(hb:DT X ρ b (.int j)):DB X ρ (.Compare a [.GtE] [b] pos) (decide (j<=i)):=DB.cmpI jcb (zf _) ha hb
theorem DE.lt(ha:DT X ρ a (.int i))(hb:DT X ρ b (.int j)):DE X ρ (.Compare a [.Lt] [b] pos) (.bl (decide (i<j))):=DE.cmpI j0d (zf _) ha hb
theorem DE.le(ha:DT X ρ a (.int i))(hb:DT X ρ b (.int j)):DE X ρ (.Compare a [.LtE] [b] pos) (.bl (decide (i<=j))):=DE.cmpI jc9 (zf _) ha hb
theorem DE.gt(ha:DT X ρ a (.int i))(hb:DT X ρ b (.int j)):DE X ρ (.Compare a [.Gt] [b] pos) (.bl (decide (j<i))):=DE.cmpI jca (zf _) ha hb
theorem DE.ge(ha:DT X ρ a (.int i))(hb:DT X ρ b (.int j)):DE X ρ (.Compare a [.GtE] [b] pos) (.bl (decide (j<=i))):=DE.cmpI jcb (zf _) ha hb
noncomputable def D.sc:D->Option V
 |.non=>a3 .non
 |.bl b=>a3 (.bl b)
 |.int i=>a3 (.int i)
 |.str x=>a3 (.str x)
 |_=>a9
theorem D.sc_enc{K:k9d}{H:Hp}{d:D}{u v:V}(h:d.sc=a3 u)(q:Enc K H d v):v=u:=by cases d<;>simp[D.sc]at h<;>subst h<;>exact q
theorem DE.eqS{u v:V}(ha:DT X ρ a da)(hb:DT X ρ b db)(h1:da.sc=a3 u:=by rfl)(h2:db.sc=a3 v:=by rfl)(h:Ke u v=a6:=by rfl):DE X ρ (.Compare a [.Eq] [b] pos) (.bl (decide (u=v))):=λσ H Q R q =>
 (Jw jcc peS peS (zf _)).to (ha σ H _ R λx H1 g1 e1=>hb σ H1 _ (R.grow g1) λy H2 g2 e2=>by
  cases D.sc_enc h1 e1;cases D.sc_enc h2 e2;exact⟨h,q _ H2 (g1.trans g2) rfl⟩)
theorem DE.neS{u v:V}(ha:DT X ρ a da)(hb:DT X ρ b db)(h1:da.sc=a3 u:=by rfl)(h2:db.sc=a3 v:=by rfl)(h:Ke u v=a6:=by rfl):DE X ρ (.Compare a [.NotEq] [b] pos) (.bl (!decide (u=v))):=λσ H Q R q =>
 (Jw jc8 peS peS (zf _)).to (ha σ H _ R λx H1 g1 e1=>hb σ H1 _ (R.grow g1) λy H2 g2 e2=>by
  cases D.sc_enc h1 e1;cases D.sc_enc h2 e2;exact⟨h,q _ H2 (g1.trans g2) rfl⟩)
theorem DB.eqS{u v:V}(ha:DT X ρ a da)(hb:DT X ρ b db)(h1:da.sc=a3 u:=by rfl)(h2:db.sc=a3 v:=by rfl)(h:Ke u v=a6:=by rfl):DB X ρ (.Compare a [.Eq] [b] pos) (decide (u=v)):=λσ H Q R q =>
 (Jv jcc peS peS (zf _)).to (ha σ H _ R λx H1 g1 e1=>hb σ H1 _ (R.grow g1) λy H2 g2 e2=>by
  cases D.sc_enc h1 e1;cases D.sc_enc h2 e2;exact⟨h,_,rfl,q H2 (g1.trans g2)⟩)
theorem DB.neS{u v:V}(ha:DT X ρ a da)(hb:DT X ρ b db)(h1:da.sc=a3 u:=by rfl)(h2:db.sc=a3 v:=by rfl)(h:Ke u v=a6:=by rfl):DB X ρ (.Compare a [.NotEq] [b] pos) (!decide (u=v)):=λσ H Q R q =>
 (Jv jc8 peS peS (zf _)).to (ha σ H _ R λx H1 g1 e1=>hb σ H1 _ (R.grow g1) λy H2 g2 e2=>by
  cases D.sc_enc h1 e1;cases D.sc_enc h2 e2;exact⟨h,_,rfl,q H2 (g1.trans g2)⟩)
theorem Ma(i j:Int):decide (V.int i=V.int j)=decide (i=j):=by
 by_cases h:i=j
 .subst h;simp
 .rw[decide_eq_false h,decide_eq_false (λz=>h (V.int.inj z))]
theorem j4a(i j:Bool):decide (V.bl i=V.bl j)=(i==j):=by cases i<;>cases j<;>rfl
theorem j29(i j:ah):decide (V.str i=V.str j)=decide (i=j):=by
 by_cases h:i=j
 .subst h;simp
 .rw[decide_eq_false h,decide_eq_false (λz=>h (V.str.inj z))]
theorem DE.eqI(ha:DT X ρ a (.int i))(hb:DT X ρ b (.int j)):DE X ρ (.Compare a [.Eq] [b] pos) (.bl (decide (i=j))):=(DE.eqS ha hb).eq (by rw[Ma])
theorem DE.neI(ha:DT X ρ a (.int i))(hb:DT X ρ b (.int j)):DE X ρ (.Compare a [.NotEq] [b] pos) (.bl (!decide (i=j))):=(DE.neS ha hb).eq (by rw[Ma])
theorem DB.eqI(ha:DT X ρ a (.int i))(hb:DT X ρ b (.int j)):DB X ρ (.Compare a [.Eq] [b] pos) (decide (i=j)):=(DB.eqS ha hb).eq (by rw[Ma])
theorem DB.neI(ha:DT X ρ a (.int i))(hb:DT X ρ b (.int j)):DB X ρ (.Compare a [.NotEq] [b] pos) (!decide (i=j)):=(DB.neS ha hb).eq (by rw[Ma])
theorem DE.neB{x y:Bool}(ha:DT X ρ a (.bl x))(hb:DT X ρ b (.bl y)):DE X ρ (.Compare a [.NotEq] [b] pos) (.bl (x != y)):=(DE.neS ha hb).eq (by rw[j4a];rfl)
theorem DB.neB{x y:Bool}(ha:DT X ρ a (.bl x))(hb:DT X ρ b (.bl y)):DB X ρ (.Compare a [.NotEq] [b] pos) (x != y):=(DB.neS ha hb).eq (by rw[j4a];rfl)
noncomputable def D.isNon:D->Bool
 |.non=>a6
 |_=>a4
theorem W8{K:k9d}{H:Hp}{d:D}{v:V}(q:Enc K H d v):decide (v=V.non)=d.isNon:=by
 cases d with
 |non=>cases(show v=.non from q);rfl
 |bl b=>cases(show v=.bl b from q);rfl
 |int b=>cases(show v=.int b from q);rfl
 |str b=>cases(show v=.str b from q);rfl
 |tup l=>obtain⟨a,xs,e,_⟩:=q;subst e;rfl
 |lst l=>obtain⟨a,xs,e,_⟩:=q;subst e;rfl
 |dct ks l=>obtain⟨a,xs,ep,vs,e,_⟩:=q;subst e;rfl
 |sct k=>obtain⟨a,e,_⟩:=q;subst e;rfl
 |fn x l=>obtain⟨a,c,tx,cl,vs,e,_⟩:=q;subst e;rfl
theorem DE.isN{n:Nat}{p2:aM}(ha:DT X ρ a d):DE X ρ (.Compare a [.Is] [.Constant .none n p2] pos) (.bl d.isNon):=λσ H Q R q =>(jhe (j71 peS)).to (ha σ H _ R λx H1 g1 e1=>q _ H1 g1 (by rw[W8 e1];rfl))
theorem DB.isN{n:Nat}{p2:aM}(ha:DT X ρ a d):DB X ρ (.Compare a [.Is] [.Constant .none n p2] pos) d.isNon:=λσ H Q R q =>(jh6 (j71 peS)).to (ha σ H _ R λx H1 g1 e1=>⟨_,rfl,by rw[W8 e1];exact q H1 g1⟩)
theorem DB.val{k:Bool}(ha:DT X ρ a (.bl k))(he:∀whole,fM a X.env whole=(do let v <-whole;fY a.pos;cF [v] (truthy v)):=by intro _;rfl):DB X ρ a k:=λσ H Q R q =>(jh4 peS he).to (ha σ H _ R λx H1 g1 e1=>⟨_,e1,q H1 g1⟩)
theorem DW.and1{k:Bool}(ha:DB X ρ a k):DW X ρ (.BoolOp .And [a] pos) k:=λσ H Q R q=>(jdu ptS).to (ha σ H Q R q)
theorem DW.or1{k:Bool}(ha:DB X ρ a k):DW X ρ (.BoolOp .Or [a] pos) k:=λσ H Q R q=>(jh2 ptS).to (ha σ H Q R q)
theorem DW.and{k m:Bool}{rest:List aj}(ha:DB X ρ a k)(hb:k=a6->DW X ρ (.BoolOp .And (b::rest) pos) m):DW X ρ (.BoolOp .And (a::b::rest) pos) (k&&m):=λσ H Q R q =>
 (jh3 ptS pwS).to (ha σ H _ R λH1 g1=>by
  cases k with
  |false=>exact Kv (q H1 g1)
  |true=>exact Ku (hb rfl σ H1 Q (R.grow g1) λH2 g2=>q H2 (g1.trans g2)))
theorem DW.or{k m:Bool}{rest:List aj}(ha:DB X ρ a k)(hb:k=a4->DW X ρ (.BoolOp .Or (b::rest) pos) m):DW X ρ (.BoolOp .Or (a::b::rest) pos) (k || m):=λσ H Q R q =>
 (jle ptS pwS).to (ha σ H _ R λH1 g1=>by
  cases k with
  |true=>exact Ku (q H1 g1)
  |false=>exact Kv (hb rfl σ H1 Q (R.grow g1) λH2 g2=>q H2 (g1.trans g2)))
theorem DB.not{k:Bool}(ha:DB X ρ a k):DB X ρ (.UnaryOp .Not a pos) (!k):=λσ H Q R q=>(jh5 ptS).to (ha σ H _ R λH1 g1=>q H1 g1)
theorem DE.and{k m:Bool}{rest:List aj}(ha:DT X ρ a (.bl k))(hb:k=a6->DE X ρ (.BoolOp .And (b::rest) pos) (.bl m)):DE X ρ (.BoolOp .And (a::b::rest) pos) (.bl (k&&m)):=λσ H Q R q =>
 (jhg peS peS).to (ha σ H _ R λx H1 g1 e1=>⟨k,e1,by
  cases k with
  |false=>exact Kv (q _ H1 g1 rfl)
  |true=>exact Ku (hb rfl σ H1 Q (R.grow g1) λv H2 g2=>q v H2 (g1.trans g2))⟩)
theorem DE.ite{k:Bool}{d':D}(hc:DB X ρ c k)(ha:k=a6->DE X ρ a d)(hb:k=a4->DE X ρ b d'):DE X ρ (.IfExp c a b pos) (if k=a6 then d else d'):=λσ H Q R q =>
 (j9n ptS peS peS).to (hc σ H _ R λH1 g1=>by
  cases k with
  |true=>exact Ku (ha rfl σ H1 Q (R.grow g1) λv H2 g2 z=>q v H2 (g1.trans g2) (by rw[if_pos rfl];exact z))
  |false=>exact Kv (hb rfl σ H1 Q (R.grow g1) λv H2 g2 z=>q v H2 (g1.trans g2) (by rw[if_neg xg];exact z)))
theorem DA.nil:DA X ρ [] []:=λσ H Q R q=>jy.to (q [] H (j0.refl H) rfl)
theorem DA.cons(ha:DE X ρ a d)(hr:DA X ρ es ds)(hs:a8 (a::es) X.env=(a4,ay a X.env)::a8 es X.env:=by rfl):DA X ρ (a::es) (d::ds):=λσ H Q R q =>(jg peS paS hs).to (ha σ H _ R λv H1 g1 e1=>hr σ H1 _ (R.grow g1) λvs H2 g2 e2=>q _ H2 (g1.trans g2) ⟨v,vs,rfl,e1.mono (jh g2),e2⟩)
theorem DTA.nil:DTA X ρ [] []:=λσ H Q R q=>jy.to (q [] H (j0.refl H) rfl)
theorem DTA.cons(ha:DT X ρ a d)(hr:DTA X ρ es ds)(hs:a8 (a::es) X.env=(a4,ay a X.env)::a8 es X.env:=by rfl):DTA X ρ (a::es) (d::ds):=λσ H Q R q =>(jg peS paS hs).to (ha σ H _ R λv H1 g1 e1=>hr σ H1 _ (R.grow g1) λvs H2 g2 e2=>q _ H2 (g1.trans g2) ⟨v,vs,rfl,e1.mono g2,e2⟩)
theorem DE.tup{n:Nat}{x1}(h:DA X ρ es ds)(hl:ds.length<=ak:=by simp only[X7,Tg];decide):DE X ρ (.Tuple es x1 pos) (.tup ds):=λσ H Q R q =>(j6x paS).to (h σ H _ R λvs H1 g1 e1=>⟨by rw[e1.length];exact hl,λp hp=>q _ _ (g1.trans (j7 hp)) ⟨p,vs,rfl,.inl (.inl (by rw[j6 ((R.grow g1).fresh hp)];exact j9)),e1.mono (jh (j7 hp))⟩⟩)
theorem DO.lst(h:DA X ρ es ds)(hl:ds.length<=ak:=by simp only[X7,Tg];decide):DO X ρ (.List es pos) ds:=λσ H Q R q =>
 (jhc paS).to (h σ H _ R λvs H1 g1 e1=>⟨by rw[e1.length];exact hl,λp hp=>q p vs _ (g1.trans (j7 hp)) (g1.free hp) j9 (e1.mono λb o z=>by
  obtain⟨n,z⟩:=of_del z
  rw[j6];exact j7 hp b o z
  intro y
  rcases xn.mp y with y|y
  .subst y;rw[hp]at z;cases z
  .exact n y)⟩)
theorem j4.atI{K:k9d}{H:Hp}{xs:List V}(h:j4 K H ds xs)(q:atI ds i=a3 d):∃x,L2.atI xs i=a3 x/\Enc K H d x:=by
 unfold L2.atI at q ⊢;rw[h.length];cases z:ixN ds.length i with
 |none=>rw[z]at q;cases q
 |some k =>rw[z]at q;exact h.get q
noncomputable def cutD(ds:List D)(lo hi:Option Int):List D:=(ds.drop (HT.sIx ds.length 0 lo)).take (HT.sIx ds.length ds.length hi-HT.sIx ds.length 0 lo)
theorem j4.cut{K:k9d}{H:Hp}{xs:List V}(h:j4 K H ds xs)(lo hi:Option Int):j4 K H (cutD ds lo hi) (Ou xs lo hi):=by unfold cutD Ou;rw[h.length];exact(h.drop _).take _
theorem M9{K:k9d}{H1:Hp}{A:List ae}{ds:List D}{xs:List V}{p:ae}{o:HO}(hp:H1 p=a9)(e1:j4 K (del H1 A) ds xs):j4 K (del (upd H1 p o) (p::A)) ds xs:=e1.mono λb o z=>by
 obtain⟨n,z⟩:=of_del z;rw[j6];exact j7 hp b o z;intro y;rcases xn.mp y with y|y
 .subst y;rw[hp]at z;cases z
 .exact n y
theorem DO.rep(ha:DL X ρ a ds)(hb:DT X ρ b (.int i))(h1:-(2^63)<=i)(h2:i<2^63)(hl:ds.length*i.toNat<=ak):DO X ρ (.BinOp a .Mult b pos) (a5 i.toNat ds).flatten:=λσ H Q R q =>
 (W5 jhm peS peS).to (ha σ H _ R λl xs H1 g1 m1 e1=>hb σ H1 _ (R.grow g1) λu H2 g2 e2 =>
  ⟨l,i,xs,rfl,e2,g2 _ _ m1,h1,h2,by rw[e1.length];exact hl,λp hp=>q p _ _ ((g1.trans g2).trans (j7 hp)) ((g1.trans g2).free hp) j9 (M9 hp ((e1.mono (jh g2)).rep _))⟩)
theorem DE.lenT (ha:DT X ρ a (.tup ds)) (hm:X.mg "len" = a9) (hg:Gl X "len":=by rfl) (hs:a8 [a] X.env=[(a4,ay a X.env)]:=by rfl) {p2:aM}:DE X ρ (.Call (.Name "len" p2) [a] [] pos) (.int ds.length):=λσ H Q R q =>(J0 Ow hg hm eD (jg peS jy hs) (by decide) (by decide) hs).to (ha σ H _ R λv H1 g1 ⟨l,xs,e,sq,en⟩=>⟨l,xs,by rw[e],.inr sq,q _ H1 g1 (by rw[en.length];rfl)⟩)
theorem DE.lenL (ha:DT X ρ a (.lst ds)) (hm:X.mg "len" = a9) (hg:Gl X "len":=by rfl) (hs:a8 [a] X.env=[(a4,ay a X.env)]:=by rfl) {p2:aM}:DE X ρ (.Call (.Name "len" p2) [a] [] pos) (.int ds.length):=λσ H Q R q =>(J0 Ow hg hm eD (jg peS jy hs) (by decide) (by decide) hs).to (ha σ H _ R λv H1 g1 ⟨l,xs,e,sq,en⟩=>⟨l,xs,by rw[e],.inl sq,q _ H1 g1 (by rw[en.length];rfl)⟩)
end
def framed(sp:Sp):Sp:=λvs H Q E=>∃A:List ae,(∀a∈A,∃xs,H a=a3 (.lst xs))/\sp vs (del H A) (λv F=>(∀a∈A,F a=a9)->Q v (mrg A H F)) E
theorem FnOk.framed{P:av}{w:az}{K:k9d}{mg:k9g}{base:aC}{k:Nat}{f:ae}{fd:aN}{ps:List ah}{sp:Sp}(F:FnOk P w K mg base CX0 k f fd ps sp) :
  FnOk P w K mg base CX0 k f fd ps (framed sp) where
 len:=λvs H Q E ⟨A,_,h⟩=>F.len vs _ _ _ h
 run:=by
  rintro A0 outer s H args us vs Q E hr e0 hb rv ⟨A,hA,h⟩;have nd:∀{b:ae},H b=a9->del H A b=a9:=λ{b} q=>by
   by_cases z:b∈A
   .exact qt z
   .rw[j6 z];exact q
  have out:∀{b:ae}{o:HO},H b=a3 o->(∀ys,o≠.lst ys)->del H A b=a3 o:=λ{b o} q z=>by rw[j6];exact q;intro y;obtain⟨ys,e'⟩:=hA b y;rw[q]at e';cases e';exact z ys rfl
  have e1:Env0 P w K mg base A0 outer s (del H A):=⟨e0.frames,e0.mod,λb o q=>⟨(e0.bs b o q).1,nd (e0.bs b o q).2⟩,e0.bsz,e0.funs,λb hb=>nd (e0.frf b hb),
   λa o q=>by
    obtain⟨_,q⟩:=of_del q
    exact jj.stay (e0.hok a o q) (λb u _ z=>z) (λb z=>out z λ_ y=>by cases y) (λb xs z=>out z λ_ y=>by cases y) (λb _ _ z=>out z λ_ y=>by cases y),e0.bare⟩
  refine bh (F.run A0 outer s (del H A) args us vs _ E hr e1 hb rv h) λr s' hq=>?_;cases r with
  |error e=>exact(show False from hq).elim
  |ok fl =>
   cases fl with
   |next=>exact(show False from hq).elim
   |brk=>exact(show False from hq).elim
   |cont=>exact(show False from hq).elim
   |ret u =>
    obtain⟨v,H',os,bare,un,hok',rel,q⟩:=(show CE outer P w (del H A) s _ u s' from hq)
    have kept:∀a∈A,∃o,s.heap.get? a=a3 o/\s'.heap.get? a=a3 o/\H' a=a9:=λa ha=>by
     obtain⟨xs,e⟩:=hA a ha;obtain⟨_,its,n,_,z⟩:=(show jj P w H s.heap a (.lst xs)from e0.hok _ _ e)
     have nf:a∉frs outer:=λy=>by rw[e0.frf a y]at e;cases e
     exact⟨_,z,un.keep a _ z (qt ha) nf (by simp),un.free a _ z (qt ha) (by simp)⟩
    have hF:∀a∈A,H' a=a9:=λa ha=>let ⟨_,_,_,z⟩:=kept a ha;z;have outF:∀{b:ae}{o:HO},H' b=a3 o->b∉A:=λ{b o} e z=>by rw[hF b z]at e;cases e
    refine⟨v,mrg A H H',os,bare,?_,λa o e=>?_,rel,q hF⟩
    .exact{
      keep:=λb o e n=>un.keep b o e (nd n)
      slot:=λb o e n=>un.slot b o e (nd n)
      free:=λb o e n hx=>by
       by_cases z:b∈A
       .rw[Jh z];exact n
       .rw[jm z];exact un.free b o e (nd n) hx
      there:=un.there
      tups:=λb xs e=>by
       have z:=un.tups b xs (out e λ_ y=>by cases y)
       rw[jm (outF z)];exact z
      frzs:=λb o u e=>by
       have z:=un.frzs b o u (out e λ_ y=>by cases y)
       rw[jm (outF z)];exact z
      tbls:=λb ps e=>by
       obtain⟨more,z⟩:=un.tbls b ps (out e λ_ y=>by cases y)
       exact⟨more,by rw[jm (outF z)];exact z⟩ }
    .by_cases z:a∈A
     .rw[Jh z]at e;obtain⟨xs,e'⟩:=hA a z;rw[e']at e;cases e;obtain⟨hl,its,n,r,y⟩:=(show jj P w H s.heap a (.lst xs)from e0.hok _ _ e')
      obtain⟨o',q1,q2,_⟩:=kept a z;rw[y]at q1;cases q1;exact⟨hl,its,n,r,q2⟩
     .rw[jm z]at e;refine jj.stay (hok' a o e) (λb u _ q=>q) (λb q=>?_) (λb xs q=>?_) (λb _ _ q=>?_)
      .rw[jm (outF q)];exact q
      .rw[jm (outF q)];exact q
      .rw[jm (outF q)];exact q
def spP(K:k9d)(S:List D->D->Prop):Sp:=λvs H Q _=>∃A ds d,TabOk K H/\(∀a∈A,∃xs,H a=a3 (.lst xs))/\j4 K (del H A) ds vs/\S ds d/\∀v H',j0 H H'->Enc K (del H' A) d v->Q v H'
def spF(K:k9d)(S:List D->List D->Prop):Sp:=λvs H Q _=>∃A ds l,TabOk K H/\(∀a∈A,∃xs,H a=a3 (.lst xs))/\j4 K (del H A) ds vs/\S ds l /\
 ∀a xs H',j0 H H'->H a=a9->H' a=a3 (.lst xs)->j4 K (del H' (a::A)) l xs->Q (.ref a) H'
def jne(K:k9d)(S:List D->D->Prop):Sp:=λvs H Q _=>∃ds d,TabOk K H/\j4 K H ds vs/\S ds d/\∀v H',j0 H H'->Enc K H' d v->Q v H'
def jnf(K:k9d)(S:List D->List D->Prop):Sp:=λvs H Q _=>∃ds l,TabOk K H/\j4 K H ds vs/\S ds l/\∀a xs H',j0 H H'->H a=a9->H' a=a3 (.lst xs)->j4 K (del H' [a]) l xs->Q (.ref a) H'
section
variable{P:av}{w:az}{K:k9d}{mg:k9g}{base:aC}{k:Nat}{f:ae}{fd:aN}{ps:List ah}
theorem FnOk.toP{S:List D->D->Prop}(F:FnOk P w K mg base CX0 k f fd ps (jne K S)):FnOk P w K mg base CX0 k f fd ps (spP K S) :=
 F.framed.imp λvs H Q E ⟨A,ds,d,tb,hA,en,hS,q⟩=>⟨A,hA,ds,d,tb.del hA,en,hS,λv F g e hF=>q v _ (Fp g) (by rw[U5 hF];exact e)⟩
theorem FnOk.toF{S:List D->List D->Prop}(F:FnOk P w K mg base CX0 k f fd ps (jnf K S)):FnOk P w K mg base CX0 k f fd ps (spF K S) :=
 F.framed.imp λvs H Q E ⟨A,ds,l,tb,hA,en,hS,q⟩=>⟨A,hA,ds,l,tb.del hA,en,hS,λa xs F g n e l' hF=>by
  have na:a∉A:=λz=>by rw[hF a z]at e;cases e
  refine q a xs _ (Fp g) (by rw[j6 na]at n;exact n) (by rw[jm na];exact e) (l'.mono λb o z=>?_)
  obtain⟨n1,z⟩:=of_del z
  have nb:b∉A:=λy=>by rw[hF b y]at z;cases z
  rw[j6,jm nb];exact z
  intro y
  rcases xn.mp y with y|y
  .exact n1 (by rw[y];exact xr.mpr rfl)
  .exact nb y⟩
end
noncomputable def Ii:List ah:=["dearest_way","cost_on_whole","worst_table","worst_plan","foe_answer","whole_table","whole_plan","mean_price"]
noncomputable def kG(us ws:List aa):List aa:=match ws with
 |[w]=>us++[w]
 |_=>[]
noncomputable def kGV(vs zs:List V):List V:=match zs with
 |[z]=>vs++[z]
 |_=>[]
def Dfl(K:k9d)(x:ah)(fd:aN)(ps:List ah):Prop:=x∈Ii->Binds K fd ps [.none]/\KBinds K fd ps ["prices"] kG kGV
structure Cal(X:Cx)(x:ah)(sp:Sp):Prop where
 ex:∃(k:Nat)(f:ae)(fd:aN)(ps:List ah),FnOk X.prog X.w X.K X.mg X.base CX0 k f fd ps sp/\Room (k+1) X.A/\X.mg x=a3 (.ref f)/\W.keepIn X.K (.ref f)=a6/\Binds X.K fd ps []/\Dfl X.K x fd ps
section
variable{X:Cx}{ρ:Rho}{e a:aj}{es:List aj}{d:D}{ds l:List D}{pos p:aM}{x:ah}
theorem DE.call{S:List D->D->Prop}(c:Cal X x (spP X.K S))(ha:DA X ρ (e::es) ds)(hS:S ds d)(hg:Gl X x:=by rfl)(hdb:(x==k9h)=a4:=by decide)
  (he:a8 (e::es) X.env=(a4,ay e X.env)::a8 es X.env:=by rfl) (hpl:(aL pos (a8 es X.env)).any (·.1)=a4:=by rfl):DE X ρ (.Call (.Name x p) (e::es) [] pos) d:=λσ H Q R q=>by
 obtain⟨k,f,fd,ps,F,hr,hm,hk,hb,_⟩:=c.ex;refine(Bo F (hr.mono (Pr _)) hg hm hk hb .nil Cv paS hdb he hpl).to (ha σ H _ R λvs H1 g1 e1=>?_);show spP X.K S (vs++[]) H1 Q E0;rw[Xx];exact⟨owns ρ,ds,d,R.tb.mono g1,(R.grow g1).owned,e1,hS,λv H2 g2 z=>q v H2 (g1.trans g2) z⟩
theorem DT.call{S:List D->D->Prop}(c:Cal X x (spP X.K S))(ha:DTA X ρ (e::es) ds)(hS:S ds d)(hg:Gl X x:=by rfl)(hdb:(x==k9h)=a4:=by decide)
  (he:a8 (e::es) X.env=(a4,ay e X.env)::a8 es X.env:=by rfl) (hpl:(aL pos (a8 es X.env)).any (·.1)=a4:=by rfl):DT X ρ (.Call (.Name x p) (e::es) [] pos) d:=λσ H Q R q=>by
 obtain⟨k,f,fd,ps,F,hr,hm,hk,hb,_⟩:=c.ex;refine(Bo F (hr.mono (Pr _)) hg hm hk hb .nil Cv paS hdb he hpl).to (ha σ H _ R λvs H1 g1 e1=>?_);show spP X.K S (vs++[]) H1 Q E0;rw[Xx];exact⟨[],ds,d,R.tb.mono g1,(λa h=>nomatch h),by rw[Q3];exact e1,hS,λv H2 g2 z=>q v H2 (g1.trans g2) (by rw[Q3]at z;exact z)⟩
theorem DO.call{S:List D->List D->Prop}(c:Cal X x (spF X.K S))(ha:DA X ρ (e::es) ds)(hS:S ds l)(hg:Gl X x:=by rfl)(hdb:(x==k9h)=a4:=by decide)
  (he:a8 (e::es) X.env=(a4,ay e X.env)::a8 es X.env:=by rfl) (hpl:(aL pos (a8 es X.env)).any (·.1)=a4:=by rfl):DO X ρ (.Call (.Name x p) (e::es) [] pos) l:=λσ H Q R q=>by
 obtain⟨k,f,fd,ps,F,hr,hm,hk,hb,_⟩:=c.ex;refine(Bo F (hr.mono (Pr _)) hg hm hk hb .nil Cv paS hdb he hpl).to (ha σ H _ R λvs H1 g1 e1=>?_);show spF X.K S (vs++[]) H1 Q E0;rw[Xx];exact⟨owns ρ,ds,l,R.tb.mono g1,(R.grow g1).owned,e1,hS,λa xs H2 g2 n m z=>q a xs H2 (g1.trans g2) (g1.free n) m z⟩
end
inductive Rt where
 |val (d:D)
 |fresh (ds:List D)
noncomputable def Rt.d:Rt->D
 |.val d=>d
 |.fresh l=>.lst l
structure Po where
 nx:Rho->Prop
 rt:Rt->Prop
 bk:Rho->Prop:=λ_=>False
 ct:Rho->Prop:=λ_=>False
 ex:ah->Rho->Prop:=λ_ _=>False
structure Fl(N:ae->Prop)(H:Hp)(h:aC)(e:ae)(C:aa):Prop where
 new:∀b,N b->b≠e
 free:H e=a9
 obj:∃(oe:dw)(vs:Array aa)(a0:aa),h.get? e=a3 oe/\oe.cls=C/\oe.data=.fields vs/\vs[0]?=a3 a0 /\
  (vs[1]?=a3 .none\/∃(T:ae)(oT:dw)(ts:Array aa),vs[1]?=a3 (.ref T)/\T≠e/\h.get? T=a3 oT/\oT.data=.fields ts/\ts[3]?=a3 .none/\H T=a9/\∀b,N b->b≠T)
def Old(X:Cx)(pins:k9f)(b:ae):Prop:=(∃o,X.s₀.heap.get? b=a3 o/\b∉X.ex)\/(∃p∈X.pn++pins,p.1=b)\/b=X.env.locals\/∃x,X.env.cells.lookup x=a3 b
def Iu(X:Cx)(σ:St)(H:Hp)(x:ah):Prop:=∀(pins:k9f) (H':Hp) (s':af) (e:ae) (C:aa),Inv X pins σ H' s'->j0 H H'->X.mg x=a3 C->Fl (Old X pins) H' s'.heap e C->X.xe (.ref e) s'
def Fr0(ρ ρ':Rho)(H H':Hp):Prop:=j0 (del H (owns ρ)) (del H' (owns ρ'))
def Ds(K:k9d)(ρ:Rho)(H H':Hp)(v:V):Rt->Prop
 |.val d=>j0 (del H (owns ρ)) H'/\Enc K H' d v
 |.fresh ds=>∃a xs,v=.ref a/\j0 (del H (owns ρ)) (del H' [a])/\H' a=a3 (.lst xs)/\j4 K (del H' [a]) ds xs
structure EndsOk(X:Cx)(ρ:Rho)(H:Hp)(P:Po)(E:Ends):Prop where
 nx:∀ρ' σ' H',P.nx ρ'->Rep X.K ρ' σ' H'->Fr0 ρ ρ' H H'->E.nx σ' H'
 bk:∀ρ' σ' H',P.bk ρ'->Rep X.K ρ' σ' H'->Fr0 ρ ρ' H H'->E.bk σ' H'
 ct:∀ρ' σ' H',P.ct ρ'->Rep X.K ρ' σ' H'->Fr0 ρ ρ' H H'->E.ct σ' H'
 rt:∀r v H',P.rt r->Ds X.K ρ H H' v r->E.rt v H'
 ex:∀x ρ' σ' H',P.ex x ρ'->Rep X.K ρ' σ' H'->Fr0 ρ ρ' H H'->Iu X σ' H' x
theorem Ds.step{K:k9d}{ρ ρ1:Rho}{H H1 H':Hp}{v:V}{r:Rt}(f:Fr0 ρ ρ1 H H1)(h:Ds K ρ1 H1 H' v r):Ds K ρ H H' v r:=by
 cases r with
 |val d=>exact⟨f.trans h.1,h.2⟩
 |fresh ds=>obtain⟨a,xs,e,g,m,l⟩:=h;exact⟨a,xs,e,f.trans g,m,l⟩
theorem EndsOk.step{X:Cx}{ρ ρ1:Rho}{H H1:Hp}{P:Po}{E:Ends}(h:EndsOk X ρ H P E)(f:Fr0 ρ ρ1 H H1):EndsOk X ρ1 H1 P E :=
 ⟨λρ' σ' H' n R g=>h.nx ρ' σ' H' n R (f.trans g),λρ' σ' H' n R g=>h.bk ρ' σ' H' n R (f.trans g),λρ' σ' H' n R g=>h.ct ρ' σ' H' n R (f.trans g),λr v H' n g=>h.rt r v H' n (Ds.step f g),λx ρ' σ' H' n R g=>h.ex x ρ' σ' H' n R (f.trans g)⟩
theorem Fr0.grow{ρ:Rho}{H H':Hp}(g:j0 H H'):Fr0 ρ ρ H H':=jh g
theorem Fr0.refl(ρ:Rho)(H:Hp):Fr0 ρ ρ H H:=j0.refl _
theorem Fr0.drop{ρ ρ':Rho}{H:Hp}(h:∀b∈owns ρ',b∈owns ρ):Fr0 ρ ρ' H H:=v8 h
theorem Fr0.new{ρ:Rho}{H H':Hp}{i:Nat}{a:ae}{ds:List D}{K:k9d}{σ:St}(R:Rep K ρ σ H)(g:j0 H H')(n:H a=a9):Fr0 ρ (ρ.set i (.own a ds)) H H':=λb o q=>by
 obtain⟨nb,q⟩:=of_del q;rw[j6];exact g b o q;intro z;rcases(Jx (ds:=ds) (i:=i) R.nd (R.fresh n)).2 b z with e|z
 .subst e;rw[n]at q;cases q
 .exact nb z
def DS(X:Cx)(ρ:Rho)(st:aX)(P:Po):Prop:=∀σ H E,Rep X.K ρ σ H->EndsOk X ρ H P E->j97 X st E σ H
def DSs(X:Cx)(ρ:Rho)(sts:List aX)(P:Po):Prop:=∀σ H E,Rep X.K ρ σ H->EndsOk X ρ H P E->Ck X sts E σ H
section
variable{X:Cx}{ρ:Rho}{e a b c:aj}{es:List aj}{st:aX}{rest sa sb body:List aX}{P:Po}{d:D}{ds ds':List D}{pos p p1 p2 p3:aM}{x:ah}{i:Nat}
theorem DSs.nil(h:P.nx ρ):DSs X ρ [] P:=λσ H E R q=>jdv.to (q.nx ρ σ H h R (Fr0.refl ρ H))
theorem DSs.cons{N:Rho->Prop}(h1:DS X ρ st { P with nx:=N })(h2:∀ρ1,N ρ1->DSs X ρ1 rest P):DSs X ρ (st::rest) P:=λσ H E R q =>(Vm psS O6).to (h1 σ H { E with nx:=Ck X rest E } R ⟨λρ' σ' H' n R' f=>h2 ρ' n σ' H' E R' (q.step f),q.bk,q.ct,q.rt,q.ex⟩)
theorem DSs.freeze(i:Nat){l:ae}(h:ρ[i]?=a3 (.own l ds))(h2:DSs X (ρ.set i (.val (.lst ds))) body P):DSs X ρ body P:=λσ H E R q =>h2 σ H E (R.freeze h) (q.step (.drop λb hb=>(jf rfl).subset hb))
theorem DSs.forget(i:Nat)(h2:DSs X (ρ.set i .un) body P):DSs X ρ body P:=λσ H E R q=>by
 have z:=R.set_un (i:=i) (v:=a9);have R':Rep X.K (ρ.set i .un) σ H:=by
  have q:=R.set_un (i:=i) (v:=(σ[i]?).join);have e:σ.set i ((σ[i]?).join)=σ:=by
   apply Tv;intro j;rw[dz];split
   .rename_i h;subst h;split
    .rename_i h;rw[kh h];rfl
    .rename_i h;rw[Xu nofun]
   .rfl
  rw[e]at q;exact q
 exact h2 σ H E R' (q.step (.drop λb hb=>(jf rfl).subset hb))
theorem DS.set(i:Nat)(he:DE X ρ e d)(h:P.nx (ρ.set i (.val d)))(hN:X.N.Nodup)(hi:X.N[i]?=a3 x:=by rfl)(hx:Loc X.env.scope x:=by first|exact aU rfl|exact br rfl)
  (hs:aK e (a3 (.Name x p)) pos.line X.env=pure a4:=by rfl) (hf:X.fn x=a6\/X.env.scope.names.lookup x=a3 .local:=by first|exact .inl rfl|exact .inr rfl):DS X ρ (.Assign [.Name x p] e pos) P:=λσ H E R q =>
 (Uc hN hi hx peS hs hf).to (he σ H _ R λv H1 g1 e1=>q.nx _ _ H1 h ((R.grow g1).set_val e1) (j0.trans (Fr0.grow g1) (Fr0.drop λb hb=>(jf rfl).subset hb)))
theorem DS.setO(i:Nat)(he:DO X ρ e ds)(h:∀l,P.nx (ρ.set i (.own l ds)))(hN:X.N.Nodup)(hi:X.N[i]?=a3 x:=by rfl)(hx:Loc X.env.scope x:=by first|exact aU rfl|exact br rfl)
  (hs:aK e (a3 (.Name x p)) pos.line X.env=pure a4:=by rfl) (hf:X.fn x=a6\/X.env.scope.names.lookup x=a3 .local:=by first|exact .inl rfl|exact .inr rfl):DS X ρ (.Assign [.Name x p] e pos) P:=λσ H E R q =>
 (Uc hN hi hx peS hs hf).to (he σ H _ R λl xs H1 g1 n m e1=>q.nx _ _ H1 (h l) (R.set_own g1 n m e1) (.new R g1 n))
theorem DS.if{k:Bool}(hc:DB X ρ c k)(ha:k=a6->DSs X ρ sa P)(hb:k=a4->DSs X ρ sb P):DS X ρ (.If c sa sb pos) P:=λσ H E R q =>
 (jlf ptS O6 O6).to (hc σ H _ R λH1 g1=>by
  cases k with
  |true=>exact Ku (ha rfl σ H1 E (R.grow g1) (q.step (.grow g1)))
  |false=>exact Kv (hb rfl σ H1 E (R.grow g1) (q.step (.grow g1))))
theorem DS.ret(he:DT X ρ e d)(h:P.rt (.val d)):DS X ρ (.Return (a3 e) pos) P:=λσ H E R q =>(Wx peS).to (he σ H _ R λv H1 g1 e1=>q.rt _ v H1 h ⟨jt.trans g1,e1⟩)
theorem DS.retO(he:DO X ρ e ds)(h:P.rt (.fresh ds)):DS X ρ (.Return (a3 e) pos) P:=λσ H E R q =>
 (Wx peS).to (he σ H _ R λl xs H1 g1 n m e1=>q.rt _ _ H1 h ⟨l,xs,rfl,(λb o z=>by
  obtain⟨nb,z⟩:=of_del z
  rw[j6];exact g1 b o z
  intro y;rw[xr.mp y,n]at z;cases z),m,e1.mono (v8 λb hb=>by rw[xr.mp hb];exact xq ..)⟩)
theorem DS.retV(k:Nat){l:ae}(hk:ρ[k]?=a3 (.own l ds))(h:P.rt (.fresh ds))(hN:X.N[k]?=a3 x:=by rfl)(hv:Vis X.env.scope x:=by first|exact aU rfl|exact br (aU rfl)|exact br (br rfl))
  (hd:(x==k9h)=a4:=by decide) (hcd:(x==k9i)=a4:=by decide):DS X ρ (.Return (a3 (.Name x p)) pos) P:=λσ H E R q=>by
 obtain⟨hs,xs,m,en⟩:=R.own k l ds hk;have g:j0 (del H (owns ρ)) (del H [l]):=v8 λb hb=>by rw[xr.mp hb];exact Jo hk
 exact(Wx (vo hN hv hd hcd)).to ⟨_,hs,q.rt _ _ H h ⟨l,xs,rfl,g,m,en.mono g⟩⟩
theorem DS.expr(he:DT X ρ e d)(h:P.nx ρ)(hs:aK e a9 pos.line X.env=pure a4:=by rfl):DS X ρ (.Expr e pos) P:=λσ H E R q =>(Wy peS hs).to (he σ H _ R λv H1 g1 e1=>q.nx ρ σ H1 h (R.grow g1) (.grow g1))
theorem Ra{σ:St}{H H':Hp}{l:ae}{o:HO}(hk:ρ[i]?=a3 (.own l ds))(g:j0 H H'):Fr0 ρ (ρ.set i (.own l ds')) H (upd H' l o):=by unfold Fr0;rw[Qk hk,Vt (Jo hk)];exact jh g
theorem DS.append(i:Nat){l:ae}(hk:ρ[i]?=a3 (.own l ds))(he:DE X ρ e d)(hl:ds.length<ak)(h:P.nx (ρ.set i (.own l (ds++[d]))))
  (hN:X.N[i]?=a3 x:=by rfl) (hv:Vis X.env.scope x:=by first|exact aU rfl|exact br (aU rfl)|exact br (br rfl)) (hd:(x==k9h)=a4:=by decide) (hcd:(x==k9i)=a4:=by decide)
  (hst:a8 [e] X.env=[(a4,ay e X.env)]:=by rfl) (hline:(p1.endLine==p2.line)=a6:=by rfl)
  (hbase:aI (.Name x p) "append" X.env (ay (.Name x p) X.env)=ay (.Name x p) X.env:=by rfl) (hfew:((aL p2 (a8 [e] X.env)).all (λx=>!x.1)&&(aT p2 (aD [] X.env)).all (λx=>x.1.isSome)
   && decide (([e]:List aj).length+([]:List aS).length+(if ([]:List aS).isEmpty then 0 else 1)<30))=a6:=by rfl)
  (hs:aK (.Call (.Attribute (.Name x p) "append" p1) [e] [] p2) a9 pos.line X.env=pure a4:=by rfl) :
  DS X ρ (.Expr (.Call (.Attribute (.Name x p) "append" p1) [e] [] p2) pos) P:=λσ H E R q=>by
 obtain⟨hσ,xs,m,en⟩:=R.own i l ds hk;refine(Wy (Rn Td dQ fV Oa (vo hN hv hd hcd) (jg peS jy hst) hbase hfew hline hst rfl) hs).to ?_;refine⟨_,hσ,.inl ⟨rfl,xs,.inl (.inl m)⟩,he σ H _ R λv H1 g1 e1=>⟨l,xs,v,rfl,rfl,g1 _ _ m,by rw[en.length];exact hl,?_⟩⟩;exact q.nx _ σ _ h ((R.grow g1).upd_own hk ((en.mono (jh g1)).append (.one e1))) (Ra (σ:=σ) hk g1)
theorem DS.extend(i:Nat){l:ae}(hk:ρ[i]?=a3 (.own l ds))(he:DO X ρ e ds')(hl:ds.length+ds'.length<=ak)(h:P.nx (ρ.set i (.own l (ds++ds'))))
  (hN:X.N[i]?=a3 x:=by rfl) (hv:Vis X.env.scope x:=by first|exact aU rfl|exact br (aU rfl)|exact br (br rfl)) (hd:(x==k9h)=a4:=by decide) (hcd:(x==k9i)=a4:=by decide)
  (hst:a8 [e] X.env=[(a4,ay e X.env)]:=by rfl) (hline:(p1.endLine==p2.line)=a6:=by rfl)
  (hbase:aI (.Name x p) "extend" X.env (ay (.Name x p) X.env)=ay (.Name x p) X.env:=by rfl) (hfew:((aL p2 (a8 [e] X.env)).all (λx=>!x.1)&&(aT p2 (aD [] X.env)).all (λx=>x.1.isSome)
   && decide (([e]:List aj).length+([]:List aS).length+(if ([]:List aS).isEmpty then 0 else 1)<30))=a6:=by rfl)
  (hs:aK (.Call (.Attribute (.Name x p) "extend" p1) [e] [] p2) a9 pos.line X.env=pure a4:=by rfl) :
  DS X ρ (.Expr (.Call (.Attribute (.Name x p) "extend" p1) [e] [] p2) pos) P:=λσ H E R q=>by
 obtain⟨hσ,xs,m,en⟩:=R.own i l ds hk;refine(Wy (Rn Td i8 PySem.F.type_list_extend j77 (vo hN hv hd hcd) (jg peS jy hst) hbase hfew hline hst rfl) hs).to ?_;refine⟨_,hσ,.inl ⟨rfl,xs,.inl (.inl m)⟩,he σ H _ R λb ys H1 g1 n1 m1 e1=>⟨l,b,xs,ys,rfl,rfl,g1 _ _ m,m1,by rw[en.length,e1.length];exact hl,?_⟩⟩;exact q.nx _ σ _ h ((R.grow g1).upd_own hk ((en.mono (jh g1)).append (e1.mono (v8 λc hc=>xf _ hc)))) (Ra (σ:=σ) hk g1)
def Uw(K:k9d)(F:Hp)(J:It)(ds:List D):Prop:=∀(i:Nat)(H:Hp)(A:List ae),j0 F (del H A)->(∀a∈A,H a≠a9) ->
 (i<ds.length->J.go i H)/\(ds.length<=i->J.stop i H)/\∀x H',J.yld i H x H'->j0 H H'/\∀d,ds[i]?=a3 d->Enc K (del H' A) d x
def DI(X:Cx)(ρ:Rho)(tg it:aj)(ds:List D):Prop:=∀σ H R,Rep X.K ρ σ H->(∀J H',j0 H H'->Uw X.K (del H' (owns ρ)) J ds->R J H')->j18 X tg it σ H R
variable{tg it:aj}
theorem j7h{K:k9d}{F:Hp}{l:ae}{xs:List V}(sq:SqL K F l xs)(en:j4 K F ds xs):Uw K F (Itl K l) ds:=λi H A g hA=>by
 have sq':SqL K H l xs:=jt.seq (g.seq sq);refine⟨λh=>?_,λh=>⟨xs,sq',by rw[en.length];exact h⟩,λx H' ⟨e,y⟩=>?_⟩
 .obtain⟨v,hv,_⟩:=en.get (kh h);exact⟨xs,v,sq',hv⟩
 .subst e;refine⟨j0.refl _,λd hd=>?_⟩;obtain⟨v,hv,ev⟩:=en.get hd;have e:=y xs sq';rw[hv]at e;cases e;exact ev.mono g
theorem ja4{K:k9d}{F:Hp}{l:ae}{xs:List V}(sq:SqT K F l xs)(en:j4 K F ds xs):Uw K F (Itt K l) ds:=λi H A g hA=>by
 have sq':SqT K H l xs:=jt.seqT (g.seqT sq);refine⟨λh=>?_,λh=>⟨xs,sq',by rw[en.length];exact h⟩,λx H' ⟨e,y⟩=>?_⟩
 .obtain⟨v,hv,_⟩:=en.get (kh h);exact⟨xs,v,sq',hv⟩
 .subst e;refine⟨j0.refl _,λd hd=>?_⟩;obtain⟨v,hv,ev⟩:=en.get hd;have e:=y xs sq';rw[hv]at e;cases e;exact ev.mono g
theorem DI.lst(h:DE X ρ it (.lst ds)):DI X ρ tg it ds:=λσ H R r q=>(je0 peS).to (h σ H _ r λv H1 g1 ⟨l,xs,e,sq,en⟩=>⟨l,e,⟨xs,jt.seq sq⟩,q _ H1 g1 (j7h sq en)⟩)
theorem DI.tup(h:DE X ρ it (.tup ds)):DI X ρ tg it ds:=λσ H R r q=>(jha peS).to (h σ H _ r λv H1 g1 ⟨l,xs,e,sq,en⟩=>⟨l,e,⟨xs,jt.seqT sq⟩,q _ H1 g1 (ja4 sq en)⟩)
noncomputable def upto(lo:Int)(n:Nat):List D:=(aq n).map λk=>D.int (lo+(k:Nat))
theorem Cz{K:k9d}{F:Hp}(lo:Int)(n:Nat):Uw K F (Itr lo n) (upto lo n):=λi H A g hA=>by
 have hl:(upto lo n).length=n:=by unfold upto;rw[km,Xh]
 rw[hl];refine⟨λh=>h,λh=>h,λx H' ⟨e,y⟩=>?_⟩;subst e;refine⟨j0.refl _,λd hd=>?_⟩;unfold upto at hd;rw[xx]at hd;cases z:(aq n)[i]? with
 |none=>rw[z]at hd;cases hd
 |some k =>
  rw[z]at hd;have ek:k=i:=by have:=t6 (n:=n) (i:=i) (by have:=(X8.mp z).1;rwa [Xh]at this);rw[this]at z;exact(aw z).symm
  subst ek;cases hd;exact y
theorem DI.range1 {n:Int} (h:DT X ρ a (.int n)) (hm:X.mg "range" = a9) (h1:-(2^62)<=n) (h2:n<2^62) (hg:Gl X "range":=by rfl) (hs:a8 [a] X.env=[(a4,ay a X.env)]:=by rfl):DI X ρ tg (.Call (.Name "range" p) [a] [] pos) (upto 0 n.toNat):=λσ H R r q =>(j6v hg hm (jg peS jy hs) hs).to (h σ H _ r λv H1 g1 e=>⟨n,by rw[show v=.int n from e],h1,h2,q _ H1 g1 (Cz 0 _)⟩)
theorem DI.range2 {m n:Int} (h:DT X ρ a (.int m)) (h':DT X ρ b (.int n)) (hm:X.mg "range" = a9) (h1:-(2^62)<=m) (h2:m<2^62) (h3:-(2^62)<=n) (h4:n<2^62) (hg:Gl X "range":=by rfl) (hs:a8 [a,b] X.env=[(a4,ay a X.env),(a4,ay b X.env)]:=by rfl)
  (hs2:a8 [b] X.env=[(a4,ay b X.env)]:=by rfl) (hs3:a8 [a,b] X.env=(a4,ay a X.env)::a8 [b] X.env:=by rfl):DI X ρ tg (.Call (.Name "range" p) [a,b] [] pos) (upto m (n-m).toNat):=λσ H R r q =>
 (j6u hg hm (jg peS (jg peS jy hs2) hs3) hs hs2).to (h σ H _ r λv H1 g1 e=>h' σ H1 _ (r.grow g1) λu H2 g2 e2=>⟨m,n,by rw[show v=.int m from e,show u=.int n from e2],⟨h1,h2,h3,h4⟩,q _ H2 (g1.trans g2) (Cz m _)⟩)
def j98(X:Cx)(tg:aj):TG:=λv σ H Q=>∀pins s u,Inv X pins σ H s->RelV v u->ar (ax X.prog X.w) X.A (cU tg X.env u) (λ_ s'=>∃σ' H',Inv X pins σ' H' s'/\Q σ' H') X.xe s
theorem pgS:PG X tg (j98 X tg):=λpins s σ H v u Q I r h=>h pins s u I r
theorem PG.to{t:TG}{σ:St}{H:Hp}{v:V}{Q:St->Hp->Prop}(h:PG X tg t)(q:t v σ H Q):j98 X tg v σ H Q:=λpins s u I r=>h pins s σ H v u Q I r q
def DG(X:Cx)(ρ:Rho)(tg:aj)(d:D)(ρ':Rho):Prop:=(∀b∈owns ρ',b∈owns ρ)/\∀σ H v Q,Rep X.K ρ σ H->Enc X.K (del H (owns ρ)) d v->(∀σ',Rep X.K ρ' σ' H->Q σ' H)->j98 X tg v σ H Q
theorem DG.name(i:Nat)(hN:X.N.Nodup)(hi:X.N[i]?=a3 x:=by rfl)(hx:Loc X.env.scope x:=by first|exact aU rfl|exact br rfl)(hf:X.fn x=a6\/X.env.scope.names.lookup x=a3 .local:=by first|exact .inl rfl|exact .inr rfl):DG X ρ (.Name x p) d (ρ.set i (.val d)) :=
 ⟨λb hb=>(jf rfl).subset hb,λσ H v Q R en q=>(V4 hN hi hx hf).to (q _ (R.set_val en))⟩
theorem DS.for(W:Nat->Rho->Prop)(hi:DI X ρ tg it ds)(h0:W 0 ρ)(hs:∀i d ρ',ds[i]?=a3 d->W i ρ'->∃ρ2,DG X ρ' tg d ρ2/\DSs X ρ2 body { nx:=W (i+1),rt:=P.rt,bk:=P.nx,ct:=W (i+1),ex:=P.ex })
  (hd:∀ρ',W ds.length ρ'->P.nx ρ') (hc:X.calm=a6) (hp:dB (ax X.prog X.w) X.A X.env X.xe) (hf:∀x,aA it X.env x=pure x:=by intro _;rfl):DS X ρ (.For tg it body [] pos) P:=λσ H E R q=>by
 refine(j1d hp hc piS pgS O6 hf).to (hi σ H _ R λJ H1 g1 ok=>?_);refine⟨λi m σ' H'=>∃ρ',W i ρ'/\Rep X.K ρ' σ' H'/\Fr0 ρ ρ' H1 H'/\m=ds.length-i/\i<=ds.length,⟨ds.length,ρ,h0,R.grow g1,Fr0.refl _ _,rfl,cy _⟩,?_⟩;rintro i m σ' H' ⟨ρ',w,R',f,rfl,hle⟩;obtain⟨go,stop,yld⟩:=ok i H' (owns ρ') f λa ha=>by obtain⟨xs,e⟩:=R'.owned a ha;rw[e];simp
 by_cases hlt:i<ds.length
 .refine .inr ⟨go hlt,λσ2 H2=>∃ρ2,W (i+1) ρ2/\Rep X.K ρ2 σ2 H2/\Fr0 ρ ρ2 H1 H2,λσ2 H2 ⟨ρ2,w2,R2,f2⟩=>⟨ds.length-(i+1),by omega,ρ2,w2,R2,f2,rfl,hlt⟩,λx H2 y=>?_⟩;obtain⟨g2,en⟩:=yld x H2 y;obtain⟨ρ2,⟨sub,hG⟩,hB⟩:=hs i ds[i] ρ' (kh hlt) w;refine hG σ' H2 x _ (R'.grow g2) (en _ (kh hlt)) λσ3 R3=>?_;have f2:Fr0 ρ ρ2 H1 H2:=j0.trans f (j0.trans (Fr0.grow g2) (Fr0.drop sub));refine hB σ3 H2 _ R3 ⟨λρ3 σ4 H4 n R4 f4=>⟨ρ3,n,R4,f2.trans f4⟩,λρ3 σ4 H4 n R4 f4=>q.nx ρ3 σ4 H4 n R4 ((Fr0.grow g1).trans (f2.trans f4)),λρ3 σ4 H4 n R4 f4=>⟨ρ3,n,R4,f2.trans f4⟩,λr v H4 n z=>q.rt r v H4 n (Ds.step ((Fr0.grow g1).trans f2) z),λx ρ3 σ4 H4 n R4 f4=>q.ex x ρ3 σ4 H4 n R4 ((Fr0.grow g1).trans (f2.trans f4))⟩
 .have e:i=ds.length:=by omega
  subst e;exact .inl ⟨stop (xu _),q.nx ρ' σ' H' (hd ρ' w) R' ((Fr0.grow g1).trans f)⟩
end
noncomputable def zb(N:List ah)(ds:List D):Rho:=ds.map Sl.val++a5 (N.length-ds.length) Sl.un
theorem Y0(N:List ah)(ds:List D):owns (zb N ds)=[]:=by
 unfold owns zb;rw[List.filterMap_append];have h1:(ds.map Sl.val).filterMap Sl.addr=[]:=List.filterMap_eq_nil_iff.mpr λs hs=>by obtain⟨d,_,rfl⟩:=Xm.mp hs;rfl
 have h2:(a5 (N.length-ds.length) Sl.un).filterMap Sl.addr=[]:=List.filterMap_eq_nil_iff.mpr λs hs=>by rw[(List.mem_replicate.mp hs).2];rfl
 rw[h1,h2];rfl
theorem W2{K:k9d}{H:Hp}{N:List ah}{ds:List D}{vs:List V}(tb:TabOk K H)(h:j4 K H ds vs):Rep K (zb N ds) (start N vs) H:=by
 have ho:=Y0 N ds;have hl:=h.length;refine⟨by unfold zb start;simp[hl],λi d e=>?_,λi a l e=>?_,by rw[ho];exact d8,λi a o y e=>?_,tb⟩
 .rw[ho,Q3];unfold zb at e;by_cases z:i<ds.length
  .rw[Px (by simpa using z),xx]at e;rw[kh z]at e;cases e;obtain⟨v,hv,en⟩:=h.get (kh z);refine⟨v,?_,en⟩;unfold start;rw[Px (by rw[km,hl];exact z),xx,hv];rfl
  .rw[bT (by simpa using z)]at e;have:=Xf e;cases(List.mem_replicate.mp this).2
 .have:=Jo e;rw[ho]at this;cases this
 .unfold zb at e;rcases Pn.mp (Xf e)with z|z
  .obtain⟨d,_,q⟩:=Xm.mp z;cases q
  .cases(List.mem_replicate.mp z).2
section
variable{P:av}{w:az}{K:k9d}{mg:k9g}{base:aC}{x qual:ah}{st:aX}{f:ae}{fd:aN}{N ps:List ah}{k:Nat}
def Bc(K:k9d)(f:ae)(cdv:aa):Prop:=∃(oc:aa)(od:Option ae)(fd:aN)(sl:Array (Option aa)),K.lookup f=a3 ⟨oc,od,.func fd,sl⟩/\fd.code=cdv
theorem Fun.okC{sp:Sp}(F:Fun K x qual st f fd)(S:FnScope N ps (jc st))(len:∀vs H Q E,sp vs H Q E->vs.length=ps.length)
  (hbody:∀(cdv:aa)(A:aB)(outer:List dR)(s:af)(H:Hp)(vs:List V)(Q:VK) (E:XK),Bc K f cdv->Room k (A.deeper (bB qual (jc st) s.heap.objs.size f cdv))->sp vs H Q E ->
   ∃t,PSs (J1 CX0 P w K mg base N qual (jc st) f cdv A outer s H E).nox (jr st) t/\t { nx:=λ_ H'=>Q .non H',rt:=Q } (start N vs) H):FnOk P w K mg base CX0 (k+1) f fd ps sp:=by
 obtain⟨oc,od,dV,kV,doc,pm,an,cdv,ct,osl,rfl,lk,hcd⟩:=F.ex;refine jcl lk hcd S len λA outer s H vs Q E hr hsp=>?_;obtain⟨t,h,q⟩:=hbody cdv A outer s H vs Q E ⟨oc,od,_,osl,lk,rfl⟩ hr hsp;exact⟨t,h.nox,q⟩
theorem Ia{S:List D->D->Prop}(F:Fun K x qual st f fd)(Sc:FnScope N ps (jc st))(hl:∀ds d,S ds d->ds.length=ps.length)
  (hbody:∀(cdv:aa)(A:aB)(outer:List dR)(s:af)(H:Hp)(E:XK),Bc K f cdv->Room k (A.deeper (bB qual (jc st) s.heap.objs.size f cdv))->∀ds d,S ds d ->
   DSs (J1 CX0 P w K mg base N qual (jc st) f cdv A outer s H E).nox (zb N ds) (jr st) { nx:=λ_=>d=.non,rt:=λr=>r.d=d }):FnOk P w K mg base CX0 (k+1) f fd ps (spP K S):=by
 refine FnOk.toP (F.okC Sc (λvs H Q E ⟨ds,d,tb,en,hS,_⟩=>by rw[en.length];exact hl ds d hS) λcdv A outer s H vs Q E hcv hr ⟨ds,d,tb,en,hS,q⟩=>⟨_,O6,?_⟩);have ho:=Y0 N ds;refine hbody cdv A outer s H E hcv hr ds d hS (start N vs) H _ (W2 tb en) ⟨λρ' σ' H' n R f=>?_,λ_ _ _ z=>z.elim,λ_ _ _ z=>z.elim,λr v H' n z=>?_,λ_ _ _ _ z=>z.elim⟩
 .subst n;unfold Fr0 at f;rw[ho,Q3]at f;exact q _ H' (f.trans jt) rfl
 .cases r with
  |val d' =>cases(show d'=d from n);obtain⟨g,en'⟩:=z;rw[ho,Q3]at g;exact q v H' g en'
  |fresh l =>cases(show D.lst l=d from n);obtain⟨a,xs,e,g,m,en'⟩:=z;rw[ho,Q3]at g;exact q v H' (g.trans jt) ⟨a,xs,e,.inl (.inl m),en'.mono jt⟩
theorem jaq{S:List D->List D->Prop}(F:Fun K x qual st f fd)(Sc:FnScope N ps (jc st))(hl:∀ds d,S ds d->ds.length=ps.length)
  (hbody:∀(cdv:aa)(A:aB)(outer:List dR)(s:af)(H:Hp)(E:XK),Bc K f cdv->Room k (A.deeper (bB qual (jc st) s.heap.objs.size f cdv))->∀ds l,S ds l ->
   DSs (J1 CX0 P w K mg base N qual (jc st) f cdv A outer s H E).nox (zb N ds) (jr st) { nx:=λ_=>False,rt:=λr=>r=.fresh l }):FnOk P w K mg base CX0 (k+1) f fd ps (spF K S):=by
 refine FnOk.toF (F.okC Sc (λvs H Q E ⟨ds,d,tb,en,hS,_⟩=>by rw[en.length];exact hl ds d hS) λcdv A outer s H vs Q E hcv hr ⟨ds,l,tb,en,hS,q⟩=>⟨_,O6,?_⟩);have ho:=Y0 N ds;refine hbody cdv A outer s H E hcv hr ds l hS (start N vs) H _ (W2 tb en) ⟨λρ' σ' H' n R f=>n.elim,λ_ _ _ z=>z.elim,λ_ _ _ z=>z.elim,λr v H' n z=>?_,λ_ _ _ _ z=>z.elim⟩;cases(show r=.fresh l from n);obtain⟨a,xs,e,g,m,en'⟩:=z;rw[ho,Q3]at g;subst e;refine q a xs H' (g.trans jt) ?_ m en';cases y:H a with
 |none=>rfl
 |some o=>have:=g a o y;rw[qt (xr.mpr rfl)]at this;cases this
end
section
variable{prog:av}{w:az}{A:aB}{R:fO->af->Prop}{s:af}
theorem j2b{elt target iter:aj}{ifs:List aj}{scope:b9}{pos:aM}{it acc:aa}{env:dR}(I:Nat->af->Prop)
  (turn:∀n s,I n s->ar (ax prog w) A (dX it) (λr s₁=>match r with
   |none=>R (.ok .next) s₁
   |some v=>ar (ax prog w) A (eP target it v) (λ_ s₁'=>ar (ax prog w) A (cU target env v) (λ_ s₂ =>
     ar (ax prog w) A (forIn ifs a6 λc r=>if r=a6 then do let ok <-fM c env (ay c env);pure (bZ ok)else pure (bZ r)) (λok s₃ =>
      if ok=a6 then ar (ax prog w) A (ay elt env) (λx s₄ =>
       ar (ax prog w) A (call (.builtin "list.append") [acc,x]) (λ_ s₅=>∃m,m<n/\I m s₅) (λ_ _=>False) s₄) (λ_ _=>False) s₃
      else ∃m,m<n/\I m s₃) (λ_ _=>False) s₂) (λ_ _=>False) s₁') (λ_ _=>False) s₁) (λ_ _=>False) s)
  (n:Nat) (h:I n s) :
  cG (ax prog w) A (.compLoop (.ListComp elt [⟨target,iter,ifs,0⟩] scope pos) 0 it acc env) R s:=by
 refine codeAny_loop rfl I (λn s hI=>?_) n h;show ar _ A ((compTurn (.ListComp elt [⟨target,iter,ifs,0⟩] scope pos) 0 it acc env).onRaise (λx=>do noteFrame x env;theTreesLotGoes x)) _ _ s;refine wpAny_noted ?_;rw[compTurn_list];refine a7 (dU (a7 (bL (turn n s hI) (λr s₁ h₁=>?_) λ_ _ h'=>h'.elim)));cases r with
 |none=>exact ai h₁
 |some v =>
  refine a7 (bL h₁ (λ_ s₁' h₁'=>?_) λ_ _ h'=>h'.elim);refine a7 (bL h₁' (λ_ s₂ h₂=>a7 (bL h₂ (λok s₃ h₃=>?_) λ_ _ h'=>h'.elim)) λ_ _ h'=>h'.elim);cases ok with
  |false=>exact ai ⟨rfl,h₃⟩
  |true =>exact a7 (a7 (bL h₃ (λx s₄ h₄=>a7 (bL h₄ (λ_ s₅ h₅=>ai (ai ⟨rfl,h₅⟩)) λ_ _ h'=>h'.elim)) λ_ _ h'=>h'.elim))
end
noncomputable def v6(env:dR):List (ah×bq)->List (ah×ae)->List (ah×ae)
 |[],acc=>acc
 |(n,k)::r,acc=>v6 env r (if k==.free then(match env.cells.lookup n with|some a=>(n,a)::acc|none=>acc)else acc)
theorem Lq{scope:b9}{env:dR}(h:∀y∈scope.names,y.2=.free->(env.cells.lookup y.1).isSome=a6):dM scope env=pure (v6 env scope.names []):=by
 simp only[dM];have step:∀(names:List (ah×bq)) (acc:List (ah×ae)),(∀y∈names,y.2=.free->(env.cells.lookup y.1).isSome=a6) ->
   (forIn names acc (λx r=>(do if (x.2==ba)=a6 then(do let a <-cellOf env x.1;pure (bZ ((x.1,a)::r)))else pure (bZ r):mL _)):mL _)=pure (v6 env names acc):=by
  intro names;induction names with
  |nil=>intro acc _;rfl
  |cons y r ih =>
   intro acc hy;obtain⟨n,k⟩:=y;rw[List.forIn_cons];by_cases e:(k==ba)=a6
   .have hk:k=.free:=by simpa using e
    have hs:=hy (n,k) (xq ..) hk;obtain⟨a,ha⟩:=Xz.mp hs;have hc:cellOf env n=pure a:=by unfold cellOf;rw[ha]
    simp only[e,if_true,hc,pure_bind];rw[ih _ λz hz=>hy z (xf _ hz)];simp only[v6,e,if_true,ha]
   .have e':(k==ba)=a4:=by simpa using e
    simp only[e',ph,if_false,pure_bind];rw[ih _ λz hz=>hy z (xf _ hz)];simp only[v6,e',ph,if_false]
 have:=step scope.names [] h;rw[show(forIn scope.names ([]:List (ah×ae)) λx r=>_)=_ from this];rfl
theorem Er{env:dR}{y:ah}{c:ae}:∀{names:List (ah×bq)} {acc:List (ah×ae)},(∀y c,acc.lookup y=a3 c->env.cells.lookup y=a3 c)->(v6 env names acc).lookup y=a3 c->env.cells.lookup y=a3 c
 |[],acc,h,q=>h y c q
 |(n,k)::r,acc,h,q=>by
  unfold v6 at q;refine Er (acc:=_) ?_ q;intro z d hz;split at hz
  .split at hz
   .rename_i a ha;rw[Xp]at hz;split at hz
    .rename_i e;have e':z=n:=by simpa using e
     subst e';cases hz;exact ha
    .exact h z d hz
   .exact h z d hz
  .exact h z d hz
theorem Lr{env:dR}{y:ah}:∀{names:List (ah×bq)} {acc:List (ah×ae)},(acc.lookup y).isSome=a6->((v6 env names acc).lookup y).isSome=a6
 |[],acc,h=>h
 |(n,k)::r,acc,h=>by
  unfold v6;refine Lr ?_;split
  .split
   .rw[Xp];split
    .rfl
    .exact h
   .exact h
  .exact h
theorem Mi{env:dR}{y:ah}(hs:(env.cells.lookup y).isSome=a6):∀{names:List (ah×bq)} {acc:List (ah×ae)},(y,ba)∈names->((v6 env names acc).lookup y).isSome=a6
 |[],acc,h=>nomatch h
 |(n,k)::r,acc,h=>by
  unfold v6;rcases xn.mp h with e|h
  .cases e;refine Lr ?_;obtain⟨a,ha⟩:=Xz.mp hs;rw[if_pos (by rfl),ha];rw[Xp];simp
  .exact Mi hs h
noncomputable def Q4(scope:b9)(env:dR)(N:List ah)(cs:List Nat):Bool :=
 scope.names.all (λy=>(y.2 != .cell || scope.names.lookup y.1==a3 .cell)&&(y.2 != .local || scope.names.lookup y.1==a3 .local)&&(y.2 != .free || ((env.cells.lookup y.1).isSome&&(env.kindOf y.1==a3 .cell || env.kindOf y.1==a3 .free)))) &&
 (aq N.length).all (λj=>cs.contains j || (match N[j]? with|some y=>scope.names.lookup y != a3 .local&&scope.names.lookup y != a3 .cell|none=>a6))
theorem lookup_mem{α β:Type}[BEq α][LawfulBEq α]{l:List (α×β)}{a:α}{b:β}(h:l.lookup a=a3 b):(a,b)∈l:=by
 induction l with
 |nil=>cases h
 |cons x r ih =>
  obtain⟨c,d⟩:=x;rw[Xp]at h;split at h
  .rename_i e;cases h;have e':a=c:=by simpa using e
   subst e';exact xq ..
  .exact xf _ (ih h)
theorem Ji{env:dR}{x:ah}{k':bq}:∀{names:List (ah×bq)},
  (names.map λ(n,k)=>if (k==ba&&env.scope.kind==.function&&env.kindOf n==a3 .cell) then(n,bD) else(n,k)).lookup x=a3 k' ->
  ∃k,names.lookup x=a3 k/\(k'=k\/(k=.free/\k'=.cell))
 |[],h=>by cases h
 |(n,k)::r,h=>by
  rw[xm]at h;rw[Xp];by_cases hc:(k==ba&&env.scope.kind==.function&&env.kindOf n==a3 .cell)=a6
  .dsimp only at h;rw[if_pos hc,Xp]at h;cases e:x==n with
   |true =>
    rw[e]at h;cases h;have:(k==ba)=a6:=by
     cases z:k==ba with
     |true=>rfl
     |false=>rw[z]at hc;simp at hc
    exact⟨k,rfl,.inr ⟨by simpa using this,rfl⟩⟩
   |false=>rw[e]at h;exact Ji h
  .dsimp only at h;rw[if_neg hc,Xp]at h;cases e:x==n with
   |true=>rw[e]at h;cases h;exact⟨_,rfl,.inl rfl⟩
   |false=>rw[e]at h;exact Ji h
theorem Us:∀(names:List (ah×bq)) (n:Nat) (acc:List (ah×ae)),aP n names acc=aP n names []++acc
 |[],_,_=>rfl
 |(x,k)::r,n,acc=>by
  unfold aP;split
  .rw[Us r (n+1) ((x,n)::acc),Us r (n+1) [(x,n)],Tf];rfl
  .exact Us r n acc
theorem Ls:∀{names:List (ah×bq)} {n:Nat} {x:ah} {c:ae},(x,c)∈aP n names []->(x,bD)∈names/\n<=c
 |[],_,_,_,h=>nomatch h
 |(y,k)::r,n,x,c,h=>by
  unfold aP at h;split at h
  .rename_i hk;rw[Us]at h;rcases Pn.mp h with h|h
   .have q:=Ls h;exact⟨xf _ q.1,Nat.le_of_succ_le q.2⟩
   .cases xr.mp h;have hk:k=bD:=by simpa using hk
    subst hk;exact⟨xq ..,xu _⟩
  .have q:=Ls h;exact⟨xf _ q.1,q.2⟩
theorem Yu{β:Type}:∀{l m:List (ah×β)} {y:ah},(l++m).lookup y=(l.lookup y).or (m.lookup y)
 |[],m,y=>rfl
 |(x,b)::r,m,y=>by
  rw[dP,Xp,Xp];split
  .rfl
  .exact Yu
theorem Es{names:List (ah×bq)}{n:Nat}{acc:List (ah×ae)}{y:ah}{c:ae}(h:(aP n names acc).lookup y=a3 c) :
  ((y,c)∈aP n names []/\(y,bD)∈names/\n<=c)\/((aP n names []).lookup y=a9/\acc.lookup y=a3 c):=by
 rw[Us,Yu]at h;cases e:(aP n names []).lookup y with
 |some c'=>rw[e]at h;cases h;have q:=lookup_mem e;exact .inl ⟨q,Ls q⟩
 |none=>rw[e]at h;exact .inr ⟨rfl,h⟩
theorem jjr{names:List (ah×bq)}{n:Nat}{acc:List (ah×ae)}{y:ah}(h:(y,bD)∉names):(aP n names acc).lookup y=acc.lookup y:=by
 rw[Us,Yu];cases e:(aP n names []).lookup y with
 |some c'=>exact absurd (Ls (lookup_mem e)).1 h
 |none=>rfl
theorem jfm{names:List (ah×bq)}{n:Nat}{acc:List (ah×ae)}{y:ah}(h:(acc.lookup y).isSome=a6):∃c,(aP n names acc).lookup y=a3 c:=by
 rw[Us,Yu];cases e:(aP n names []).lookup y with
 |some c'=>exact⟨c',rfl⟩
 |none=>obtain⟨c,hc⟩:=Xz.mp h;exact⟨c,hc⟩
theorem j1n{M:kN}{A:aB}{E:k9e}{s:af}{scope:b9}{globals:ae}{closure:List (ah×ae)}{qual:ah}{env:dR}{Q:dR->af->Prop}
  (hQ:Q { scope:=scope,locals:=s.heap.objs.size,globals:=globals,cells:=aP (s.heap.objs.size+1) scope.names closure,qual:=qual,func:=a9,code:=env.code,frame:=env.frame,builtins:=env.builtins }
   { s with heap:=iP (s.heap.push { cls:=.type "dict",data:=.dict #[] }) scope.names }) :
  ar M A (ie scope globals closure [] qual a9 .none (a3 env)) Q E s:=by
 simp only[ie,eQ,if_true];refine a7 (wpAny_alloc ?_);refine a7 (wpAny_layCells _ (λname kind cells=>by cases hkc:kind==bD<;>simp[hkc]) _ _ _ _ ?_);rw[show({ s with heap:=s.heap.push { cls:=.type "dict",data:=.dict #[] } }:af).heap.objs.size=s.heap.objs.size+1 from S7 ..];exact a7 (ai (ai hQ))
noncomputable abbrev cCx(X:Cx)(scope:b9)(C:ae)(s:af)(H:Hp)(fp:List ae)(pn:k9f):Cx :=
 { X with env:=compEnvC scope (aP (C+1) scope.names (v6 X.env scope.names [])) C X.env,s₀:=s,H₀:=H,outer:=X.stack,stack:=X.stack,ex:=fp,fn:=λx=>scope.names.lookup x==a3 .cell,pn:=pn,xe:=λ_ _=>False }
noncomputable def Uy(scope:b9)(y:ah):Bool:=scope.names.lookup y==a3 .local || scope.names.lookup y==a3 .cell
theorem Vi{env:dR}:∀{names:List (ah×bq)} {x:ah},names.lookup x=a3 .cell ->
  (names.map λ(n,k)=>if (k==ba&&env.scope.kind==.function&&env.kindOf n==a3 .cell) then(n,bD) else(n,k)).lookup x=a3 .cell
 |[],_,h=>by simp at h
 |(n,k)::r,x,h=>by
  have ih:=@Vi env r x;rw[xm];cases hx:x==n with
  |true =>simp only[Xp,hx]at h;cases h;simp[Xp,hx]
  |false =>
   simp only[Xp,hx]at h;dsimp only;by_cases hc:(k==ba&&env.scope.kind==.function&&env.kindOf n==a3 .cell)=a6
   .rw[if_pos hc];simp only[Xp,hx];exact ih h
   .rw[if_neg hc];simp only[Xp,hx];exact ih h
theorem Bg{X:Cx}{scope:b9}{C:ae}{s:af}{H:Hp}{fp:List ae}{pn:k9f}{y:ah}(h:Uy scope y=a6):Loc (cCx X scope C s H fp pn).env.scope y:=by
 unfold Uy at h;rw[cj]at h;rcases h with h|h
 .exact .inl (jT (by simpa using h))
 .exact .inr (Vi (by simpa using h))
theorem Ca{X:Cx}{scope:b9}{C:ae}{s:af}{H:Hp}{fp:List ae}{pn:k9f}{y:ah}(h:Uy scope y=a6):(cCx X scope C s H fp pn).fn y=a6\/(cCx X scope C s H fp pn).env.scope.names.lookup y=a3 .local:=by
 unfold Uy at h;rw[cj]at h;rcases h with h|h
 .exact .inr (jT (by simpa using h))
 .exact .inl h
def DTs(X:Cx)(ρ:Rho)(ifs:List aj)(b:Bool):Prop:=match ifs with
 |[]=>b=a6
 |[c]=>DB X ρ c b
 |_=>False
theorem DTs.nil{X:Cx}{ρ:Rho}:DTs X ρ [] a6:=rfl
theorem DTs.one{X:Cx}{ρ:Rho}{c:aj}{b:Bool}(h:DB X ρ c b):DTs X ρ [c] b:=h
theorem DTs.run{X:Cx}{ρ:Rho}{ifs:List aj}{b:Bool}(h:DTs X ρ ifs b){pins:k9f}{σ:St}{H:Hp}{s:af}(I:Inv X pins σ H s)(R:Rep X.K ρ σ H) :
  ar (ax X.prog X.w) X.A (forIn ifs a6 λc r=>if r=a6 then do let ok <-fM c X.env (ay c X.env);pure (bZ ok)else pure (bZ r)) (λok s'=>ok=b/\∃H',Inv X pins σ H' s'/\j0 H H') X.xe s:=by
 match ifs,h with
 |[],h=>exact wpAny_tests_nil ⟨h.symm,H,I,j0.refl H⟩
 |[c],h=>exact wpAny_tests_one (thn (h σ H (λk H'=>k=b/\j0 H H') R (λH' g=>⟨rfl,g⟩) pins s I) λk s' ⟨H',I',e,g⟩=>⟨e,H',I',g⟩)
theorem Rep.weaken{K:k9d}{ρ:Rho}{σ σ':St}{H:Hp}(R:Rep K ρ σ H)(hl:σ'.length=σ.length)(h:∀(i:Nat),ρ[i]?≠a3 .un->σ'[i]?=σ[i]?):Rep K ρ σ' H :=
 ⟨by rw[hl,R.len],λi d e=>let ⟨v,q,z⟩:=R.val i d e;⟨v,by rw[h i (by rw[e];simp)];exact q,z⟩,λi a ds e=>let ⟨q,z⟩:=R.own i a ds e;⟨by rw[h i (by rw[e];simp)];exact q,z⟩,R.nd,λi a o x e=>let ⟨q,z⟩:=R.raw i a o x e;⟨by rw[h i (by rw[e];simp)];exact q,z⟩,R.tb⟩
noncomputable def mask(cs:List Nat)(σ:St):St:=σ.mapIdx λj v=>if cs.contains j then a9 else v
theorem Nt(cs:List Nat)(σ:St):(mask cs σ).length=σ.length:=by unfold mask;simp
theorem j9w{cs:List Nat}{σ:St}{j:Nat}{v:V}(h:(mask cs σ)[j]?=a3 (a3 v)):j∉cs/\σ[j]?=a3 (a3 v):=by
 unfold mask at h;rw[iE]at h;cases e:σ[j]? with
 |none=>rw[e]at h;cases h
 |some u =>
  rw[e]at h;have h':(if cs.contains j then a9 else u)=a3 v:=aw h;by_cases z:cs.contains j=a6
  .rw[if_pos z]at h';cases h'
  .rw[if_neg z]at h';subst h';exact⟨λy=>z (by simpa using y),rfl⟩
theorem j9v{cs:List Nat}{σ:St}{j:Nat}(h:j∉cs):(mask cs σ)[j]?=σ[j]?:=by
 unfold mask;rw[iE];cases e:σ[j]? with
 |none=>rfl
 |some u=>simp[h]
def Wk(ρ2 ρ:Rho):Prop:=∀K σ H,Rep K ρ2 σ H->Rep K ρ σ H
theorem Z6(H:Hp)(A B:List ae):del (del H A) B=del H (A++B):=funext λb=>by unfold del;by_cases h1:b∈A<;>by_cases h2:b∈B<;>simp[h1,h2]
structure Loose(X:Cx)(pins:k9f)(H:Hp)(C:ae):Prop where
 free:H C=a9
 loc:C≠X.env.locals
 new:X.s₀.heap.objs.size<=C
 cell:∀x c,X.env.cells.lookup x=a3 c->c≠C
 pin:∀p∈X.pn++pins,p.1≠C
section
variable{X:Cx}{pins:k9f}{σ:St}{H2:Hp}{s2:af}{ρ:Rho}{tg elt iter:aj}{ifs:List aj}{scope:b9}{pos:aM}{ds:List D}{cs:List Nat}{p:D->Bool}{g:D->D}
theorem Em{J:It}{fp:List ae}{it:ae}{tn:Nat->aC->Prop}(I2:Inv X pins σ H2 s2)(R2:Rep X.K ρ σ H2)(T:Turn X.prog X.w X.K tg J fp it tn)(st2:tn 0 s2.heap)(f2:∀b∈fp,Zk X pins H2 b)
  (ok:Uw X.K (del H2 (owns ρ)) J ds) (hc:X.calm=a6) (hkind:scope.kind=.function) (hok:Q4 scope X.env X.N cs=a6) (hcs:∀j∈cs,ρ[j]?=a3 .un) (hsz:ds.length<=ak)
  (hb:∀C s H fp pn,∀d∈ds,∃ρ2,DG (cCx X scope C s H fp pn) ρ tg d ρ2/\Wk ρ2 ρ/\owns ρ2=owns ρ/\DTs (cCx X scope C s H fp pn) ρ2 ifs (p d)/\(p d=a6->DE (cCx X scope C s H fp pn) ρ2 elt (g d)))
  {E:k9e} {RR:aa->ae->fO->af->Prop}
  (hRR:∀D C xs H' s' m,Inv X pins σ H' s'->j0 H2 H'->H2 D=a9->H' D=a3 (.lst xs)->j4 X.K (del H' (D::owns ρ)) ((ds.filter p).map g) xs->s'.heap.Ns C m->Loose X pins H' C->RR (.ref D) C (.ok .next) s') :
  ar (ax X.prog X.w) X.A (newList []) (λacc s₃=>ar (ax X.prog X.w) X.A (ie scope X.env.globals (v6 X.env scope.names []) [] X.env.qual a9 .none (a3 X.env)) (λcenv s₄ =>
   cG (ax X.prog X.w) X.A (.compStart (.ListComp elt [⟨tg,iter,ifs,0⟩] scope pos) 0 (.ref it) acc { cenv with scope:=relabel scope X.env }) (RR acc cenv.locals) s₄) E s₃) E s2:=by
 unfold Q4 at hok;rw[Xd]at hok;obtain⟨hn,hN⟩:=hok;have hn':∀y∈scope.names,(y.2=.cell->scope.names.lookup y.1=a3 .cell)/\(y.2=.free->(X.env.cells.lookup y.1).isSome=a6/\(X.env.kindOf y.1=a3 .cell\/X.env.kindOf y.1=a3 .free)):=λy hy=>by have:=Xy.mp hn y hy;simp only[Xd,bne_iff_ne,ne_eq,cj,beq_iff_eq]at this;obtain⟨⟨a,_⟩,c⟩:=this;exact⟨λe=>a.elim (λz=>absurd e z) id,λe=>c.elim (λz=>absurd e z) id⟩
 have nocell:∀{y:ah},scope.names.lookup y=a3 .free->(y,bD)∉scope.names:=λ{y} h z=>by have q:=(hn' _ z).1 rfl;rw[h]at q;cases q
 have hloc:∀(j:Nat)(y:ah),X.N[j]?=a3 y->j∉cs->scope.names.lookup y≠a3 .local/\scope.names.lookup y≠a3 .cell:=λj y hj hc=>by
  have hlt:j<X.N.length:=(X8.mp hj).1;have:=Xy.mp hN j (Xb.mpr hlt);rw[hj]at this;simp only[cj,Xd,bne_iff_ne,ne_eq]at this;rcases this with z|z
  .exact absurd (by simpa using z) hc
  .exact z
 have cl_of:∀{y:ah}{c:ae},(v6 X.env scope.names []).lookup y=a3 c->X.env.cells.lookup y=a3 c:=λ{y c} h=>Er (λ_ _ z=>by cases z) h;refine aJ (j1n ?_);dsimp only;generalize hH2:s2.heap.push { cls:=.type "list",dict:=a9,data:=.seq ([]:List aa).toArray }=hp2;have keep1:∀b o,hp2.get? b=a3 o->(iP (hp2.push { cls:=.type "dict",data:=.dict #[] }) scope.names).get? b=a3 o:=λb o e=>lX _ _ b o (xj _ e);have hns₁:(iP (hp2.push { cls:=.type "dict",data:=.dict #[] }) scope.names).Ns hp2.objs.size (λ_=>a9):=(Heap.Ns.new hp2 (.type "dict")).keeps (lX _ _);have okl:=cellsFrom_ok scope.names (hp2.push { cls:=.type "dict",data:=.dict #[] }) (hp2.objs.size+1) [] ⟨λ_ _ hm=>(nomatch hm),gc⟩ (by rw[S7];exact xu _);rw[S7]at okl;generalize iP (hp2.push { cls:=.type "dict",data:=.dict #[] }) scope.names=h₁ at keep1 hns₁ okl ⊢;have hC:hp2.objs.size=s2.heap.objs.size+1:=by rw[<-hH2,S7]
 have hDC:s2.heap.objs.size≠hp2.objs.size:=by rw[hC];exact Xc (S8 _)
 have hCle:s2.heap.objs.size<=hp2.objs.size:=by rw[hC];exact Pr _
 have below:∀b,b<s2.heap.objs.size->b≠hp2.objs.size/\b≠s2.heap.objs.size:=λb hb=>⟨by rw[hC];exact Xc (Sy hb),Xc hb⟩
 have old:∀b o,s2.heap.get? b=a3 o->h₁.get? b=a3 o:=λb o e=>keep1 b o (hH2▸xj _ e);have hacc:h₁.get? s2.heap.objs.size=a3 { cls:=.type "list",dict:=a9,data:=.seq ([]:List aa).toArray }:=keep1 _ _ (hH2▸X5 _ rfl);have none_of:∀b,s2.heap.objs.size<=b->s2.heap.get? b=a9:=λb hb=>by
  cases e:s2.heap.get? b with
  |none=>rfl
  |some o'=>exact absurd (X3 e) (Nat.not_lt.mpr hb)
 have hD0:H2 s2.heap.objs.size=a9:=I2.fresh;generalize hDd:s2.heap.objs.size=Dd at *;generalize hCc:hp2.objs.size=C at *;have hC0:H2 C=a9:=I2.hok.fresh (by rw[hDd];exact hCle);have pinlt:∀p∈X.pn++pins,p.1<Dd:=λp hp=>by rw[<-hDd];exact X3 (I2.pin p hp).1
 have celllt:∀y c,X.env.cells.lookup y=a3 c->c<Dd:=λy c h=>by obtain⟨v,o,e,_⟩:=I2.cell y c h;rw[<-hDd];exact X3 e
 have loclt:X.env.locals<Dd:=by rw[<-hDd];exact I2.lt
 have fplt:∀b∈fp,b<Dd:=λb hb=>by obtain⟨o,e,_⟩:=T.obj _ _ st2 b hb;rw[<-hDd];exact X3 e
 have hDlt:Dd<C:=by omega
 have cellD:∀{y:ah}{c:ae},(aP (C+1) scope.names (v6 X.env scope.names [])).lookup y=a3 c->((y,c)∈aP (C+1) scope.names []/\C+1<=c)\/X.env.cells.lookup y=a3 c:=λ{y c} h=>by
  rcases Es h with ⟨q,_,z⟩|⟨_,q⟩
  .exact .inl ⟨q,z⟩
  .exact .inr (cl_of q)
 have celln:∀{y:ah}{c b:ae},(aP (C+1) scope.names (v6 X.env scope.names [])).lookup y=a3 c->b<Dd->(∀c,X.env.cells.lookup y=a3 c->c≠b)->c≠b:=λ{y c b} h hb ho=>by
  rcases cellD h with ⟨_,z⟩|q
  .exact Tc (Ph hb (Ph hDlt (gf z)))
  .exact ho c q
 have okc:(cCx X scope C s2 H2 fp (X.pn++pins)).Ok:={
  mod:=I2.ok.mod
  kind:=hkind
  glob:=I2.ok.glob
  blt:=I2.ok.blt
  above:=by show s2.heap.objs.size<=C;rw[hDd];exact hCle
  inj:=λx y c h1 h2=>by
   rcases cellD h1 with ⟨m1,z1⟩|q1<;>rcases cellD h2 with ⟨m2,z2⟩|q2
   .exact name_of_addr okl.apart m1 m2
   .exact absurd (Ph (celllt y c q2) (Ph hDlt (gf z1))) (Pg _)
   .exact absurd (Ph (celllt x c q1) (Ph hDlt (gf z2))) (Pg _)
   .exact I2.ok.inj x y c q1 q2
  has:=λx h=>by
   have key:∀k',(relabel scope X.env).names.lookup x=a3 k'->(k'=.cell\/k'=.free)->∃c,(aP (C+1) scope.names (v6 X.env scope.names [])).lookup x=a3 c:=λk' hk hk'=>by
    obtain⟨k,hl,e⟩:=Ji hk
    have hm:=lookup_mem hl
    have hk0:k=.free\/k=.cell:=by
     rcases e with e|e
     .subst e
      exact hk'.symm
     .exact .inl e.1
    rcases hk0 with hk0|hk0
    .subst hk0
     exact jfm (Mi ((hn' _ hm).2 rfl).1 hm)
    .subst hk0
     exact Xz.mp (W.cellsFrom_some _ _ _ (.inl hl))
   rcases h with h|h
   .exact key _ h (.inl rfl)
   .exact key _ h (.inr rfl)
  cab:=λx c h h2=>by
   have hx:scope.names.lookup x=a3 .cell:=by simpa using h
   show s2.heap.objs.size<=c
   rw[hDd]
   rcases Es h2 with ⟨_,_,z⟩|⟨z,_⟩
   .exact cJ (Ph hDlt (gf z))
   .obtain⟨c',hc'⟩:=Xz.mp (W.cellsFrom_some scope.names (C+1) [] (.inl hx))
    rw[z]at hc';cases hc'
  hd:=I2.ok.hd
  frames:=I2.ok.frames
  stk:=.inl rfl
  exf:=λb hb=>⟨Xc (Ph (fplt b hb) hDlt),λx c h=>celln h (fplt b hb) λc q=>(f2 b hb).2.2.2.2.1 x c q⟩
  bs:=I2.bs
  bsz:=Xl I2.ok.bsz I2.sz
  noex:=λb o e hb=>by
   rcases(f2 b hb).2.2.2.1 with z|z
   .exact I2.ok.noex b o e z
   .exact absurd (X3 e) (Nat.not_lt.mpr (Xl I2.ok.bsz z))
  exfs:=λb hb hf=>by
   rcases xn.mp (I2.stkSub b hf)with z|z
   .exact(f2 b hb).2.1 z
   .exact(f2 b hb).2.2.1 z
  funs:=I2.stack
  frf:=I2.stkFree }
 have hpush:HOk X.prog X.w (upd H2 Dd (.lst [])) h₁:=HOk.laid I2.hok old (by rw[hDd];exact xu _) ⟨cy _,[],_,.nil,hacc⟩;have I0:Inv (cCx X scope C s2 H2 fp (X.pn++pins)) [] (mask cs σ) (upd H2 Dd (.lst [])) { s2 with heap:=h₁ }:={
  ok:=okc
  os:=rfl
  bare:=I2.bare
  base:=Un.laid old (by rw[hDd];exact xu _) hD0
  loc:=by
   refine⟨_,hns₁,λj y v hj hv hvis=>?_⟩
   obtain⟨hjc,hσ⟩:=j9w hv
   obtain⟨m,hm,hlook⟩:=I2.loc
   have key:∀k',(relabel scope X.env).names.lookup y=a3 k'->scope.names.lookup y=a3 .free:=λk' hk=>by
    obtain⟨k,hl,e⟩:=Ji hk
    have hmm:=lookup_mem hl
    have:k=.free:=by
     rcases e with e|e
     .subst e
      rcases hvis with z|z|z
      .have z:=hk.symm.trans z;cases z;exact absurd hl (hloc j y hj hjc).1
      .have z:=hk.symm.trans z;cases z;exact absurd hl (hloc j y hj hjc).2
      .have z:=hk.symm.trans z;cases z;rfl
     .exact e.1
    rw[hl,this]
   have hfree:scope.names.lookup y=a3 .free:=by rcases hvis with z|z|z<;>exact key _ z
   have hmm:=lookup_mem hfree
   obtain⟨hs,hk⟩:=(hn' _ hmm).2 rfl
   have hvis':Vis X.env.scope y:=by rcases hk with z|z;exact .inr (.inl z);exact .inr (.inr z)
   obtain⟨u,ru,look⟩:=hlook j y v hj hσ hvis'
   refine⟨u,ru,?_⟩
   rcases look with ⟨z,_⟩|⟨_,c,hcl,hcv⟩
   .rcases hk with y'|y'<;>rw[y']at z<;>cases z
   .refine .inr ⟨?_,c,?_,?_⟩
    .rcases hvis with z|z|z
     .exfalso
      obtain⟨k,hl,e⟩:=Ji z
      rw[hfree]at hl;cases hl
      rcases e with e|e
      .cases e
      .cases e.2
     .exact .inl z
     .exact .inr z
    .obtain⟨c',hc'⟩:=Xz.mp (Mi (acc:=[]) hs hmm)
     have:=cl_of hc'
     rw[hcl]at this;cases this
     exact(jjr (nocell hfree)).trans hc'
    .obtain⟨o,e,d⟩:=hcv
     exact⟨o,old _ _ e,d⟩
  cell:=λx c h=>by
   rcases cellD h with ⟨q,_⟩|q
   .exact⟨_,(okl.empty x c q).1⟩
   .obtain⟨v,o,e,d⟩:=I2.cell x c q
    exact⟨v,o,old _ _ e,d⟩
  free:=by show upd H2 Dd (.lst []) C=a9;rw[ji (Tc hDlt)];exact hC0
  freeC:=λx c h=>by
   rcases cellD h with ⟨_,z⟩|q
   .rw[ji (Tc (Ph hDlt (gf z)))];exact I2.hok.fresh (by rw[hDd];exact cJ (Ph hDlt (gf z)))
   .rw[ji (Xc (celllt x c q))];exact I2.freeC x c q
  pin:=λp hp=>by
   rw[Xx]at hp
   obtain⟨h1,h2,h3,h4,h5⟩:=I2.pin p hp
   have hlt:=pinlt p hp
   refine⟨old _ _ h1,by rw[ji (Xc hlt)];exact h2,Xc (Ph hlt hDlt),λz=>?_,h5⟩
   rcases xn.mp (I2.stkSub _ z)with y|y
   .exact h3 y
   .exact h4 y
  hok:=hpush
  len:=by rw[Nt];exact I2.len }
 have hDo:Dd∉owns ρ:=R2.fresh hD0;have fpok:∀{H':Hp},(∀b∈fp,H' b=a9)->∀b∈fp,Zk (cCx X scope C s2 H2 fp (X.pn++pins)) [] H' b:=λ{H'} hn b hb =>⟨hn b hb,Xc (Ph (fplt b hb) hDlt),okc.exfs b hb,.inl hb,λx c h=>celln h (fplt b hb) λc q=>(f2 b hb).2.2.2.2.1 x c q,λp hp=>by rw[Xx]at hp;exact(f2 b hb).2.2.2.2.2 p hp⟩
 have R0:Rep X.K ρ (mask cs σ) H2:=R2.weaken (Nt _ _) λj hj=>j9v λz=>hj (hcs j z);have e0:del (upd H2 Dd (.lst [])) [Dd]=H2:=by
  rw[Vt (xr.mpr rfl)]
  funext b
  by_cases z:b∈[Dd]
  .rw[qt z,xr.mp z,hD0]
  .exact j6 z
 have loop:∀s₃:af,s₃={ s2 with heap:=h₁ } ->
   cG (ax X.prog X.w) X.A (.compLoop (.ListComp elt [⟨tg,iter,ifs,0⟩] scope pos) 0 (.ref it) (.ref Dd) (compEnvC scope (aP (C+1) scope.names (v6 X.env scope.names [])) C X.env)) (RR (.ref Dd) C) s₃:=by
  rintro s₃ rfl;refine j2b (λn s=>∃i σ' H' ys,Inv (cCx X scope C s2 H2 fp (X.pn++pins)) [] σ' H' s/\tn i s.heap/\(∀b∈fp,H' b=a9)/\i<=ds.length/\n=ds.length-i/\Rep X.K ρ σ' (del H' [Dd])/\j0 H2 (del H' [Dd])/\H' Dd=a3 (.lst ys) /\
   j4 X.K (del H' (Dd::owns ρ)) (((ds.take i).filter p).map g) ys) ?_ ds.length
   ⟨0,mask cs σ,upd H2 Dd (.lst []),[],I0,T.keep _ _ _ st2 (λb _ o e=>old b o e),λb hb=>by rw[ji (Xc (fplt b hb))];exact(f2 b hb).1,cy _,rfl,by rw[e0];exact R0,by rw[e0];exact j0.refl _,j9,rfl⟩
  rintro n s3 ⟨i,σ3,H3,ys,I3,st3,fr3,hle,rfl,R3,g3,m3,en3⟩;have F3:j0 (del H2 (owns ρ)) (del H3 (Dd::owns ρ)):=by
   have:del H3 (Dd::owns ρ)=del (del H3 [Dd]) (owns ρ):=by rw[Z6];rfl
   rw[this];exact jh g3
  obtain⟨go,stop,yld⟩:=ok i H3 (Dd::owns ρ) F3 λa ha=>by
   rcases xn.mp ha with e|ha
   .rw[e,m3];simp
   .obtain⟨xs,e⟩:=R3.owned a ha;rw[(of_del e).2];simp
  by_cases hlt:i<ds.length
  .refine thn (T.item (cCx X scope C s2 H2 fp (X.pn++pins)) rfl rfl rfl hc i [] s3 σ3 H3 (λ_ _=>False) I3 (fpok fr3) st3 (go hlt)) λr s4 ⟨u,hr,h4⟩=>?_;subst hr;refine thn h4 λ_ s5 ⟨x,H5,I5,r5,y5,st5,fr5⟩=>?_;obtain⟨g5,en5⟩:=yld x H5 y5;have hd:ds[i]?=a3 ds[i]:=kh hlt;obtain⟨ρ2,⟨sub,hG⟩,wk,eo,hT,hE⟩:=hb C s2 H2 fp (X.pn++pins) ds[i] (pq hlt);have m5:H5 Dd=a3 (.lst ys):=g5 _ _ m3;have hA:∀a∈[Dd],Hd (H5 a):=λa ha=>.inl ⟨ys,by rw[xr.mp ha];exact m5⟩;have I5p:=I5.pinned (fpok fr5) (T.obj _ _ st5);have I5h:=I5p.hide hA;have R5:Rep X.K ρ σ3 (del H5 [Dd]):=R3.grow (jh g5);have en5':Enc X.K (del (del H5 [Dd]) (owns ρ)) ds[i] x:=by rw[Z6];exact en5 _ hd
   refine thn (hG σ3 (del H5 [Dd]) x (λσ6 F6=>F6=del H5 [Dd]/\Rep X.K ρ2 σ6 F6) R5 en5' (λσ6 R6=>⟨rfl,R6⟩) _ s5 u I5h r5) λ_ s6 ⟨σ6,F6,I6,e6,R6⟩=>?_;subst e6;refine thn (hT.run I6 R6) λokv s7 ⟨e7,F7,I7,g7⟩=>?_;subst e7;have R7:Rep X.K ρ σ6 F7:=wk _ _ _ (R6.grow g7);have g27:j0 H2 F7:=g3.trans ((jh g5).trans g7);have en7:j4 X.K (del F7 (owns ρ)) (((ds.take i).filter p).map g) ys:=en3.mono (by
    have:del H3 (Dd::owns ρ)=del (del H3 [Dd]) (owns ρ):=by rw[Z6];rfl
    rw[this];exact jh ((jh g5).trans g7))
   have iS:∀{F:Hp}{s':af},Inv (cCx X scope C s2 H2 fp (X.pn++pins)) ([]++Ue fp s5.heap) σ6 F s'->Inv (cCx X scope C s2 H2 fp (X.pn++pins)) [] σ6 F s'/\tn (i+1) s'.heap/\∀b∈fp,F b=a9:=λ{F s'} I=>by refine⟨I.unpinned,T.keep _ _ _ st5 λb hb o e=>(I.pin (b,o) (Xo _ (Xo _ (Z3 hb e)))).1,λb hb=>?_⟩;obtain⟨o,e,d⟩:=T.obj _ _ st5 b hb;exact(I.pin (b,o) (Xo _ (Xo _ (Z3 hb e)))).2.1
   have tk:ds.take (i+1)=ds.take i++[ds[i]]:=by rw[Tw,hd];rfl
   cases hp:p ds[i] with
   |false =>
    rw[if_neg xg];obtain⟨hF,I8⟩:=I5p.unhide hA I7;obtain⟨I9,st9,fr9⟩:=iS I8;refine⟨ds.length-(i+1),by omega,i+1,σ6,_,ys,I9,st9,fr9,hlt,rfl,by rw[U5 hF];exact R7,by rw[U5 hF];exact g27,by rw[Jh (xr.mpr rfl)];exact m5,?_⟩;have:del (mrg [Dd] H5 F7) (Dd::owns ρ)=del F7 (owns ρ):=by
     have e:del (mrg [Dd] H5 F7) (Dd::owns ρ)=del (del (mrg [Dd] H5 F7) [Dd]) (owns ρ):=by rw[Z6];rfl
     rw[e,U5 hF]
    rw[this,tk,ck];have e:[ds[i]].filter p=[]:=by simp[hp]
    rw[e,Xx];exact en7
   |true =>
    rw[if_pos rfl];refine thn (hE hp σ6 F7 (λv F8=>j0 F7 F8/\Enc X.K (del F8 (owns ρ2)) (g ds[i]) v) (R6.grow g7) (λv F8 g8 e8=>⟨g8,e8⟩) _ s7 I7) λy s8 ⟨v,F8,I8,r8,g8,e8⟩=>?_;obtain⟨hF,I8'⟩:=I5p.unhide hA I8;rw[eo]at e8;have eH:del (mrg [Dd] H5 F8) (Dd::owns ρ)=del F8 (owns ρ):=by
     have e:del (mrg [Dd] H5 F8) (Dd::owns ρ)=del (del (mrg [Dd] H5 F8) [Dd]) (owns ρ):=by rw[Z6];rfl
     rw[e,U5 hF]
    have hlen:ys.length<ak:=by have e1:=en7.length;have e2:((ds.take i).filter p).length<=(ds.take i).length:=t7 _ _;rw[km]at e1;rw[Xq]at e2;omega
    refine thn (Oa _ s8 σ6 (mrg [Dd] H5 F8) (.ref Dd) [v] (.ref Dd) [y] (λ_ H9=>H9=upd (mrg [Dd] H5 F8) Dd (.lst (ys++[v]))) I8' rfl (.cons r8 .nil)
     ⟨Dd,ys,v,rfl,rfl,by rw[Jh (xr.mpr rfl)];exact m5,hlen,rfl⟩) λ_ s9 ⟨_,H9,I9,_,e9⟩=>?_
    subst e9;obtain⟨I10,st10,fr10⟩:=iS I9;have ed:del (upd (mrg [Dd] H5 F8) Dd (.lst (ys++[v]))) [Dd]=F8:=by rw[Vt (xr.mpr rfl),U5 hF]
    refine⟨ds.length-(i+1),by omega,i+1,σ6,_,ys++[v],I10,st10,fr10,hlt,rfl,by rw[ed];exact R7.grow g8,by rw[ed];exact g27.trans g8,j9,?_⟩;rw[Vt (xq ..),eH,tk,ck,Xe];have e:[ds[i]].filter p=[ds[i]]:=by simp[hp]
    rw[e];exact(en7.mono (jh g8)).append (.one e8)
  .have hi:i=ds.length:=by omega
   subst hi;refine thn (T.done (cCx X scope C s2 H2 fp (X.pn++pins)) rfl rfl rfl hc ds.length [] s3 σ3 H3 (λ_ _=>False) I3 (fpok fr3) st3 (stop (xu _))) λr s4 ⟨hr,I4⟩=>?_;subst hr;rw[cN]at en3;obtain⟨m,hm,_⟩:=I4.loc;refine hRR Dd C ys H3 s4 m ?_ (g3.trans jt) hD0 m3 en3 hm ⟨I4.free,Tc (Ph loclt hDlt),?_,λx c h=>Xc (Ph (celllt x c h) hDlt),λp hp=>Xc (Ph (pinlt p hp) hDlt)⟩
   .exact I2.call' (ch:=fp) I4.os I4.base I4.hok I4.bare λb hb=>⟨(f2 b hb).2.2.2.1,(f2 b hb).2.1,(f2 b hb).2.2.2.2.1,(f2 b hb).2.2.2.2.2⟩
   .have:=I2.sz;omega
 exact codeAny_compStart_list (loop _ rfl) (T.self _ 0 _ _ _ (T.keep _ _ _ st2 (λb _ o e=>old b o e)) (loop _ rfl))
end
section
variable{X:Cx}{ρ:Rho}{tg elt iter:aj}{ifs:List aj}{scope:b9}{pos p1 spos:aM}{ds:List D}{cs:List Nat}{p:D->Bool}{g:D->D}{x:ah}{P:Po}
theorem Ny{env:dR}{N:List ah}(h:Q4 scope env N cs=a6):∀y∈scope.names,y.2=.free->(env.cells.lookup y.1).isSome=a6:=λy hy e=>by unfold Q4 at h;rw[Xd]at h;have:=Xy.mp h.1 y hy;simp only[Xd,bne_iff_ne,ne_eq,cj]at this;exact this.2.elim (λz=>absurd e z) λz=>z.1
theorem Ov{env:dR}{N:List ah}(h:Q4 scope env N cs=a6):∀y∈scope.names,y.2=.local->scope.names.lookup y.1=a3 .local:=λy hy e=>by unfold Q4 at h;rw[Xd]at h;have:=Xy.mp h.1 y hy;simp only[Xd,bne_iff_ne,ne_eq,cj,beq_iff_eq]at this;exact this.1.2.elim (λz=>absurd e z) λz=>z
theorem Inv.loose{pins:k9f}{σ:St}{H:Hp}{s:af}{C:ae}{h':aC}(I:Inv X pins σ H s)(L:Loose X pins H C)(sb:cE C s.heap h'):Inv X pins σ H { s with heap:=h' } :=
 I.turned (t':=s.toks) (λb o hb e=>sb.extBut b o hb e) L.free L.loc (.inr L.new) L.cell L.pin
theorem DO.comp(cs:List Nat)(p:D->Bool)(g:D->D)(hi:DI X ρ tg iter ds)
  (hb:∀C s H fp pn,∀d∈ds,∃ρ2,DG (cCx X scope C s H fp pn) ρ tg d ρ2/\Wk ρ2 ρ/\owns ρ2=owns ρ/\DTs (cCx X scope C s H fp pn) ρ2 ifs (p d)/\(p d=a6->DE (cCx X scope C s H fp pn) ρ2 elt (g d)))
  (hcs:∀j∈cs,ρ[j]?=a3 .un) (hsz:ds.length<=ak) (hc:X.calm=a6:=by rfl) (hkind:scope.kind=.function:=by rfl) (hok:Q4 scope X.env X.N cs=a6:=by rfl)
  (hs:∀x,aA iter X.env x=pure x:=by intro _;rfl):DO X ρ (.ListComp elt [⟨tg,iter,ifs,0⟩] scope pos) ((ds.filter p).map g):=λσ H Q R q pins s I=>by
 rw[eval_ListComp];refine iI (use:=a9) rfl hs (Lq (Ny hok)) hkind (Ov hok) (thn (hi σ H (λJ H'=>j0 H H'/\Uw X.K (del H' (owns ρ)) J ds) R (λJ H' g1 ok=>⟨g1,ok⟩) pins s I) λv s1 h1=>thn h1 λitv s2 h2=>?_);obtain⟨it,fp,tn,J,H2,e,I2,T,st2,f2,g2,ok⟩:=h2;subst e;refine Em (RR:=λacc C=>compPost (ax X.prog X.w) X.A X.xe a9 (EP X pins σ Q) acc C) I2 (R.grow g2) T st2 f2 ok hc hkind hok hcs hsz hb ?_;intro D C xs H' s' m I' gg n m' en hm L;exact⟨m,hm,λh' sb=>⟨.ref D,H',I'.loose L sb,rfl,q D xs H' (g2.trans gg) (g2.free n) m' en⟩⟩
theorem Wk.set{i:Nat}{d:D}(h:ρ[i]?=a3 .un):Wk (ρ.set i (.val d)) ρ:=λK σ H R=>by
 have q:=R.set_un (i:=i) (v:=(σ[i]?).join);have e:σ.set i ((σ[i]?).join)=σ:=by
  apply Tv;intro j;rw[dz];split
  .rename_i h;subst h;split
   .rename_i h;rw[kh h];rfl
   .rename_i h;rw[Xu nofun]
  .rfl
 have e2:(ρ.set i (.val d)).set i .un=ρ:=by
  rw[i3];apply Tv;intro j;rw[dz];split
  .rename_i z;subst z;split
   .rw[h]
   .rename_i z;rw[Xu nofun]at h;cases h
  .rfl
 rw[e,e2]at q;exact q
theorem Y4{i:Nat}{d:D}(h:ρ[i]?=a3 .un):owns (ρ.set i (.val d))=owns ρ:=Nq rfl λa l z=>by rw[h]at z;cases z
end
section
variable{prog:av}{w:az}{A:aB}{E:k9e}{s:af}
theorem j5j{j t:ae}{k:Nat}{its:Array aa}{y:aa}{Q:k9e}(hj:s.heap.IsTupleIter j t k)(ht:s.heap.IsTuple t its)(hy:its[k]?=a3 y)
  (q:∀h',h'.IsTupleIter j t (k+1)->cE j s.heap h'->Q y { s with heap:=h' }):ar (ax prog w) A (aW (.ref j)) Q E s:=by
 obtain⟨o,ho,hc,hd⟩:=id hj;obtain⟨ot,hot,_,m,hdt⟩:=ht;unfold aW;refine a7 (bF (name:=cY "__next__") hj.typeIs c8 (bE c8 hj.typeIs gH ?_ (gu _)));show ar _ _ (field (.ref j) 0 >>= _) _ _ s;refine a7 (cL ho hd (x:=.ref t) rfl ?_);show ar _ _ (if (aF t==aQ)=a6 then _ else _) _ _ s;rw[if_neg (show ¬((aF t==aQ)=a6)from xg)];show ar _ _ (field (.ref j) 1 >>= _) _ _ s;refine a7 (cL ho hd (x:=.int k 0) rfl ?_);show ar _ _ (gv (.ref t) >>= _) _ _ s;refine a7 (dJ hot hdt ?_);simp only[X6,hy];refine a7 (eZ ho hd (by simp) (ai ⟨y,rfl,ai (q _ ?_ (Ti ..))⟩));exact⟨_,eA _ ho (iw (dh hd _)),(jJ ..).trans hc,by rw[dh hd];simp[dW]⟩
theorem j7v{j t:ae}{k:Nat}{its:Array aa}{Q:k9e}(hh:A.handled=a9)(hj:s.heap.IsTupleIter j t k)(ht:s.heap.IsTuple t its)(hy:its[k]?=a9)
  (q:∀h' x,eF j s.heap h'->(∃o,h'.get? x=a3 o/\o.cls=.type "StopIteration")->E (.ref x) { s with heap:=h' }):ar (ax prog w) A (aW (.ref j)) Q E s:=by
 obtain⟨o,ho,hc,hd⟩:=id hj;obtain⟨ot,hot,_,m,hdt⟩:=ht;unfold aW;refine a7 (bF (name:=cY "__next__") hj.typeIs c8 (bE c8 hj.typeIs gH ?_ (gu _)));show ar _ _ (field (.ref j) 0 >>= _) _ _ s;refine a7 (cL ho hd (x:=.ref t) rfl ?_);show ar _ _ (if (aF t==aQ)=a6 then _ else _) _ _ s;rw[if_neg (show ¬((aF t==aQ)=a6)from xg)];show ar _ _ (field (.ref j) 1 >>= _) _ _ s;refine a7 (cL ho hd (x:=.int k 0) rfl ?_);show ar _ _ (gv (.ref t) >>= _) _ _ s;refine a7 (dJ hot hdt ?_);simp only[X6,hy];refine a7 (wpAny_rule (a7 (eZ ho hd (by simp) ?_)));show ar _ _ (mw (.type "StopIteration") [] >>= _) _ _ _;refine a7 ?_;simp only[mw,newTuple];refine a7 (aJ ?_ (by size_fits));refine a7 (m:=f9 _ _) (gJ (a:=aQ) (by first|rfl|(simp only[f9];rfl)) ?_);refine aJ ?_ (by size_fits);simp only[raiseNew];refine a7 (mF ?_)
 first|rw[show A.in1.handled=a9 from hh]|rw[hh]
 refine a7 (ai (wpAny_throw ?_));exact q _ _ (((Ti ..).extBut.push _).push _) ⟨_,X5 _ rfl,rfl⟩
end
def zc(lst:Bool)(h:aC)(j t:ae)(k:Nat):Prop:=if lst=a6 then h.IsListIter j t k else h.IsTupleIter j t k
def qz(lst:Bool)(h:aC)(t:ae)(its:Array aa):Prop:=if lst=a6 then h.IsList t its else h.IsTuple t its
section
variable{prog:av}{w:az}{A:aB}{E:k9e}{s:af}{lst:Bool}{h h':aC}{j t b:ae}{k:Nat}{its:Array aa}
theorem zc.ext(x:zc lst h j t k)(e:eF b h h')(n:j≠b):zc lst h' j t k:=by
 unfold zc at x ⊢;cases lst with
 |true=>rw[if_pos rfl]at x ⊢;exact x.extBut e n
 |false=>rw[if_neg xg]at x ⊢;exact x.extBut e n
theorem zc.stay(x:zc lst h j t k)(e:∀o,h.get? j=a3 o->h'.get? j=a3 o):zc lst h' j t k:=by
 unfold zc at x ⊢;cases lst with
 |true=>rw[if_pos rfl]at x ⊢;exact x.at e
 |false=>rw[if_neg xg]at x ⊢;exact x.at e
theorem zc.obj(x:zc lst h j t k):∃o,h.get? j=a3 o/\∀v,o.data≠.cell v:=by
 unfold zc at x;cases lst with
 |true=>rw[if_pos rfl]at x;obtain⟨o,e,c,d⟩:=x;exact⟨o,e,λv z=>by rw[d]at z;cases z⟩
 |false=>rw[if_neg xg]at x;obtain⟨o,e,c,d⟩:=x;exact⟨o,e,λv z=>by rw[d]at z;cases z⟩
theorem qz.ext(x:qz lst h t its)(e:eF b h h')(n:t≠b):qz lst h' t its:=by
 unfold qz at x ⊢;cases lst with
 |true=>rw[if_pos rfl]at x ⊢;exact x.extBut e n
 |false=>rw[if_neg xg]at x ⊢;exact x.extBut e n
theorem j6h{y:aa}{Q:k9e}(hj:zc lst s.heap j t k)(ht:qz lst s.heap t its)(hy:its[k]?=a3 y)
  (q:∀h',zc lst h' j t (k+1)->cE j s.heap h'->Q y { s with heap:=h' }):ar (ax prog w) A (aW (.ref j)) Q E s:=by
 unfold zc at hj q;unfold qz at ht;cases lst with
 |true=>rw[if_pos rfl]at hj ht;simp only[if_true]at q;exact wpAny_nextOf_list_item hj ht hy q
 |false=>rw[if_neg xg]at hj ht;simp only[ph,if_false]at q;exact j5j hj ht hy q
theorem j12{Q:k9e}(hh:A.handled=a9)(hj:zc lst s.heap j t k)(ht:qz lst s.heap t its)(hy:its[k]?=a9)
  (q:∀h' x,eF j s.heap h'->(∃o,h'.get? x=a3 o/\o.cls=.type "StopIteration")->E (.ref x) { s with heap:=h' }):ar (ax prog w) A (aW (.ref j)) Q E s:=by
 unfold zc at hj;unfold qz at ht;cases lst with
 |true=>rw[if_pos rfl]at hj ht;exact wpAny_nextOf_list_end hh hj ht hy q
 |false=>rw[if_neg xg]at hj ht;exact j7v hh hj ht hy q
end
section
variable{prog:av}{w:az}{A:aB}{E:k9e}{s:af}{l1 l2:Bool}{z TI TO i1 i2 t1 t2:ae}{k:Nat}{us vs:Array aa}{x y a b:aa}
end
noncomputable def j13(lst:Bool):String:=if lst=a6 then "list_iterator" else "tuple_iterator"
noncomputable abbrev zh1(h:aC)(l1:Bool)(t1:ae):aC:=h.push { cls:=.type (j13 l1),data:=.fields #[.ref t1,.int 0 0] }
section
variable{prog:av}{w:az}{A:aB}{E:k9e}{s:af}{l1 l2:Bool}{t1 t2:ae}{us vs:Array aa}
theorem Og{lst:Bool}{t:ae}{its:Array aa}{Q:k9e}(h:qz lst s.heap t its)(q:Q (.ref s.heap.objs.size) { s with heap:=zh1 s.heap lst t }):ar (ax prog w) A (ic (.ref t)) Q E s:=by
 unfold qz at h;cases lst with
 |true=>rw[if_pos rfl]at h;exact bu h q
 |false=>rw[if_neg xg]at h;exact fK h q
end
def SqB(K:k9d)(lst:Bool)(H:Hp)(a:ae)(xs:List V):Prop:=if lst=a6 then SqL K H a xs else SqT K H a xs
section
variable{X:Cx}{pins:k9f}{σ:St}{H:Hp}{s:af}{a p:ae}{xs ys:List V}{lst:Bool}{ch:List ae}{h':aC}
theorem j0.seqB{K:k9d}{H':Hp}(e:j0 H H')(h:SqB K lst H a xs):SqB K lst H' a xs:=by
 unfold SqB at h ⊢;cases lst with
 |true=>rw[if_pos rfl]at h ⊢;exact e.seq h
 |false=>rw[if_neg xg]at h ⊢;exact e.seqT h
theorem Inv.side(I:Inv X pins σ H s)(h:SqB X.K lst H a xs):∃us:List aa,Vals xs us/\qz lst s.heap a us.toArray/\xs.length<=ak:=by
 unfold SqB at h;unfold qz;cases lst with
 |true=>rw[if_pos rfl]at h;obtain⟨its,r,q,l⟩:=I.list h;exact⟨its,r,by rw[if_pos rfl];exact q.isList,l⟩
 |false=>rw[if_neg xg]at h;obtain⟨its,r,q,l⟩:=I.tuple h;exact⟨its,r,by rw[if_neg xg];exact q,l⟩
theorem Inv.side_inj(I:Inv X pins σ H s)(h:SqB X.K lst H a xs)(h':SqB X.K lst H a ys):xs=ys:=by
 unfold SqB at h h';cases lst with
 |true=>rw[if_pos rfl]at h h';exact I.list_inj h h'
 |false=>rw[if_neg xg]at h h';exact I.tuple_inj h h'
theorem Inv.chg(I:Inv X pins σ H s)(hf:∀b∈ch,Zk X pins H b)(kp:∀c o,c∉ch->s.heap.get? c=a3 o->h'.get? c=a3 o):Inv X pins σ H { s with heap:=h' }:=by
 refine I.step (g':=s.gens) (t':=s.toks) (d':=s.drawn) (ch:=ch) (λb hb=>⟨(hf b hb).2.2.2.1,(hf b hb).2.1,(hf b hb).2.2.2.2.1,(hf b hb).2.2.2.2.2⟩) (λb o _ _ nc e _=>kp b o nc e) (λb o _ _ nc e _=>⟨o.slots,kp b o nc e⟩)
  (λb o _ _ n=>n) (λb o nc e=>⟨o,kp b o nc e⟩) (λb xs e=>e) (λb o u e=>e) (λb ps e=>⟨#[],by rw[e];simp⟩) (λm hm=>hm.at' λo e=>kp _ o (λz=>(hf _ z).2.1 rfl) e) (λc o e=>?_) I.bare
 have out:∀{b:ae}{u:HO},H b=a3 u->b∉ch:=λ{b u} q z=>by rw[(hf b z).1]at q;cases q
 refine jj.stay (I.hok c o e) (λb u hb q=>kp b u ?_ q) (λb q=>q) (λb xs q=>q) (λb _ _ q=>q);rcases hb with hb|hb
 .subst hb;exact out e
 .exact out hb
theorem Inv.chgT(I:Inv X pins σ H s)(hf:∀b∈ch,Zk X pins H b)(kp:∀c o,c∉ch->s.heap.get? c=a3 o->h'.get? c=a3 o){us:List aa}(rv:Vals xs us)(hl:xs.length<=ak)
  (hp:ig h' s.heap.objs.size us.toArray) (hq:Vg h' s.heap.objs.size):Inv X pins σ (upd H s.heap.objs.size (.tup xs)) { s with heap:=h' }:=by
 have hn:=I.fresh;have nz:∀{b:ae}{o:dw},s.heap.get? b=a3 o->b≠s.heap.objs.size:=λ{b o} e=>Xc (X3 e);have tr:∀{b:ae}{u:HO},H b=a3 u->upd H s.heap.objs.size (.tup xs) b=a3 u:=λ{b u} e=>by rw[ji (vd e hn)];exact e
 refine I.step (g':=s.gens) (t':=s.toks) (d':=s.drawn) (ch:=ch) (λb hb=>⟨(hf b hb).2.2.2.1,(hf b hb).2.1,(hf b hb).2.2.2.2.1,(hf b hb).2.2.2.2.2⟩) (λb o _ _ nc e _=>kp b o nc e) (λb o _ _ nc e _=>⟨o.slots,kp b o nc e⟩)
  (λb o _ e n=>by rw[ji (nz e)];exact n) (λb o nc e=>⟨o,kp b o nc e⟩) (λb xs e=>tr e) (λb o u e=>tr e) (λb ps e=>⟨#[],by rw[tr e];simp⟩) (λm hm=>hm.at' λo e=>kp _ o (λz=>(hf _ z).2.1 rfl) e) (λc o e=>?_) I.bare
 have out:∀{b:ae}{u:HO},H b=a3 u->b∉ch:=λ{b u} q z=>by rw[(hf b z).1]at q;cases q
 by_cases z:c=s.heap.objs.size
 .subst z;rw[j9]at e;cases e;exact⟨hl,us,rv,hp,hq⟩
 .rw[ji z]at e;refine jj.stay (I.hok c o e) (λb u hb q=>kp b u ?_ q) (λb q=>tr q) (λb xs q=>tr q) (λb _ _ q=>tr q);rcases hb with hb|hb
  .subst hb;exact out e
  .exact out hb
end
section
variable{X:Cx}{ρ:Rho}{a b:aj}{es:List aj}{n:Nat}{pos p q1 q2:aM}{ds ds':List D}{l1 l2:Bool}
noncomputable def D.seq(lst:Bool)(ds:List D):D:=if lst=a6 then .lst ds else .tup ds
theorem Vs{K:k9d}{H:Hp}{lst:Bool}{v:V}(h:Enc K H (D.seq lst ds) v):∃t xs,v=.ref t/\SqB K lst H t xs/\j4 K H ds xs:=by
 unfold D.seq at h;unfold SqB;cases lst with
 |true=>rw[if_pos rfl]at h;obtain⟨t,xs,e,s,l⟩:=h;exact⟨t,xs,e,by rw[if_pos rfl];exact s,l⟩
 |false=>rw[if_neg xg]at h;obtain⟨t,xs,e,s,l⟩:=h;exact⟨t,xs,e,by rw[if_neg xg];exact s,l⟩
theorem DG.pair{x y:ah}(i j:Nat){d d':D}(hij:i≠j)(hN:X.N.Nodup)(hi:X.N[i]?=a3 x:=by rfl)(hj:X.N[j]?=a3 y:=by rfl)(hx:Loc X.env.scope x:=by first|exact aU rfl|exact br rfl)(hy:Loc X.env.scope y:=by first|exact aU rfl|exact br rfl)
  (fx:X.fn x=a6\/X.env.scope.names.lookup x=a3 .local:=by first|exact .inl rfl|exact .inr rfl) (fy:X.fn y=a6\/X.env.scope.names.lookup y=a3 .local:=by first|exact .inl rfl|exact .inr rfl) (hc:X.calm=a6:=by rfl)
  (hn:(bj [.Name x q1,.Name y q2] X.env).length=2:=by rfl) (hst:(bj [.Name x q1,.Name y q2] X.env).findIdx? (·.1)=a9:=by rfl)
  (e1:(bj [.Name x q1,.Name y q2] X.env).map (·.2)=cU (.Name x q1) X.env::(bj [.Name y q2] X.env).map (·.2):=by rfl) (e2:(bj [.Name y q2] X.env).map (·.2)=cU (.Name y q2) X.env::(bj [] X.env).map (·.2):=by rfl) :
  DG X ρ (.Tuple [.Name x q1,.Name y q2] n pos) (.tup [d,d']) ((ρ.set i (.val d)).set j (.val d')):=by
 refine⟨λb hb=>(jf rfl).subset ((jf rfl).subset hb),λσ H v Q R en q=>?_⟩;obtain⟨t,xs,ev,sq,u,r,e,eu,u',r',e',eu',er⟩:=en;subst e e' ev er;refine(j6w hc (Ug (V4 hN hi hx fx) (Ug (V4 hN hj hy fy) j3p e2) e1) hn hst).to ⟨t,[u,u'],rfl,jt.seqT sq,rfl,u,[u'],rfl,u',[],rfl,rfl,?_⟩;refine q _ ?_;have R1:Rep X.K (ρ.set i (.val d)) (σ.set i (a3 u)) H:=R.set_val eu;exact R1.set_val (eu'.mono (v8 λb hb=>(jf rfl).subset hb))
end
noncomputable def D.ty:D->String
 |.non=>"NoneType"
 |.bl _=>"bool"
 |.int _=>"int"
 |.str _=>"str"
 |.tup _=>"tuple"
 |.lst _=>"list"
 |.dct _ _=>"dict"
 |.sct _=>"dict"
 |.fn _ _=>"function"
section
variable{X:Cx}{pins:k9f}{σ:St}{H:Hp}{s:af}{A:aB}{E:k9e}{Q:k9e}{c:aa}{b:Bool}
theorem j7f {d:D} {v:V} {u:aa} (I:Inv X pins σ H s) (en:Enc X.K H d v) (r:RelV v u) (nf:d.ty ≠ "function"):∃P:aC->Prop,PySem.W.KitX X.K u (.type d.ty) P/\P s.heap/\u≠.builtin "__main__.__loader__#opaque":=by
 cases d with
 |non=>cases(show v=.non from en);cases(show u=aQ from r);exact⟨_,W.kitx_none,trivial,λz=>nomatch z⟩
 |bl k=>cases(show v=.bl k from en);cases(show u=bC k from r);exact⟨_,W.kitx_bool,trivial,λz=>nomatch z⟩
 |int k=>cases(show v=.int k from en);obtain⟨t,q⟩:=(show ∃t,u=bf k t from r);cases q;exact⟨_,W.kitx_int,trivial,λz=>nomatch z⟩
 |str k=>cases(show v=.str k from en);obtain⟨t,q⟩:=(show ∃t,u=bG k t from r);cases q;exact⟨_,W.kitx_str,trivial,λz=>nomatch z⟩
 |tup l =>obtain⟨a,xs,e,sq,_⟩:=en;subst e;cases(show u=aF a from r);obtain⟨its,_,⟨o,h1,h2,_⟩,_⟩:=I.tuple sq;exact⟨_,W.kitx_tuple,⟨o,h1,h2⟩,λz=>nomatch z⟩
 |lst l =>obtain⟨a,xs,e,sq,_⟩:=en;subst e;cases(show u=aF a from r);obtain⟨its,_,⟨o,n,h1,h2,_⟩,_⟩:=I.list sq;exact⟨_,W.kitx_list,⟨o,h1,h2⟩,λz=>nomatch z⟩
 |dct ks l =>
  obtain⟨a,xs,ep,vs,e,hx,_⟩:=en;subst e;cases(show u=aF a from r);obtain⟨_,_,_,o,es,h1,h2,_⟩:=(show jj X.prog X.w H s.heap a (.dI xs ep)from I.hok _ _ hx)
  exact⟨_,W.kitx_dict,⟨o,h1,h2.1⟩,λz=>nomatch z⟩
 |sct k =>
  obtain⟨a,e,hx⟩:=en;subst e;cases(show u=aF a from r);obtain⟨_,_,vs,_,o,es,ep,h1,h2,_⟩:=(show jj X.prog X.w H s.heap a (.dK (kvI k))from I.hok _ _ hx)
  exact⟨_,W.kitx_dict,⟨o,h1,h2.1⟩,λz=>nomatch z⟩
 |fn x l=>exact absurd rfl nf
theorem j8k:Ju X (.builtin "isinstance") (λxs H Q=>∃v d c b,xs=[v,.ty c]/\Enc X.K H d v/\d.ty ≠ "function"/\W.kitOne X.K (.type d.ty) (.type c)=a3 b/\Q (.bl b) H):=by rintro pins s σ H xs us Q I r ⟨v,d,c,b,e,en,nf,k,q⟩;subst e;obtain⟨u,u',eu,r1,r2⟩:=vals2 r;subst eu;cases(show u'=bO c from r2);obtain⟨P,Z,hp,hn⟩:=j7f I en r1 nf;exact W.kia_one Z I.kIn hp k hn λtk=>⟨.bl b,H,I.tok tk,rfl,q⟩
theorem j8j:Ju X (.builtin "isinstance") (λxs H Q=>∃(v:V)(t:ae)(d:D)(cs:List String)(b:Bool),xs=[v,.ref t]/\Enc X.K H d v/\d.ty ≠ "function"/\SqT X.K H t (cs.map V.ty)/\W.kitAny X.K (.type d.ty) (cs.map bO)=a3 b/\Q (.bl b) H):=by
 rintro pins s σ H xs us Q I r ⟨v,t,d,cs,b,e,en,nf,sq,k,q⟩;subst e;obtain⟨u,u',eu,r1,r2⟩:=vals2 r;subst eu;cases(show u'=aF t from r2);obtain⟨P,Z,hp,hn⟩:=j7f I en r1 nf;obtain⟨its,rv,⟨⟨cl,dd,da,sl⟩,h1,h2,n,h3⟩,_⟩:=I.tuple sq;have h2:cl=.type "tuple":=h2;have h3:da=.seq its.toArray n:=h3;subst h2 h3;have ei:∀{cs:List String}{its:List aa},Vals (cs.map V.ty) its->its=cs.map bO:=λ{cs}=>by
  induction cs with
  |nil=>intro its h;exact h.zero
  |cons c cs ih=>intro its h;cases h with|cons a b=>cases a;rw[ih b];rfl
 rw[ei rv]at h1;exact W.kia_tup Z I.kIn hp h1 k hn λtk=>⟨.bl b,H,I.tok tk,rfl,q⟩
end
section
variable{X:Cx}{ρ:Rho}{a b:aj}{d:D}{pos p p1 p2 p3:aM}{T T1 T2:ah}{c c1 c2:String}{k:Bool}{n:Nat}
theorem j50 (hg:Gl X T) (hm:X.mg T=a9) (hv:b7 T=a3 (.type c)) (hn:T ≠ "__name__":=by decide) (hd:(T==k9h)=a4:=by decide):PE X (.Name T p) (tC (.ty c)):=je2 hg hm hv rfl hn hd
theorem DE.isi1 (ha:DT X ρ a d) (nf:d.ty ≠ "function") (hm:X.mg "isinstance" = a9) (hT:X.mg T=a9) (hv:b7 T=a3 (.type c)) (hk:W.kitOne X.K (.type d.ty) (.type c)=a3 k) (hg:Gl X "isinstance":=by rfl) (hg2:Gl X T:=by rfl)
  (hn:T ≠ "__name__":=by decide) (hd:(T==k9h)=a4:=by decide)
  (hs:a8 [a,.Name T p2] X.env=(a4,ay a X.env)::a8 [.Name T p2] X.env:=by rfl) (hs2:a8 [.Name T p2] X.env=(a4,ay (.Name T p2) X.env)::a8 [] X.env:=by rfl) (hpl:(aL pos (a8 [.Name T p2] X.env)).any (·.1)=a4:=by rfl) :
  DE X ρ (.Call (.Name "isinstance" p) [a,.Name T p2] [] pos) (.bl k):=λσ H Q R q =>
 (J0 j8k hg hm m8 (jg peS (jg (j50 hg2 hT hv hn hd) jy hs2) hs) (by decide) (by decide) hs hpl).to (ha σ H _ R λv H1 g1 e1=>⟨v,d,c,k,rfl,e1,nf,hk,q _ H1 g1 rfl⟩)
theorem DE.isi2 {m:Nat} (ha:DT X ρ a d) (nf:d.ty ≠ "function") (hm:X.mg "isinstance" = a9) (hT1:X.mg T1=a9) (hT2:X.mg T2=a9) (hv1:b7 T1=a3 (.type c1)) (hv2:b7 T2=a3 (.type c2))
  (hk:W.kitAny X.K (.type d.ty) [.type c1,.type c2]=a3 k) (hg:Gl X "isinstance":=by rfl) (hg1:Gl X T1:=by rfl) (hg2:Gl X T2:=by rfl)
  (hn1:T1 ≠ "__name__":=by decide) (hd1:(T1==k9h)=a4:=by decide) (hn2:T2 ≠ "__name__":=by decide) (hd2:(T2==k9h)=a4:=by decide)
  (hs:a8 [a,.Tuple [.Name T1 p1,.Name T2 p2] m p3] X.env=(a4,ay a X.env)::a8 [.Tuple [.Name T1 p1,.Name T2 p2] m p3] X.env:=by rfl)
  (hs2:a8 [.Tuple [.Name T1 p1,.Name T2 p2] m p3] X.env=(a4,ay (.Tuple [.Name T1 p1,.Name T2 p2] m p3) X.env)::a8 [] X.env:=by rfl) (hpl:(aL pos (a8 [.Tuple [.Name T1 p1,.Name T2 p2] m p3] X.env)).any (·.1)=a4:=by rfl)
  (hs3:a8 [.Name T1 p1,.Name T2 p2] X.env=(a4,ay (.Name T1 p1) X.env)::a8 [.Name T2 p2] X.env:=by rfl) (hs4:a8 [.Name T2 p2] X.env=(a4,ay (.Name T2 p2) X.env)::a8 [] X.env:=by rfl) :
  DE X ρ (.Call (.Name "isinstance" p) [a,.Tuple [.Name T1 p1,.Name T2 p2] m p3] [] pos) (.bl k):=λσ H Q R q =>
 (J0 j8j hg hm m8 (jg peS (jg (j6x (jg (j50 hg1 hT1 hv1 hn1 hd1) (jg (j50 hg2 hT2 hv2 hn2 hd2) jy hs4) hs3)) jy hs2) hs) (by decide) (by decide) hs hpl).to
  (ha σ H _ R λv H1 g1 e1=>⟨by show 2<=ak;decide,λt ht=>⟨v,t,d,[c1,c2],k,rfl,e1.mono (j7 ht),nf,.inl (.inl j9),hk,q _ _ (g1.trans (j7 ht)) rfl⟩⟩)
end
mutual
noncomputable def deq:D->D->Bool
 |.non,.non=>a6
 |.bl a,.bl b=>a==b
 |.bl a,.int b=>(if a then 1 else 0)==b
 |.int a,.bl b=>a==(if b then 1 else 0)
 |.int a,.int b=>a==b
 |.str a,.str b=>a==b
 |.tup xs,.tup ys=>vp xs ys
 |.lst xs,.lst ys=>vp xs ys
 |.dct k xs,.dct m ys=>decide (k=m)&&vp xs ys
 |.sct k,.sct m=>decide (k=m)
 |_,_=>a4
noncomputable def vp:List D->List D->Bool
 |[],[]=>a6
 |x::xs,y::ys=>deq x y&&vp xs ys
 |_,_=>a4
end
theorem jjh{a b:Bool}:deq (.bl a) (.bl b)=(a==b):=(rfl)
theorem jjg{a b:Int}:deq (.int a) (.int b)=(a==b):=(rfl)
theorem j7w{a b:ah}:deq (.str a) (.str b)=(a==b):=(rfl)
theorem j27{a b:List D}:deq (.tup a) (.tup b)=vp a b:=(rfl)
theorem j28{a b:List D}:deq (.lst a) (.lst b)=vp a b:=(rfl)
theorem Uo:vp [] []=a6:=(rfl)
theorem V5{x y:D}{xs ys:List D}:vp (x::xs) (y::ys)=(deq x y&&vp xs ys):=(rfl)
theorem Bx{y:D}{ys:List D}:vp [] (y::ys)=a4:=(rfl)
theorem By{x:D}{xs:List D}:vp (x::xs) []=a4:=(rfl)
mutual
noncomputable def D.dep:D->Nat
 |.tup xs=>D.depL xs+1
 |.lst xs=>D.depL xs+1
 |.dct _ _=>20000
 |.sct _=>20000
 |.fn _ _=>20000
 |_=>0
noncomputable def D.depL:List D->Nat
 |[]=>0
 |x::xs=>max x.dep (D.depL xs)
end
mutual
theorem Dn:∀d:D,d.dep<10000->deq d d=a6
 |.non,_=>rfl
 |.bl b,_=>by rw[jjh];simp
 |.int i,_=>by rw[jjg];simp
 |.str x,_=>by rw[j7w];simp
 |.tup xs,h=>by rw[j27];exact Ot xs (by simp only[D.dep]at h;omega)
 |.lst xs,h=>by rw[j28];exact Ot xs (by simp only[D.dep]at h;omega)
 |.dct _ _,h=>by simp[D.dep]at h
 |.sct _,h=>by simp[D.dep]at h
 |.fn _ _,h=>by simp[D.dep]at h
theorem Ot:∀ds:List D,D.depL ds<10000->vp ds ds=a6
 |[],_=>rfl
 |d::ds,h=>by rw[D.depL]at h;rw[V5,Dn d nofun,Ot ds nofun];rfl
end
theorem Up:∀{xs ys:List D},xs.length≠ys.length->vp xs ys=a4
 |[],[],h=>absurd rfl h
 |[],_::_,_=>by simp[Uo,V5,Bx,By]
 |_::_,[],_=>by simp[Uo,V5,Bx,By]
 |x::xs,y::ys,h=>by have:=Up (xs:=xs) (ys:=ys) (by simpa using h);simp[Uo,V5,Bx,By,this]
theorem Vd{f:Nat->Bool}:∀{xs ys:List D},xs.length=ys.length->(∀(j:Nat) x y,xs[j]?=a3 x->ys[j]?=a3 y->f j=deq x y)->(aq xs.length).all f=vp xs ys
 |[],[],_,_=>by simp[Uo,V5,Bx,By]
 |[],_::_,h,_=>by simp at h
 |_::_,[],h,_=>by simp at h
 |x::xs,y::ys,h,hf=>by have ih:=Vd (f:=λj=>f (j+1)) (xs:=xs) (ys:=ys) (by simpa using h) (λj a b ha hb=>hf (j+1) a b (by simpa using ha) (by simpa using hb));rw[X7,cH,Tz,hf 0 x y rfl rfl,i5];simp only[V5];rw[<-ih];rfl
section
variable{X:Cx}{pins:k9f}{σ:St}{H:Hp}{s:af}
theorem j1i(I:Inv X pins σ H s){a:ae}{xs ys:List V}(h:SqT X.K H a xs)(h':SqL X.K H a ys):False:=by obtain⟨_,_,⟨o,h1,h2,_⟩,_⟩:=I.tuple h;obtain⟨_,_,⟨o',n,h1',h2',_⟩,_⟩:=I.list h';rw[h1]at h1';cases h1';rw[h2]at h2';injection h2' with e;exact absurd e (by decide)
noncomputable def D.atom:D->Option V
 |.non=>a3 .non
 |.bl b=>a3 (.bl b)
 |.int i=>a3 (.int i)
 |.str x=>a3 (.str x)
 |_=>a9
theorem Enc.at_{K:k9d}{d:D}{v u:V}(h:Enc K H d v)(e:d.atom=a3 u):v=u:=by
 cases d with
 |non=>cases e;exact(show v=.non from h)
 |bl b=>cases e;exact(show v=.bl b from h)
 |int i=>cases e;exact(show v=.int i from h)
 |str x=>cases e;exact(show v=.str x from h)
 |_=>cases e
theorem Enc.ref{K:k9d}{d:D}{v:V}(h:Enc K H d v)(e:d.atom=a9):∃a,v=.ref a:=by
 cases d with
 |tup l=>obtain⟨a,_,e,_⟩:=h;exact⟨a,e⟩
 |lst l=>obtain⟨a,_,e,_⟩:=h;exact⟨a,e⟩
 |dct k l=>obtain⟨a,_,_,_,e,_⟩:=h;exact⟨a,e⟩
 |sct k=>obtain⟨a,e,_⟩:=h;exact⟨a,e⟩
 |fn x l=>obtain⟨a,_,_,_,_,e,_⟩:=h;exact⟨a,e⟩
 |_=>cases e
theorem jbu{d d':D}{u:V}(h:d.atom=a3 u)(h':d'.atom=a3 u):d=d':=by cases d<;>cases d'<;>first|(cases h;done)|(cases h';done)|(cases h;cases h';rfl)|(cases h;cases h')
theorem j2n{d:D}{a:ae}(h:d.atom=a3 (.ref a)):False:=by cases d<;>cases h
theorem jir(I:Inv X pins σ H s){d d':D}{v:V}(hd:d.dep<10000)(hd':d'.dep<10000)(h:Enc X.K H d v)(h':Enc X.K H d' v) :
  d=d'\/∃ds ds' xs,((d=.tup ds/\d'=.tup ds')\/(d=.lst ds/\d'=.lst ds'))/\j4 X.K H ds xs/\j4 X.K H ds' xs:=by
 cases e:d.atom with
 |some u =>
  have ev:=h.at_ e;subst ev;cases e':d'.atom with
  |some u'=>exact .inl (jbu e ((h'.at_ e')▸e'))
  |none=>obtain⟨a,ea⟩:=h'.ref e';subst ea;exact(j2n e).elim
 |none =>
  cases e':d'.atom with
  |some u'=>have ev:=h'.at_ e';subst ev;obtain⟨a,ea⟩:=h.ref e;subst ea;exact(j2n e').elim
  |none =>
   cases d with
   |tup ds =>
    obtain⟨a,xs,ea,sq,l⟩:=h;cases d' with
    |tup ds' =>obtain⟨a',ys,eb,sq',l'⟩:=h';rw[ea]at eb;cases eb;rw[I.tuple_inj sq' sq]at l';exact .inr ⟨ds,ds',xs,.inl ⟨rfl,rfl⟩,l,l'⟩
    |lst ds'=>obtain⟨a',ys,eb,sq',l'⟩:=h';rw[ea]at eb;cases eb;exact(j1i I sq sq').elim
    |dct _ _=>simp[D.dep]at hd'
    |sct _=>simp[D.dep]at hd'
    |fn _ _=>simp[D.dep]at hd'
    |_=>cases e'
   |lst ds =>
    obtain⟨a,xs,ea,sq,l⟩:=h;cases d' with
    |lst ds' =>obtain⟨a',ys,eb,sq',l'⟩:=h';rw[ea]at eb;cases eb;rw[I.list_inj sq' sq]at l';exact .inr ⟨ds,ds',xs,.inr ⟨rfl,rfl⟩,l,l'⟩
    |tup ds'=>obtain⟨a',ys,eb,sq',l'⟩:=h';rw[ea]at eb;cases eb;exact(j1i I sq' sq).elim
    |dct _ _=>simp[D.dep]at hd'
    |sct _=>simp[D.dep]at hd'
    |fn _ _=>simp[D.dep]at hd'
    |_=>cases e'
   |dct _ _=>simp[D.dep]at hd
   |sct _=>simp[D.dep]at hd
   |fn _ _=>simp[D.dep]at hd
   |_=>cases e
theorem jak{n:Nat}(ih:∀{d d':D}{v:V},d.dep<=n->d.dep<10000->d'.dep<10000->Enc X.K H d v->Enc X.K H d' v->d=d'):∀{ds ds':List D}{xs:List V},D.depL ds<=n->D.depL ds<10000->D.depL ds'<10000->j4 X.K H ds xs->j4 X.K H ds' xs->ds=ds'
 |[],[],_,_,_,_,_,_=>rfl
 |[],_::_,_,_,_,_,h,⟨x,r,e,_⟩=>by cases h;cases e
 |_::_,[],_,_,_,_,⟨x,r,e,_⟩,h=>by cases h;cases e
 |d::ds,d'::ds',_,m,n1,n2,⟨x,r,e,h,l⟩,⟨x',r',e',h',l'⟩=>by subst e;cases e';rw[D.depL]at m n1 n2;rw[ih nofun nofun nofun h h',jak ih nofun nofun nofun l l']
theorem jaj(I:Inv X pins σ H s):∀(n:Nat){d d':D}{v:V},d.dep<=n->d.dep<10000->d'.dep<10000->Enc X.K H d v->Enc X.K H d' v->d=d'
 |0,d,d',v,hn,hd,hd',h,h'=>by
  rcases jir I hd hd' h h' with e|⟨ds,ds',xs,⟨e,_⟩|⟨e,_⟩,_⟩
  .exact e
  .subst e;simp[D.dep]at hn
  .subst e;simp[D.dep]at hn
 |n+1,d,d',v,hn,hd,hd',h,h'=>by
  rcases jir I hd hd' h h' with e|⟨ds,ds',xs,⟨e,e'⟩|⟨e,e'⟩,l,l'⟩
  .exact e
  .subst e e';simp only[D.dep]at hn hd hd';rw[jak (λa b c=>jaj I n a b c) nofun nofun nofun l l']
  .subst e e';simp only[D.dep]at hn hd hd';rw[jak (λa b c=>jaj I n a b c) nofun nofun nofun l l']
theorem Enc.inj(I:Inv X pins σ H s){d d':D}{v:V}(hd:d.dep<10000)(hd':d'.dep<10000)(h:Enc X.K H d v)(h':Enc X.K H d' v):d=d':=jaj I d.dep (xu _) hd hd' h h'
end
section
variable{X:Cx}{pins:k9f}{σ:St}{H:Hp}{s:af}
theorem D.depL_le:∀{ds:List D}{j:Nat}{d:D},ds[j]?=a3 d->d.dep<=D.depL ds
 |[],_,_,h=>by simp at h
 |x::xs,0,d,h=>by simp at h;subst h;simp[D.depL];omega
 |x::xs,j+1,d,h=>by have:=D.depL_le (ds:=xs) (j:=j) (d:=d) (by simpa using h);simp[D.depL];omega
theorem U3(I:Inv X pins σ H s):∀(n:Nat)(A:aB){d d':D}{v v':V}{u u':aa},d.dep<=n->A.units+n<aV->d'.dep<10000->Enc X.K H d v->RelV v u->Enc X.K H d' v'->RelV v' u' ->
  fU A s u u' (deq d d')/\cZ A s u u' (deq d d')
 |0,A,d,d',v,v',u,u',hn,hu,nd,en,r,en',r'=>by
  have hu0:A.units<aV:=by omega
  cases d with
  |tup l=>simp[D.dep]at hn
  |lst l=>simp[D.dep]at hn
  |dct ks l=>simp[D.dep]at hn
  |sct k=>simp[D.dep]at hn
  |fn x l=>simp[D.dep]at hn
  |non =>
   cases(show v=.non from en);cases(show u=aQ from r);cases d' with
   |dct ks' l'=>simp[D.dep]at nd
   |sct k'=>simp[D.dep]at nd
   |fn x' l'=>simp[D.dep]at nd
   |non=>cases(show v'=.non from en');cases(show u'=aQ from r');exact⟨.none_none,.same _⟩
   |bl k=>cases(show v'=.bl k from en');cases(show u'=bC k from r');exact⟨.none_bool _,.none_bool _⟩
   |int k=>cases(show v'=.int k from en');obtain⟨t,q⟩:=(show ∃t,u'=bf k t from r');subst q;exact⟨.none_int _ _,.none_int _ _⟩
   |str k=>cases(show v'=.str k from en');obtain⟨t,q⟩:=(show ∃t,u'=bG k t from r');subst q;exact⟨.none_str _ _,.none_str _ _⟩
   |tup l=>obtain⟨a,xs,e,sq,_⟩:=en';subst e;cases(show u'=aF a from r');obtain⟨_,_,q,_⟩:=I.tuple sq;exact⟨.none_tuple q hu0,.none_tuple q hu0⟩
   |lst l=>obtain⟨a,xs,e,sq,_⟩:=en';subst e;cases(show u'=aF a from r');obtain⟨_,_,q,_⟩:=I.list sq;exact⟨.none_list q.isList hu0,.none_list q.isList hu0⟩
  |bl b =>
   cases(show v=.bl b from en);cases(show u=bC b from r);cases d' with
   |dct ks' l'=>simp[D.dep]at nd
   |sct k'=>simp[D.dep]at nd
   |fn x' l'=>simp[D.dep]at nd
   |non=>cases(show v'=.non from en');cases(show u'=aQ from r');exact⟨.bool_none _,.bool_none _⟩
   |bl k=>cases(show v'=.bl k from en');cases(show u'=bC k from r');exact⟨.bool_bool _ _,.bool_bool _ _⟩
   |int k=>cases(show v'=.int k from en');obtain⟨t,q⟩:=(show ∃t,u'=bf k t from r');subst q;exact⟨.bool_int _ _ _,.bool_int _ _ _⟩
   |str k=>cases(show v'=.str k from en');obtain⟨t,q⟩:=(show ∃t,u'=bG k t from r');subst q;exact⟨.bool_str _ _ _,.bool_str _ _ _⟩
   |tup l=>obtain⟨a,xs,e,sq,_⟩:=en';subst e;cases(show u'=aF a from r');obtain⟨_,_,q,_⟩:=I.tuple sq;exact⟨.bool_tuple _ q hu0,.bool_tuple _ q hu0⟩
   |lst l=>obtain⟨a,xs,e,sq,_⟩:=en';subst e;cases(show u'=aF a from r');obtain⟨_,_,q,_⟩:=I.list sq;exact⟨.bool_list _ q.isList hu0,.bool_list _ q.isList hu0⟩
  |int b =>
   cases(show v=.int b from en);obtain⟨tk,q0⟩:=(show ∃t,u=bf b t from r);subst q0;cases d' with
   |dct ks' l'=>simp[D.dep]at nd
   |sct k'=>simp[D.dep]at nd
   |fn x' l'=>simp[D.dep]at nd
   |non=>cases(show v'=.non from en');cases(show u'=aQ from r');exact⟨.int_none _ _,.int_none _ _⟩
   |bl k=>cases(show v'=.bl k from en');cases(show u'=bC k from r');exact⟨.int_bool _ _ _,.int_bool _ _ _⟩
   |int k=>cases(show v'=.int k from en');obtain⟨t,q⟩:=(show ∃t,u'=bf k t from r');subst q;exact⟨.int_int _ _ _ _,.int_int _ _ _ _⟩
   |str k=>cases(show v'=.str k from en');obtain⟨t,q⟩:=(show ∃t,u'=bG k t from r');subst q;exact⟨.int_str _ _ _ _,.int_str _ _ _ _⟩
   |tup l=>obtain⟨a,xs,e,sq,_⟩:=en';subst e;cases(show u'=aF a from r');obtain⟨_,_,q,_⟩:=I.tuple sq;exact⟨.int_tuple _ _ q hu0,.int_tuple _ _ q hu0⟩
   |lst l=>obtain⟨a,xs,e,sq,_⟩:=en';subst e;cases(show u'=aF a from r');obtain⟨_,_,q,_⟩:=I.list sq;exact⟨.int_list _ _ q.isList hu0,.int_list _ _ q.isList hu0⟩
  |str b =>
   cases(show v=.str b from en);obtain⟨tk,q0⟩:=(show ∃t,u=bG b t from r);subst q0;cases d' with
   |dct ks' l'=>simp[D.dep]at nd
   |sct k'=>simp[D.dep]at nd
   |fn x' l'=>simp[D.dep]at nd
   |non=>cases(show v'=.non from en');cases(show u'=aQ from r');exact⟨.str_none _ _,.str_none _ _⟩
   |bl k=>cases(show v'=.bl k from en');cases(show u'=bC k from r');exact⟨.str_bool _ _ _,.str_bool _ _ _⟩
   |int k=>cases(show v'=.int k from en');obtain⟨t,q⟩:=(show ∃t,u'=bf k t from r');subst q;exact⟨.str_int _ _ _ _,.str_int _ _ _ _⟩
   |str k=>cases(show v'=.str k from en');obtain⟨t,q⟩:=(show ∃t,u'=bG k t from r');subst q;exact⟨.str_str _ _ _ _,.str_str _ _ _ _⟩
   |tup l=>obtain⟨a,xs,e,sq,_⟩:=en';subst e;cases(show u'=aF a from r');obtain⟨_,_,q,_⟩:=I.tuple sq;exact⟨.str_tuple _ _ q hu0,.str_tuple _ _ q hu0⟩
   |lst l=>obtain⟨a,xs,e,sq,_⟩:=en';subst e;cases(show u'=aF a from r');obtain⟨_,_,q,_⟩:=I.list sq;exact⟨.str_list _ _ q.isList hu0,.str_list _ _ q.isList hu0⟩
 |n+1,A,d,d',v,v',u,u',hn,hu,nd,en,r,en',r'=>by
  have hu0:A.units<aV:=by omega
  have hu1:A.in1.units+n<aV:=by show A.units+1+n<aV;omega
  have low:d.dep<=n->fU A s u u' (deq d d')/\cZ A s u u' (deq d d'):=λh=>U3 I n A h nofun nd en r en' r';cases d with
  |non=>exact low (by simp[D.dep])
  |bl b=>exact low (by simp[D.dep])
  |int b=>exact low (by simp[D.dep])
  |str b=>exact low (by simp[D.dep])
  |dct ks l=>exfalso;have:(9900:Nat)=aV:=rfl;simp only[D.dep]at hn;omega
  |sct k=>exfalso;have:(9900:Nat)=aV:=rfl;simp only[D.dep]at hn;omega
  |fn x l=>exfalso;have:(9900:Nat)=aV:=rfl;simp only[D.dep]at hn;omega
  |tup ds =>
   have hd:D.depL ds<=n:=by simp[D.dep]at hn;omega
   obtain⟨a,xs,e,sq,l⟩:=id en;subst e;cases(show u=aF a from r);obtain⟨us,rv,q,_⟩:=I.tuple sq;cases d' with
   |dct ks' l'=>simp[D.dep]at nd
   |sct k'=>simp[D.dep]at nd
   |fn x' l'=>simp[D.dep]at nd
   |non=>cases(show v'=.non from en');cases(show u'=aQ from r');exact⟨.tuple_none q hu0,.tuple_none q hu0⟩
   |bl k=>cases(show v'=.bl k from en');cases(show u'=bC k from r');exact⟨.tuple_bool _ q hu0,.tuple_bool _ q hu0⟩
   |int k=>cases(show v'=.int k from en');obtain⟨t,q'⟩:=(show ∃t,u'=bf k t from r');subst q';exact⟨.tuple_int _ _ q hu0,.tuple_int _ _ q hu0⟩
   |str k=>cases(show v'=.str k from en');obtain⟨t,q'⟩:=(show ∃t,u'=bG k t from r');subst q';exact⟨.tuple_str _ _ q hu0,.tuple_str _ _ q hu0⟩
   |lst ds'=>obtain⟨a',ys,e,sq',_⟩:=en';subst e;cases(show u'=aF a' from r');obtain⟨_,_,q',_⟩:=I.list sq';exact⟨.tuple_list q q'.isList hu0,.tuple_list q q'.isList hu0⟩
   |tup ds' =>
    obtain⟨a',ys,e,sq',l'⟩:=id en';subst e;cases(show u'=aF a' from r');obtain⟨us',rv',q',_⟩:=I.tuple sq';have e1:us.length=ds.length:=by rw[<-rv.length,l.length]
    have e2:us'.length=ds'.length:=by rw[<-rv'.length,l'.length]
    have main:fU A s (.ref a) (.ref a') (deq (.tup ds) (.tup ds')):=by
     have item:∀(j:Nat)(h1:j<us.toArray.size)(h2:j<us'.toArray.size),cZ A.in1 s us.toArray[j] us'.toArray[j] (deq (ds.getD j .non) (ds'.getD j .non)):=λj h1 h2=>by
      have k1:j<ds.length:=by rw[<-e1];simpa using h1
      have k2:j<ds'.length:=by rw[<-e2];simpa using h2
      obtain⟨x,hx,ex⟩:=l.get (kh k1);obtain⟨y,hy,ey⟩:=l'.get (kh k2);obtain⟨w1,hw1,rw1⟩:=rv.get hx;obtain⟨w2,hw2,rw2⟩:=rv'.get hy;have g1:us.toArray[j]=w1:=by simp at h1 ⊢;rw[kh (by simpa using h1)]at hw1;exact aw hw1
      have g2:us'.toArray[j]=w2:=by simp at h2 ⊢;rw[kh (by simpa using h2)]at hw2;exact aw hw2
      rw[g1,g2,kj,kj,kh k1,kh k2];exact(U3 I n A.in1 (Xl (D.depL_le (kh k1)) hd) hu1 (cq (D.depL_le (kh k2)) (by simp only[D.dep]at nd;omega)) ex rw1 ey rw2).2
     have z:=SeqAt.RcAt.tuples (A:=A) (s:=s) q q' hu0 (e:=λj=>deq (ds.getD j .non) (ds'.getD j .non)) item;have ev:((aq (min us.toArray.size us'.toArray.size)).all (λj=>deq (ds.getD j .non) (ds'.getD j .non))&&us.toArray.size==us'.toArray.size)=deq (.tup ds) (.tup ds'):=by
      simp only[j27,X4,e1,e2];by_cases hl:ds.length=ds'.length
      .rw[hl,lB,beq_self_eq_true,gP,<-hl];exact Vd hl λj x y hx hy=>by rw[kj,kj,hx,hy];rfl
      .rw[Up hl,beq_false_of_ne hl,gr]
     rw[ev]at z;exact z
    refine⟨main,?_⟩;by_cases ea:a=a'
    .subst ea;have e9:(9900:Nat)=aV:=rfl;rw[Enc.inj I nofun nd en en',Dn _ nd];exact .same _
    .exact .of_refs ea main
  |lst ds =>
   have hd:D.depL ds<=n:=by simp[D.dep]at hn;omega
   obtain⟨a,xs,e,sq,l⟩:=id en;subst e;cases(show u=aF a from r);obtain⟨us,rv,q0,_⟩:=I.list sq;have q:=q0.isList;cases d' with
   |dct ks' l'=>simp[D.dep]at nd
   |sct k'=>simp[D.dep]at nd
   |fn x' l'=>simp[D.dep]at nd
   |non=>cases(show v'=.non from en');cases(show u'=aQ from r');exact⟨.list_none q hu0,.list_none q hu0⟩
   |bl k=>cases(show v'=.bl k from en');cases(show u'=bC k from r');exact⟨.list_bool _ q hu0,.list_bool _ q hu0⟩
   |int k=>cases(show v'=.int k from en');obtain⟨t,q'⟩:=(show ∃t,u'=bf k t from r');subst q';exact⟨.list_int _ _ q hu0,.list_int _ _ q hu0⟩
   |str k=>cases(show v'=.str k from en');obtain⟨t,q'⟩:=(show ∃t,u'=bG k t from r');subst q';exact⟨.list_str _ _ q hu0,.list_str _ _ q hu0⟩
   |tup ds'=>obtain⟨a',ys,e,sq',_⟩:=en';subst e;cases(show u'=aF a' from r');obtain⟨_,_,q',_⟩:=I.tuple sq';exact⟨.list_tuple q q' hu0,.list_tuple q q' hu0⟩
   |lst ds' =>
    obtain⟨a',ys,e,sq',l'⟩:=id en';subst e;cases(show u'=aF a' from r');obtain⟨us',rv',q0',_⟩:=I.list sq';have q':=q0'.isList;have e1:us.length=ds.length:=by rw[<-rv.length,l.length]
    have e2:us'.length=ds'.length:=by rw[<-rv'.length,l'.length]
    have main:fU A s (.ref a) (.ref a') (deq (.lst ds) (.lst ds')):=by
     have item:∀(j:Nat)(h1:j<us.toArray.size)(h2:j<us'.toArray.size),cZ A.in1 s us.toArray[j] us'.toArray[j] (deq (ds.getD j .non) (ds'.getD j .non)):=λj h1 h2=>by
      have k1:j<ds.length:=by rw[<-e1];simpa using h1
      have k2:j<ds'.length:=by rw[<-e2];simpa using h2
      obtain⟨x,hx,ex⟩:=l.get (kh k1);obtain⟨y,hy,ey⟩:=l'.get (kh k2);obtain⟨w1,hw1,rw1⟩:=rv.get hx;obtain⟨w2,hw2,rw2⟩:=rv'.get hy;have g1:us.toArray[j]=w1:=by simp at h1 ⊢;rw[kh (by simpa using h1)]at hw1;exact aw hw1
      have g2:us'.toArray[j]=w2:=by simp at h2 ⊢;rw[kh (by simpa using h2)]at hw2;exact aw hw2
      rw[g1,g2,kj,kj,kh k1,kh k2];exact(U3 I n A.in1 (Xl (D.depL_le (kh k1)) hd) hu1 (cq (D.depL_le (kh k2)) (by simp only[D.dep]at nd;omega)) ex rw1 ey rw2).2
     simp only[j28];by_cases hl:ds.length=ds'.length
     .have z:=SeqAt.RcAt.lists (A:=A) (s:=s) q q' (by simp[e1,e2,hl]) hu0 (e:=λj=>deq (ds.getD j .non) (ds'.getD j .non)) item;have ev:(aq us.toArray.size).all (λj=>deq (ds.getD j .non) (ds'.getD j .non))=vp ds ds':=by rw[X4,e1];exact Vd hl λj x y hx hy=>by rw[kj,kj,hx,hy];rfl
      rw[ev]at z;exact z
     .rw[Up hl];exact .lists_lengths q q' (by simp[e1,e2,hl]) hu0
    refine⟨main,?_⟩;by_cases ea:a=a'
    .subst ea;have e9:(9900:Nat)=aV:=rfl;rw[Enc.inj I nofun nd en en',Dn _ nd];exact .same _
    .exact .of_refs ea main
end
section
variable{X:Cx}{pins:k9f}{σ:St}{H:Hp}{s:af}{A:aB}
theorem ja6(I:Inv X pins σ H s){n:Nat}{ds ds':List D}{xs ys:List V}{us us':List aa}(l:j4 X.K H ds xs)(rv:Vals xs us)(l':j4 X.K H ds' ys)(rv':Vals ys us')(hd:D.depL ds<=n)(hu:A.units+1+n<aV)(nd:D.depL ds'<10000) :
  ∀(j:Nat)(h1:j<us.toArray.size)(h2:j<us'.toArray.size),cZ A.in1 s us.toArray[j] us'.toArray[j] (deq (ds.getD j .non) (ds'.getD j .non)):=λj h1 h2=>by
 have k1:j<ds.length:=by rw[<-l.length,rv.length];simpa using h1
 have k2:j<ds'.length:=by rw[<-l'.length,rv'.length];simpa using h2
 obtain⟨x,hx,ex⟩:=l.get (kh k1);obtain⟨y,hy,ey⟩:=l'.get (kh k2);obtain⟨w1,hw1,rw1⟩:=rv.get hx;obtain⟨w2,hw2,rw2⟩:=rv'.get hy;have g1:us.toArray[j]=w1:=by simp at h1 ⊢;rw[kh (by simpa using h1)]at hw1;exact aw hw1
 have g2:us'.toArray[j]=w2:=by simp at h2 ⊢;rw[kh (by simpa using h2)]at hw2;exact aw hw2
 rw[g1,g2,kj,kj,kh k1,kh k2];exact(U3 I n A.in1 (Xl (D.depL_le (kh k1)) hd) hu (cq (D.depL_le (kh k2)) nd) ex rw1 ey rw2).2
theorem j74(hu:X.A.units+100<aV):OpR X (aO .Eq) (λx y H Q=>∃d d',Enc X.K H d x/\Enc X.K H d' y/\d.dep<=100/\d'.dep<10000/\Q (.bl (deq d d')) H):=by rintro pins s σ H x y v u Q I rx ry ⟨d,d',en,en',hd,nd,q⟩;exact(U3 I 100 X.A hd hu nd en rx en' ry).1 X.prog X.w X.xe _ ⟨.bl (deq d d'),H,I,rfl,q⟩
theorem j72(hu:X.A.units+100<aV):OpR X (aO .NotEq) (λx y H Q=>∃ds ds' k,Enc X.K H (D.seq k ds) x/\Enc X.K H (D.seq k ds') y/\D.depL ds<=98/\D.depL ds'<10000/\Q (.bl (!vp ds ds')) H):=by
 rintro pins s σ H x y v u Q I rx ry ⟨ds,ds',k,en,en',hd,nd,q⟩;have h0:X.A.units<aV:=by omega
 obtain⟨t,xs,e,sq,l⟩:=Vs en;obtain⟨t',ys,e',sq',l'⟩:=Vs en';subst e e';cases rx;cases ry;obtain⟨us,rv,qs,_⟩:=I.side sq;obtain⟨us',rv',qs',_⟩:=I.side sq';have e1:us.length=ds.length:=by rw[<-rv.length,l.length]
 have e2:us'.length=ds'.length:=by rw[<-rv'.length,l'.length]
 have item:=ja6 (A:=X.A) I l rv l' rv' hd nofun nd;unfold qz at qs qs';cases k with
 |true =>
  rw[if_pos rfl]at qs qs';by_cases hl:ds.length=ds'.length
  .have z:=SeqAt.RcNeAt.lists (A:=X.A) (s:=s) qs qs' (by simp[e1,e2,hl]) h0 (e:=λj=>deq (ds.getD j .non) (ds'.getD j .non)) item;have ev:(aq us.toArray.size).all (λj=>deq (ds.getD j .non) (ds'.getD j .non))=vp ds ds':=by rw[X4,e1];exact Vd hl λj x y hx hy=>by rw[kj,kj,hx,hy];rfl
   rw[ev]at z;exact z X.prog X.w X.xe _ ⟨.bl (!vp ds ds'),H,I,rfl,q⟩
  .have z:=SeqAt.RcNeAt.lists_lengths (A:=X.A) (s:=s) qs qs' (by simp[e1,e2,hl]) h0;rw[Up hl]at q;exact z X.prog X.w X.xe _ ⟨.bl a6,H,I,rfl,q⟩
 |false =>
  rw[if_neg xg]at qs qs';have z:=SeqAt.RcNeAt.tuples (A:=X.A) (s:=s) qs qs' h0 (e:=λj=>deq (ds.getD j .non) (ds'.getD j .non)) item;have ev:((aq (min us.toArray.size us'.toArray.size)).all (λj=>deq (ds.getD j .non) (ds'.getD j .non))&&us.toArray.size==us'.toArray.size)=vp ds ds':=by
   simp only[X4,e1,e2];by_cases hl:ds.length=ds'.length
   .rw[hl,lB,beq_self_eq_true,gP,<-hl];exact Vd hl λj x y hx hy=>by rw[kj,kj,hx,hy];rfl
   .rw[Up hl,beq_false_of_ne hl,gr]
  rw[ev]at z;exact z X.prog X.w X.xe _ ⟨.bl (!vp ds ds'),H,I,rfl,q⟩
noncomputable def eqW(X:Cx)(H:Hp)(d:D)(y:aa):Bool:=@decide (∃e v,e.dep<10000/\Enc X.K H e v/\RelV v y/\deq e d=a6) (dm _)
theorem j23(I:Inv X pins σ H s){d e:D}{v:V}{y:aa}(he:e.dep<10000)(en:Enc X.K H e v)(r:RelV v y):eqW X H d y=deq e d:=by
 unfold eqW;cases h:deq e d with
 |true=>exact @decide_eq_true _ (dm _) ⟨e,v,he,en,r,h⟩
 |false =>refine @decide_eq_false _ (dm _) λ⟨e',v',he',en',r',h'⟩=>?_;rw[r'.inj r]at en';rw[Enc.inj I he' he en' en,h]at h';cases h'
theorem Ir(I:Inv X pins σ H s){d:D}:∀{ds:List D}{xs:List V}{us:List aa},D.depL ds<10000->j4 X.K H ds xs->Vals xs us->us.any (eqW X H d)=ds.any λe=>deq e d
 |[],_,_,_,h,r=>by cases h;cases r;rfl
 |e::ds,_,_,hd,⟨x,r,eq,h,l⟩,rv=>by
  subst eq;rw[D.depL]at hd;cases rv with
  |cons a b=>rw[eX,eX,Ir I nofun l b,j23 I nofun h a]
theorem Mg(I:Inv X pins σ H s){d:D}:∀{ds:List D}{xs:List V}{us:List aa},D.depL ds<10000->j4 X.K H ds xs->Vals xs us->us.countP (eqW X H d)=ds.countP λe=>deq e d
 |[],_,_,_,h,r=>by cases h;cases r;rfl
 |e::ds,_,_,hd,⟨x,r,eq,h,l⟩,rv=>by
  subst eq;rw[D.depL]at hd;cases rv with
  |cons a b=>rw[Pu,Pu,Mg I nofun l b,j23 I nofun h a]
theorem Wz(I:Inv X pins σ H s){d:D}{v:V}{u:aa}(en:Enc X.K H d v)(r:RelV v u)(nd:d.dep<10000){n:Nat}(hu:A.units+n<aV):∀{ds:List D}{xs:List V}{us:List aa},D.depL ds<=n->j4 X.K H ds xs->Vals xs us->∀y∈us,cZ A s y u (eqW X H d y)
 |[],_,_,_,h,rv,y,hy=>by cases h;cases rv;cases hy
 |e::ds,_,_,hd,⟨x,r',eq,h,l⟩,rv,y,hy=>by
  subst eq;have hd':e.dep<=n/\D.depL ds<=n:=by simp[D.depL]at hd;omega
  cases rv with
  |cons a b =>
   rcases xn.mp hy with rfl|hy
   .have e9:(9900:Nat)=aV:=rfl;rw[j23 I nofun h a];exact(U3 I n A hd'.1 hu nd h a en r).2
   .exact Wz I en r nd hu hd'.2 l b y hy
theorem j73(hu:X.A.units+100<aV):OpR X (aO .In) (λx y H Q=>∃d ds k,Enc X.K H d x/\Enc X.K H (D.seq k ds) y/\D.depL ds<=98/\d.dep<10000/\Q (.bl (ds.any λe=>deq e d)) H):=by
 rintro pins s σ H x y v u Q I rx ry ⟨d,ds,k,en,en',hd,nd,q⟩;obtain⟨t,xs,e,sq,l⟩:=Vs en';subst e;cases ry;obtain⟨us,rv,qs,_⟩:=I.side sq;have me:=λy (hy:y∈us.toArray)=>Wz (A:=X.A.in1) I en rx nd (n:=98) (by show X.A.units+1+98<aV;omega) hd l rv y (by simpa using hy);have ev:us.toArray.any (eqW X H d)=ds.any λe=>deq e d:=by rw[jP];exact Ir I nofun l rv
 unfold qz at qs;cases k with
 |true=>rw[if_pos rfl]at qs;exact SeqAt.in_listAt (eqW X H d) qs me (by rw[ev];exact⟨.bl _,H,I,rfl,q⟩)
 |false=>rw[if_neg xg]at qs;exact SeqAt.in_tupleAt (eqW X H d) qs me (by rw[ev];exact⟨.bl _,H,I,rfl,q⟩)
theorem Ec(hu:X.A.units+100<aV):OpR X (aO .NotIn) (λx y H Q=>∃d ds k,Enc X.K H d x/\Enc X.K H (D.seq k ds) y/\D.depL ds<=98/\d.dep<10000/\Q (.bl (!ds.any λe=>deq e d)) H):=by
 rintro pins s σ H x y v u Q I rx ry ⟨d,ds,k,en,en',hd,nd,q⟩;obtain⟨t,xs,e,sq,l⟩:=Vs en';subst e;cases ry;obtain⟨us,rv,qs,_⟩:=I.side sq;have me:=λy (hy:y∈us.toArray)=>Wz (A:=X.A.in1) I en rx nd (n:=98) (by show X.A.units+1+98<aV;omega) hd l rv y (by simpa using hy);have ev:us.toArray.any (eqW X H d)=ds.any λe=>deq e d:=by rw[jP];exact Ir I nofun l rv
 unfold qz at qs;cases k with
 |true=>rw[if_pos rfl]at qs;exact SeqAt.notIn_listAt (eqW X H d) qs me (by rw[ev];exact⟨.bl _,H,I,rfl,q⟩)
 |false=>rw[if_neg xg]at qs;exact SeqAt.notIn_tupleAt (eqW X H d) qs me (by rw[ev];exact⟨.bl _,H,I,rfl,q⟩)
theorem j78 (hu:X.A.units+100<aV):MtR X "tuple.count" (λx vs H Q=>∃t xs ds d y,x=.ref t/\vs=[y]/\SqT X.K H t xs/\j4 X.K H ds xs/\Enc X.K H d y/\D.depL ds<=97/\d.dep<10000/\Q (.int (ds.countP λe=>deq e d)) H):=by
 rintro pins s σ H x vs v us Q I rx rv ⟨t,xs,ds,d,y,e,e',sq,l,en,hd,nd,q⟩;subst e e';cases rx;obtain⟨u,eu,ru⟩:=rv.one;subst eu;obtain⟨its,ri,⟨⟨cl,dd,da,sl⟩,h1,h2,n,h3⟩,_⟩:=I.tuple sq;have h2:cl=.type "tuple":=h2;have h3:da=.seq its.toArray n:=h3;subst h2 h3;refine bA i7 ⟨_,h1,rfl⟩ F.entry_tuple_count (F.args_tuple_count_2 _ _) (SeqAt.tuple_countAt t its.toArray n dd sl u (eqW X H d)) ⟨h1,λy hy=>Wz (n:=97) I en ru nd (by show X.A.units+1+97<aV;omega) hd l ri y (by simpa using hy),?_⟩;have ev:(its.toArray.toList.countP (eqW X H d):Nat)=ds.countP λe=>deq e d:=by rw[eR];exact Mg I nofun l ri
 rw[ev];exact⟨.int _,H,I.tok _,⟨_,rfl⟩,q⟩
theorem j9s:OpR X (b8 .Add) (λx y H Q=>∃a b xs ys,x=.ref a/\y=.ref b/\SqT X.K H a xs/\SqT X.K H b ys/\xs.length+ys.length<=ak /\
  (xs=[]->Q (.ref b) H)/\(xs≠[]->ys=[]->Q (.ref a) H)/\(xs≠[]->ys≠[]->∀p,H p=a9->Q (.ref p) (upd H p (.tup (xs++ys))))):=by
 rintro pins s σ H x y v u Q I rx ry ⟨a,b,xs,ys,e,e',sa,sb,hz,q1,q2,q3⟩;by_cases hx:xs=[]
 .subst e e' hx;cases rx;cases ry;obtain⟨us,ru,⟨⟨c1,d1,f1,g1⟩,h1,k1,n1,m1⟩,_⟩:=I.tuple sa;obtain⟨vs,rv,⟨⟨c2,d2,f2,g2⟩,h2,k2,n2,m2⟩,_⟩:=I.tuple sb;cases ru;have k1:c1=.type "tuple":=k1;have m1:f1=.seq ([]:List aa).toArray n1:=m1;have k2:c2=.type "tuple":=k2;have m2:f2=.seq vs.toArray n2:=m2;subst k1 m1 k2 m2;exact fZ ⟨_,h1,rfl⟩ ⟨_,h2,rfl⟩ gB iJ dG dq (di _ _)
   (tuple_addW0 a b ([]:List aa).toArray vs.toArray n1 n2 d1 d2 g1 g2 (by simp)) ⟨h1,h2,⟨.ref b,H,I,rfl,q1 rfl⟩⟩
 .exact je4 pins s σ H x y v u Q I rx ry ⟨a,b,xs,ys,e,e',sa,sb,hx,hz,q2 hx,q3 hx⟩
theorem all_range:∀bs:List Bool,(aq bs.length).all (λi=>(bs[i]?).getD a6)=bs.all id
 |[]=>rfl
 |b::bs=>by rw[X7,cH,Tz,i5,Tz,<-all_range bs];rfl
theorem j38 (hc:X.calm=a6):Ju X (.builtin "all") (λxs H Q=>∃(l:ae)(bs:List Bool),xs=[.ref l]/\SqL X.K H l (bs.map V.bl)/\Q (.bl (bs.all id)) H):=by
 rintro pins s σ H xs us Q I r ⟨l,bs,e,sq,q⟩;subst e;obtain⟨u,eu,ru⟩:=vals1 r;subst eu;cases ru;obtain⟨its,rv,pl,_⟩:=I.list sq;have hlt:l<s.heap.objs.size:=by obtain⟨_,_,e,_⟩:=pl;exact X3 e
 have hl:its.length=bs.length:=by rw[<-rv.length,km]
 refine call_all_walk (bu pl.isList ⟨s.heap.objs.size,[s.heap.objs.size,l],[s.heap.objs.size],its.toArray.size,_,_,λi=>(bs[i]?).getD a6,rfl,Walks.list (A:=X.A.in1) (I.ok.hd hc) _ _ (Xc hlt) its.toArray,⟨⟨_,X5 _ rfl,rfl,rfl⟩,pl.isList.push _⟩,?_,λh' tk kp=>?_⟩)
 .intro i v s' Q' E' hv hq;have hi:i<its.length:=by have:=Array.getElem?_eq_some_iff.mp hv;obtain⟨h,_⟩:=this;simpa using h
  have hb:i<bs.length:=by omega
  obtain⟨w1,hw,rw1⟩:=rv.get (x:=.bl bs[i]) (i:=i) (by rw[xx,kh hb];rfl);have:its.toArray[i]?=a3 w1:=by simpa using hw
  rw[this]at hv;cases hv;cases rw1;simp only[kh hb,dE]at hq;exact bc hq
 .have ev:(aq its.toArray.size).all (λi=>(bs[i]?).getD a6)=bs.all id:=by rw[X4,hl];exact all_range bs
  rw[ev];refine⟨.bl _,H,I.kept (t':=tk) λb o e=>kp b o ?_ (xj _ e),rfl,q⟩;intro z;rw[xr.mp z]at e;exact Pg _ (X3 e)
end
section
variable{X:Cx}{ρ:Rho}{a b e:aj}{d d':D}{ds ds':List D}{i j:Int}{pos p p1 p2:aM}{k:Nat}{x:ah}{P:Po}
theorem DE.eqD(hu:X.A.units+100<aV)(ha:DT X ρ a d)(hb:DT X ρ b d')(hd:d.dep<=100)(nd:d'.dep<10000):DE X ρ (.Compare a [.Eq] [b] pos) (.bl (deq d d')):=λσ H Q R q =>(Jw (j74 hu) peS peS (zf _)).to (ha σ H _ R λv H1 g1 e1=>hb σ H1 _ (R.grow g1) λu H2 g2 e2=>⟨d,d',e1.mono g2,e2,hd,nd,q _ H2 (g1.trans g2) rfl⟩)
theorem DB.eqD(hu:X.A.units+100<aV)(ha:DT X ρ a d)(hb:DT X ρ b d')(hd:d.dep<=100)(nd:d'.dep<10000):DB X ρ (.Compare a [.Eq] [b] pos) (deq d d'):=λσ H Q R q =>(Jv (j74 hu) peS peS (zf _)).to (ha σ H _ R λv H1 g1 e1=>hb σ H1 _ (R.grow g1) λu H2 g2 e2=>⟨d,d',e1.mono g2,e2,hd,nd,_,rfl,q H2 (g1.trans g2)⟩)
theorem DB.neD(s:Bool)(hu:X.A.units+100<aV)(ha:DT X ρ a (D.seq s ds))(hb:DT X ρ b (D.seq s ds'))(hd:D.depL ds<=98)(nd:D.depL ds'<10000):DB X ρ (.Compare a [.NotEq] [b] pos) (!vp ds ds'):=λσ H Q R q =>(Jv (j72 hu) peS peS (zf _)).to (ha σ H _ R λv H1 g1 e1=>hb σ H1 _ (R.grow g1) λu H2 g2 e2=>⟨ds,ds',s,e1.mono g2,e2,hd,nd,_,rfl,q H2 (g1.trans g2)⟩)
theorem DB.notIn(s:Bool)(hu:X.A.units+100<aV)(ha:DT X ρ a d)(hb:DT X ρ b (D.seq s ds))(hd:D.depL ds<=98)(nd:d.dep<10000)(hm:aH .NotIn b=a4:=by with_unfolding_all rfl):DB X ρ (.Compare a [.NotIn] [b] pos) (!ds.any λe=>deq e d):=λσ H Q R q =>(Jv (Ec hu) peS peS hm).to (ha σ H _ R λv H1 g1 e1=>hb σ H1 _ (R.grow g1) λu H2 g2 e2=>⟨d,ds,s,e1.mono g2,e2,hd,nd,_,rfl,q H2 (g1.trans g2)⟩)
theorem DB.in(s:Bool)(hu:X.A.units+100<aV)(ha:DT X ρ a d)(hb:DT X ρ b (D.seq s ds))(hd:D.depL ds<=98)(nd:d.dep<10000)(hm:aH .In b=a4:=by with_unfolding_all rfl):DB X ρ (.Compare a [.In] [b] pos) (ds.any λe=>deq e d):=λσ H Q R q =>(Jv (j73 hu) peS peS hm).to (ha σ H _ R λv H1 g1 e1=>hb σ H1 _ (R.grow g1) λu H2 g2 e2=>⟨d,ds,s,e1.mono g2,e2,hd,nd,_,rfl,q H2 (g1.trans g2)⟩)
theorem DE.countT (hu:X.A.units+100<aV) (ha:DT X ρ a (.tup ds)) (hb:DT X ρ b d) (hd:D.depL ds<=97) (nd:d.dep<10000) (hbase:aI a "count" X.env (ay a X.env)=ay a X.env:=by rfl)
  (hfew:((aL p2 (a8 [b] X.env)).all (λx=>!x.1)&&(aT p2 (aD [] X.env)).all (λx=>x.1.isSome)
   && decide (([b]:List aj).length+([]:List aS).length+(if ([]:List aS).isEmpty then 0 else 1)<30))=a6:=by rfl) (hline:(p1.endLine==p2.line)=a6:=by rfl)
  (hs:a8 [b] X.env=(a4,ay b X.env)::a8 [] X.env:=by rfl):DE X ρ (.Call (.Attribute a "count" p1) [b] [] p2) (.int (ds.countP λe=>deq e d)):=λσ H Q R q =>
 (Rn PySem.F.plainAttrs_tuple i7 PySem.F.type_tuple_count (j78 hu) peS (jg peS jy hs) hbase hfew hline hs rfl).to (ha σ H _ R λv H1 g1 ⟨t,xs,e,sq,l⟩=>⟨by rw[e];exact .inr (.inl ⟨rfl,xs,sq⟩),hb σ H1 _ (R.grow g1) λu H2 g2 e2 =>
  ⟨t,xs,ds,d,u,e,rfl,g2.seqT sq,l.mono g2,e2,hd,nd,q _ H2 (g1.trans g2) rfl⟩⟩)
theorem DE.min (ha:DT X ρ a (.int i)) (hb:DT X ρ b (.int j)) (hm:X.mg "min" = a9) (hc:X.calm=a6:=by rfl) (hg:Gl X "min":=by rfl) (hs:a8 [a,b] X.env=(a4,ay a X.env)::a8 [b] X.env:=by rfl) (hs2:a8 [b] X.env=(a4,ay b X.env)::a8 [] X.env:=by rfl)
  (hpl:(aL pos (a8 [b] X.env)).any (·.1)=a4:=by rfl):DE X ρ (.Call (.Name "min" p) [a,b] [] pos) (.int (if j<i then j else i)):=λσ H Q R q =>
 (J0 (j8g hc) hg hm mD (jg peS (jg peS jy hs2) hs) (by decide) (by decide) hs hpl).to (ha σ H _ R λv H1 g1 e1=>hb σ H1 _ (R.grow g1) λu H2 g2 e2=>⟨i,j,by rw[show v=.int i from e1,show u=.int j from e2],q _ H2 (g1.trans g2) rfl⟩)
theorem Di{K:k9d}{H:Hp}:∀{bs:List Bool}{xs:List V},j4 K H (bs.map D.bl) xs->xs=bs.map V.bl
 |[],_,h=>h
 |b::bs,_,⟨x,r,e,h,l⟩=>by subst e;cases(show x=.bl b from h);rw[Di l];rfl
theorem DE.all {bs:List Bool} (ha:DT X ρ a (.lst (bs.map D.bl))) (hm:X.mg "all" = a9) (hc:X.calm=a6:=by rfl) (hg:Gl X "all":=by rfl) (hs:a8 [a] X.env=[(a4,ay a X.env)]:=by rfl):DE X ρ (.Call (.Name "all" p) [a] [] pos) (.bl (bs.all id)):=λσ H Q R q =>(J0 (j38 hc) hg hm boot_all (jg peS jy hs) (by decide) (by decide) hs).to (ha σ H _ R λv H1 g1 ⟨l,xs,e,sq,en⟩=>⟨l,bs,by rw[e],by rw[Di en]at sq;exact sq,q _ H1 g1 rfl⟩)
def jgo(X:Cx)(e:Option aj):TO:=λσ H Q=>∀pins s,Inv X pins σ H s->ar (ax X.prog X.w) X.A (evalPart e X.env) (λu s'=>∃o H',Inv X pins σ H' s'/\fe u o/\Q o H') X.xe s
theorem poS{e:Option aj}:PO X e (jgo X e):=λpins s σ H Q I h=>h pins s I
def DP(X:Cx)(ρ:Rho)(e:Option aj)(o:Option Int):Prop:=∀σ H Q,Rep X.K ρ σ H->(∀H',j0 H H'->Q o H')->jgo X e σ H Q
theorem DP.none:DP X ρ a9 a9:=λσ H Q R q pins s I=>jdy pins s σ H Q I (q H (j0.refl H))
theorem DP.some(h:DT X ρ e (.int i)):DP X ρ (a3 e) (a3 i):=λσ H Q R q pins s I=>jdx peS pins s σ H Q I (h σ H _ R λv H1 g1 e1=>⟨i,e1,q H1 g1⟩)
variable{lo hi:Option aj}{l u:Option Int}
theorem DS.setItem(m:Nat){t:ae}{n:Nat}(hk:ρ[m]?=a3 (.own t ds))(he:DE X ρ e d)(hi:DT X ρ a (.int i))(hx:ixN ds.length i=a3 n)(h:P.nx (ρ.set m (.own t (ds.set n d))))
  (hN:X.N[m]?=a3 x:=by rfl) (hv:Vis X.env.scope x:=by first|exact aU rfl|exact br (aU rfl)|exact br (br rfl)) (hd:(x==k9h)=a4:=by decide) (hcd:(x==k9i)=a4:=by decide)
  (ha:∀v,cU (.Subscript (.Name x p) a p1) X.env v=(do
   let ov <-cF [v] (ay (.Name x p) X.env)
   let iv <-cF [v,ov] (ay a X.env)
   fY p1
   cF [v,ov,iv] (setItem ov iv v)
   release [v,ov,iv] []):=by intro _;rfl)
  (hs:bQ [.Subscript (.Name x p) a p1] e pos.line X.env=pure a4:=by rfl) (hw:bR [.Subscript (.Name x p) a p1] e X.env=pure a9:=by rfl)
  (h1:(bj [.Subscript (.Name x p) a p1] X.env).map (·.2)=[cU (.Subscript (.Name x p) a p1) X.env]:=by rfl):DS X ρ (.Assign [.Subscript (.Name x p) a p1] e pos) P:=λσ H E R q=>by
 refine(j6p peS (jhb (vo hN hv hd hcd) peS set_list ha) hs hw h1).to (he σ H _ R λv H1 g1 e1=>?_);obtain⟨hσ,xs,mm,en⟩:=(R.grow g1).own m t ds hk;refine⟨_,hσ,hi σ H1 _ (R.grow g1) λu H2 g2 e2=>⟨t,xs,i,n,rfl,e2,g2 _ _ mm,by rw[en.length];exact hx,?_⟩⟩;exact q.nx _ σ _ h ((R.grow (g1.trans g2)).upd_own hk ((en.mono (jh g2)).set (e1.mono (jh g2)))) (Ra (σ:=σ) hk (g1.trans g2))
end
def jgj(K:k9d)(S:List D->List D->D->List D->Prop):Sp:=λvs H Q _=>∃(a:ae)(ds l:List D)(d:D)(l':List D)(ws xs:List V),vs=ws++[.ref a]/\TabOk K H/\H a=a3 (.lst xs)/\j4 K (del H [a]) l xs/\j4 K (del H [a]) ds ws/\S ds l d l' /\
 ∀v H' ys,j0 (del H [a]) (del H' [a])->H' a=a3 (.lst ys)->j4 K (del H' [a]) l' ys->Enc K (del H' [a]) d v->Q v H'
section
variable{X:Cx}{ρ ρ1:Rho}{e e1 e2 e3 c:aj}{st:aX}{rest sa:List aX}{a:ae}{d d1 d2 d3:D}{l l':List D}{k i:Nat}{x y f:ah}{p p1 p2 p3 p4 pos:aM}
end
noncomputable def j6r(eC n:Int):Int:=if 0<n then n%60 else(eC*48271+11)%2147483647/16
noncomputable def Fq(eC n:Int):Int:=if 0<n then n%60/6%2 else(eC*48271+11)%2147483647/128%2
noncomputable def Bm(n:Int):Int:=if 0<n then n/60 else n
noncomputable def W4:Nat->List ah->Int->Int->D×Int
 |0,_,eC,n=>(.tup [.str "tell",.int (Fq eC n)],Bm n)
 |k+1,ws,eC,n=>match ws[(j6r eC n%ws.length).toNat]? with
  |none=>(.tup [.str "tell",.int (Fq eC n)],Bm n)
  |some y=>if j6r eC n%6=0 then(.tup [.str "tell",.int (Fq eC n)],Bm n)
   else(.tup [.str "ask",.str y,(W4 k (ws.filter λz=>!(z==y)) ((eC*48271+11)%2147483647*3+1) (Bm n)).1,
     (W4 k (ws.filter λz=>!(z==y)) ((eC*48271+11)%2147483647*5+2) (W4 k (ws.filter λz=>!(z==y)) ((eC*48271+11)%2147483647*3+1) (Bm n)).2).1],
    (W4 k (ws.filter λz=>!(z==y)) ((eC*48271+11)%2147483647*5+2) (W4 k (ws.filter λz=>!(z==y)) ((eC*48271+11)%2147483647*3+1) (Bm n)).2).2)
def jc7(ds l:List D)(d:D)(l':List D):Prop:=∃(ws:List ah)(eC n:Int)(k:Nat),ds=[.lst (ws.map D.str),.int eC,.int k]/\l=[.int n]/\k<=5/\ws.length<=60/\d=(W4 k ws eC n).1/\l'=[.int (W4 k ws eC n).2]
section
variable{P:av}{w:az}{K:k9d}{mg:k9g}{base:aC}{x qual:ah}{st:aX}{f:ae}{fd:aN}{N ps:List ah}{k:Nat}
end
def Fz(o:Option HO):Prop:=(∃xs,o=a3 (.lst xs))\/∃oc v,o=a3 (.frz oc (.own 0))/\oc.data=.cell v
theorem j7o{P:av}{w:az}{K:k9d}{mg:k9g}{base:aC}{A0:aB}{outer:List dR}{s:af}{H:Hp}{A:List ae}(e0:Env0 P w K mg base A0 outer s H)(hA:∀a∈A,Fz (H a)) :
  Env0 P w K mg base A0 outer s (del H A)/\∀(Q:VK)(E E':XK)(r:fO)(s':af),CR CX0 outer P w (del H A) s (λv F=>(∀a∈A,F a=a9)->Q v (mrg A H F)) E r s'->CR CX0 outer P w H s Q E' r s':=by
 have nd:∀{b:ae},H b=a9->del H A b=a9:=λ{b} q=>by
  by_cases z:b∈A
  .exact qt z
  .rw[j6 z];exact q
 have out:∀{b:ae}{o:HO},H b=a3 o->(∀ys,o≠.lst ys)->(∀oc v,o=.frz oc (.own 0)->oc.data≠.cell v)->b∉A:=λ{b o} q z z2 y=>by
  rcases hA b y with ⟨ys,e'⟩|⟨oc,v,e',d⟩
  .rw[q]at e';cases e';exact z ys rfl
  .rw[q]at e';cases e';exact z2 _ _ rfl d
 have e1:Env0 P w K mg base A0 outer s (del H A):=⟨e0.frames,e0.mod,λb o q=>⟨(e0.bs b o q).1,nd (e0.bs b o q).2⟩,e0.bsz,e0.funs,λb hb=>nd (e0.frf b hb),
  λa o q=>by
   obtain⟨_,q⟩:=of_del q
   exact jj.stay (e0.hok a o q) (λb u _ z=>z) (λb z=>by rw[j6 (out z (λ_ y=>by cases y) λ_ _ y=>by cases y)];exact z) (λb xs z=>by rw[j6 (out z (λ_ y=>by cases y) λ_ _ y=>by cases y)];exact z)
    (λb o ⟨vs,d⟩ z=>by rw[j6 (out z (λ_ y=>by cases y) λ_ _ y d'=>by cases y;rw[d]at d';cases d')];exact z),e0.bare⟩
 refine⟨e1,λQ E E' r s' hq=>?_⟩;cases r with
 |error e=>exact(show False from hq).elim
 |ok fl =>
  cases fl with
  |next=>exact(show False from hq).elim
  |brk=>exact(show False from hq).elim
  |cont=>exact(show False from hq).elim
  |ret u =>
   obtain⟨v,H',os,bare,un,hok',rel,q⟩:=(show CE outer P w (del H A) s _ u s' from hq)
   have kept:∀a∈A,∃o,s.heap.get? a=a3 o/\s'.heap.get? a=a3 o/\H' a=a9:=λa ha=>by
    have nf:a∉frs outer:=λy=>by have z:=e0.frf a y;rcases hA a ha with ⟨xs,e⟩|⟨oc,v,e,_⟩<;>(rw[z]at e;cases e)
    have ob:∃o,s.heap.get? a=a3 o:=by
     rcases hA a ha with ⟨xs,e⟩|⟨oc,v,e,_⟩
     .obtain⟨_,its,n,_,z⟩:=(show jj P w H s.heap a (.lst xs)from e0.hok _ _ e);exact⟨_,z⟩
     .exact⟨_,(show jj P w H s.heap a (.frz oc (.own 0))from e0.hok _ _ e).1⟩
    obtain⟨o,z⟩:=ob;exact⟨_,z,un.keep a _ z (qt ha) nf (by simp),un.free a _ z (qt ha) (by simp)⟩
   have hF:∀a∈A,H' a=a9:=λa ha=>let ⟨_,_,_,z⟩:=kept a ha;z;have outF:∀{b:ae}{o:HO},H' b=a3 o->b∉A:=λ{b o} e z=>by rw[hF b z]at e;cases e
   refine⟨v,mrg A H H',os,bare,?_,λa o e=>?_,rel,q hF⟩
   .exact{
     keep:=λb o e n=>un.keep b o e (nd n)
     slot:=λb o e n=>un.slot b o e (nd n)
     free:=λb o e n hx=>by
      by_cases z:b∈A
      .rw[Jh z];exact n
      .rw[jm z];exact un.free b o e (nd n) hx
     there:=un.there
     tups:=λb xs e=>by
      have z:=un.tups b xs (by rw[j6 (out e (λ_ y=>by cases y) λ_ _ y=>by cases y)];exact e)
      rw[jm (outF z)];exact z
     frzs:=λb o u e=>by
      by_cases y:b∈A
      .rw[Jh y];exact e
      .have z:=un.frzs b o u (by rw[j6 y];exact e)
       rw[jm y];exact z
     tbls:=λb ps e=>by
      obtain⟨more,z⟩:=un.tbls b ps (by rw[j6 (out e (λ_ y=>by cases y) λ_ _ y=>by cases y)];exact e)
      exact⟨more,by rw[jm (outF z)];exact z⟩ }
   .by_cases z:a∈A
    .rw[Jh z]at e;obtain⟨o',q1,q2,_⟩:=kept a z;rcases hA a z with ⟨xs,e'⟩|⟨oc,v,e',_⟩
     .rw[e']at e;cases e;obtain⟨hl,its,n,r,y⟩:=(show jj P w H s.heap a (.lst xs)from e0.hok _ _ e')
      rw[y]at q1;cases q1;exact⟨hl,its,n,r,q2⟩
     .rw[e']at e;cases e;have y:=(show jj P w H s.heap a (.frz oc (.own 0))from e0.hok _ _ e').1;rw[y]at q1;cases q1;exact⟨q2,_,q2⟩
    .rw[jm z]at e;refine jj.stay (hok' a o e) (λb u _ q=>q) (λb q=>?_) (λb xs q=>?_) (λb _ _ q=>?_)
     .rw[jm (outF q)];exact q
     .rw[jm (outF q)];exact q
     .rw[jm (outF q)];exact q
structure LamScope(N ps:List ah)(sc:b9):Prop where
 kind:sc.kind=.function
 co:sc.isCoroutine=a4
 gen:sc.isGenerator=a4
 nd:N.Nodup
 nm:N=zx sc++ps
 lfr:∀x∈zx sc,sc.names.lookup x=a3 .free
 lps:∀x∈ps,sc.names.lookup x=a3 .local
 nocell:∀y∈sc.names,y.2≠.cell
 cov:∀x,sc.names.lookup x=a3 .free->x∈zx sc
noncomputable def W9(P:av)(w:az)(K:k9d)(mg:k9g)(base:aC)(N:List ah)(qual:ah)(scope:b9)(a:ae)(cd:aa)(cl:List (ah×ae))(A:aB)(outer:List dR)(s:af)(H:Hp):Cx where
 prog:=P
 w:=w
 K:=K
 mg:=mg
 base:=base
 A:=A.deeper (W.envX qual scope s.heap.objs.size a cd cl)
 N:=N
 s₀:=s
 H₀:=H
 env:=W.envX qual scope s.heap.objs.size a cd cl
 outer:=outer
 stack:=W.envX qual scope s.heap.objs.size a cd cl::outer
 ex:=[]
 calm:=a6
 fn:=λ_=>a4
 pn:=[]
 xe:=λ_ _=>False
def Q6(h:aC):List ae->List V->Prop
 |[],vs=>vs=[]
 |c::cs,vs=>∃v r u,vs=v::r/\h.IsCell c (a3 u)/\RelV v u/\Q6 h cs r
theorem Q6.get{h:aC}:∀{cs:List ae}{vs:List V}{i:Nat}{v:V},Q6 h cs vs->vs[i]?=a3 v->∃c u,cs[i]?=a3 c/\h.IsCell c (a3 u)/\RelV v u
 |[],_,i,v,e,q=>by cases e;simp at q
 |c::cs,_,0,v,⟨x,r,u,e,h1,h2,_⟩,q=>by subst e;simp at q;subst q;exact⟨c,u,rfl,h1,h2⟩
 |c::cs,_,i+1,v,⟨x,r,u,e,_,_,l⟩,q=>by subst e;obtain⟨c',u',z1,z2⟩:=Q6.get l (i:=i) (by simpa using q);exact⟨c',u',by simpa using z1,z2⟩
theorem Q6.length{h:aC}:∀{cs:List ae}{vs:List V},Q6 h cs vs->vs.length=cs.length
 |[],_,e=>by cases e;rfl
 |c::cs,_,⟨x,r,u,e,_,_,l⟩=>by subst e;simp[l.length]
theorem Q6.all{h:aC}:∀{cs:List ae}{vs:List V},Q6 h cs vs->∀c∈cs,∃v,h.IsCell c v
 |c::cs,_,⟨x,r,u,e,h1,_,l⟩,b,hb=>(xn.mp hb).elim (λz=>z▸⟨_,h1⟩) (l.all b)
theorem lookup_at{α:Type}:∀{l:List (ah×α)} {i:Nat} {p:ah×α},(l.map (·.1)).Nodup->l[i]?=a3 p->l.lookup p.1=a3 p.2
 |[],i,p,_,h=>by simp at h
 |q::l,0,p,_,h=>by simp at h;subst h;rw[Xp,beq_self_eq_true]
 |q::l,i+1,p,nd,h=>by rw[xm]at nd;rw[tu]at h;have ne:(p.1==q.1)=a4:=beq_eq_false_iff_ne.mpr λz=>(Xi.mp nd).1 (z▸eS (Xf h));rw[Xp,ne];exact lookup_at (Xi.mp nd).2 h
theorem j5b{ps:List ah}{us:List aa}{i:Nat}{p:ah}{u:aa}(nd:ps.Nodup)(hl:us.length=ps.length)(h1:ps[i]?=a3 p)(h2:us[i]?=a3 u):(ps.zip us).reverse.lookup p=a3 u:=by
 have hm:(p,u)∈(ps.zip us).reverse:=List.mem_reverse.mpr (Xf (i:=i) (by rw[List.getElem?_zip_eq_some];exact⟨h1,h2⟩));have e:((ps.zip us).reverse.map (·.1))=ps.reverse:=by rw[List.map_reverse,List.map_fst_zip nofun]
 obtain⟨j,hj⟩:=List.mem_iff_getElem?.mp hm;exact lookup_at (by rw[e];exact(List.reverse_perm ps).nodup_iff.mpr nd) hj
section
variable{P:av}{w:az}{K:k9d}{mg:k9g}{base:aC}{A:aB}{outer:List dR}{s:af}{H:Hp}{x:ah}{a c:ae}{tx:Tx}{cl:List (ah×ae)}{pm ctv:aa}{cvs vs:List V}{us:List aa}{N ps:List ah}{k:Nat}{Q:VK}{E:XK}
theorem jf2{h1:aC}{tk:Nat}(hh:A.handled=a9)(e0:Env0 P w K mg base A outer s H)(S:LamScope N ps tx.2.2)(hn:cl.map (·.1)=zx tx.2.2)(nd:(cl.map (·.2)).Nodup)(hc:Q6 s.heap (cl.map (·.2)) cvs)(hf:∀q∈cl.map (·.2),H q=a9)(rv:Vals vs us)(hl:vs.length=ps.length)
  (ns:h1.Ns s.heap.objs.size λy=>(ps.zip us).reverse.lookup y) (kp:∀b o,s.heap.get? b=a3 o->h1.get? b=a3 o) :
  Inv (W9 P w K mg base N (jx x) tx.2.2 a (.ref c) cl A outer s H) [] (start N (cvs++vs)) H { s with heap:=h1,toks:=tk }:=by
 have ndN:(zx tx.2.2).Nodup:=by have:=S.nd;rw[S.nm]at this;exact(gj.mp this).1
 have ndP:ps.Nodup:=by have:=S.nd;rw[S.nm]at this;exact(gj.mp this).2.1
 have ndC:(cl.map (·.1)).Nodup:=by rw[hn];exact ndN
 have lenC:cvs.length=(zx tx.2.2).length:=by rw[hc.length,<-hn,km,km]
 have lenN:N.length=(cvs++vs).length:=by rw[S.nm,Xa,Xa,lenC,hl]
 have noA:∀b:ae,b∉(W9 P w K mg base N (jx x) tx.2.2 a (.ref c) cl A outer s H).ex:=λb z=>absurd (show b∈([]:List ae)from z) (by simp);have mem2:∀{y:ah}{q:ae},cl.lookup y=a3 q->q∈cl.map (·.2):=λ{y q} h=>Xm.mpr ⟨(y,q),Pz h,rfl⟩;have inj:∀(l:List (ah×ae)),(l.map (·.2)).Nodup->∀y z q,(y,q)∈l->(z,q)∈l->y=z:=λl=>by
  induction l with
  |nil=>intro _ y z q h;cases h
  |cons p r ih =>
   intro nd y z q h1 h2;rw[xm]at nd;obtain⟨n1,n2⟩:=Xi.mp nd;rcases xn.mp h1 with e1|h1<;>rcases xn.mp h2 with e2|h2
   .rw[<-e1]at e2;cases e2;rfl
   .exact absurd (Xm.mpr ⟨(z,q),h2,by rw[<-e1]⟩) n1
   .exact absurd (Xm.mpr ⟨(y,q),h1,by rw[<-e2]⟩) n1
   .exact ih n2 y z q h1 h2
 refine⟨⟨e0.mod,S.kind,rfl,rfl,xu _,λy z q h1 h2=>inj cl nd y z q (Pz h1) (Pz h2),λy hy=>?_,λy q h=>(by cases h),λ_=>hh,Around.frames_deeper e0.frames,.inr ⟨rfl,rfl⟩,λb z=>absurd z (noA b),e0.bs,e0.bsz,λb _ _=>noA b,λb z=>absurd z (noA b),e0.funs,e0.frf⟩,
  rfl,e0.bare,Un.kept kp,⟨_,ns,λi y v h1 h2 h3=>?_⟩,λy q h=>?_,e0.hok.fresh (xu _),λy q h=>hf q (mem2 h),λp hp=>absurd (show p∈([]:k9f)from hp) (by simp),e0.hok.kept kp,?_⟩
 .have hy:tx.2.2.names.lookup y=a3 .cell\/tx.2.2.names.lookup y=a3 .free:=hy;rcases hy with hy|hy
  .exact absurd rfl (S.nocell _ (Pz hy))
  .have m:=S.cov y hy;rw[<-hn]at m;obtain⟨p,hp,e⟩:=Xm.mp m;obtain⟨i,hi⟩:=List.mem_iff_getElem?.mp hp;exact⟨p.2,by have:=lookup_at ndC hi;rw[e]at this;exact this⟩
 .have h1:N[i]?=a3 y:=h1;have hi:i<(cvs++vs).length:=by rw[<-lenN];exact(X8.mp h1).1
  have ha:(cvs++vs)[i]?=a3 v:=by
   unfold start at h2;rw[Px (by simpa using hi),xx]at h2;cases e:(cvs++vs)[i]? with
   |none=>rw[e]at h2;cases h2
   |some a=>rw[e]at h2;cases h2;rfl
  rw[S.nm]at h1;by_cases z:i<cvs.length
  .rw[Px z]at ha;rw[Px nofun]at h1;obtain⟨q,u,e1,e2,r⟩:=hc.get ha;refine⟨u,r,.inr ⟨.inr (S.lfr y (Xf h1)),q,?_,e2.keeps kp⟩⟩;rw[<-hn,xx]at h1;rw[xx]at e1;obtain⟨p,hp,ep⟩:=Xw.mp h1;rw[hp]at e1;have:=lookup_at ndC hp;rw[ep]at this;show cl.lookup y=a3 q;rw[this];exact e1
  .rw[bT nofun]at ha h1;rw[<-lenC]at h1;obtain⟨u,hu,r⟩:=rv.get ha;exact⟨u,r,.inl ⟨S.lps y (Xf h1),j5b ndP (by rw[<-rv.length,hl]) h1 hu⟩⟩
 .obtain⟨v,z⟩:=hc.all q (mem2 h);exact⟨v,z.keeps kp⟩
 .unfold start;show _=N.length;rw[Xa,km,Xg];omega
theorem ja2 (hr:Room (k+1) A) (e0:Env0 P w K mg base A outer s H) (ho:s.heap.get? a=a3 (W.kla_obj "<lambda>" (jx x) tx.1 tx.2.1 tx.2.2 cl pm c ctv)) (hcd:s.heap.CodeRec (.ref c) (jx x))
  (S:LamScope N ps tx.2.2) (hn:cl.map (·.1)=zx tx.2.2) (nd:(cl.map (·.2)).Nodup) (hc:Q6 s.heap (cl.map (·.2)) cvs) (hf:∀q∈cl.map (·.2),H q=a9)
  (hb:fb (W.kla_fn "<lambda>" (jx x) tx.1 tx.2.1 tx.2.2 cl pm (.ref c) ctv) ⟨us,[]⟩=pure (ps.zip us)) (rv:Vals vs us) (hl:vs.length=ps.length)
  (body:Room k (W9 P w K mg base N (jx x) tx.2.2 a (.ref c) cl A outer s H).A->Qu (W9 P w K mg base N (jx x) tx.2.2 a (.ref c) cl A outer s H) tx.2.1 (start N (cvs++vs)) H Q) :
  cG (ax P w) A (.call (.ref a) ⟨us,[]⟩) (CR CX0 outer P w H s Q E) s:=by
 have lim:s.heap.NoLimit:=e0.mod.nolimit.keeps λb o e=>(e0.bs b o e).1;refine W.kla_callFunE (by have:=hr.dp;omega) ho rfl S.co S.gen rfl hcd ?_;rw[hb];refine ai (wpAny_newFunctionEnv S.nocell (λy hy=>S.lps y.1 (dY (a:=y.1) (b:=y.2) hy).1) (λh1 ns sb=>⟨lim.fresh _ sb,?_⟩) S.kind);show cG _ _ (.expr tx.2.1 (W.envX (jx x) tx.2.2 s.heap.objs.size a (.ref c) cl)) _ _;have kp:∀b o,s.heap.get? b=a3 o->h1.get? b=a3 o:=λb o e=>sb.extBut b o (Xc (X3 e)) (xj _ e);have I:=jf2 (x:=x) (a:=a) (c:=c) (tk:=s.toks+(ps.zip us).length) hr.hd e0 S hn nd hc hf rv hl ns kp;refine W.kla_codeExpr (bL (body (hr.deeper _) [] _ I) (λu s' ⟨v,H',J,r,q⟩=>?_) λ_ _ z=>z.elim);exact⟨v,H',J.os,J.bare,J.base,J.hok,r,q⟩
end
mutual
noncomputable def noFn:D->Bool
 |.fn _ _=>a4
 |.tup ds=>Jg ds
 |.lst ds=>Jg ds
 |.dct _ ds=>Jg ds
 |_=>a6
noncomputable def Jg:List D->Bool
 |[]=>a6
 |d::ds=>noFn d&&Jg ds
end
section
variable{K:k9d}{H:Hp}{A:List ae}
def Cel(H:Hp)(A:List ae):Prop:=∀a∈A,∃oc v,H a=a3 (.frz oc (.own 0))/\oc.data=.cell v
theorem Cel.out(hA:Cel H A){b:ae}{o:HO}(q:H b=a3 o)(h:∀oc,o≠.frz oc (.own 0)):del H A b=a3 o:=by rw[j6];exact q;intro y;obtain⟨oc,v,e,_⟩:=hA b y;rw[q]at e;exact h oc (aw e)
theorem Cel.seqT(hA:Cel H A){a:ae}{xs:List V}(h:SqT K H a xs):SqT K (del H A) a xs:=by
 rcases h with (h|⟨o,h⟩)|h
 .exact .inl (.inl (hA.out h λ_ z=>by cases z))
 .exact .inl (.inr ⟨o,hA.out h λ_ z=>by cases z⟩)
 .exact .inr h
theorem Cel.seq(hA:Cel H A){a:ae}{xs:List V}(h:SqL K H a xs):SqL K (del H A) a xs:=by
 rcases h with (h|⟨o,h⟩)|h
 .exact .inl (.inl (hA.out h λ_ z=>by cases z))
 .exact .inl (.inr ⟨o,hA.out h λ_ z=>by cases z⟩)
 .exact .inr h
mutual
theorem Enc.noc(hA:Cel H A):∀{d:D}{v:V},noFn d=a6->Enc K H d v->Enc K (del H A) d v
 |.non,_,_,h=>h
 |.bl _,_,_,h=>h
 |.int _,_,_,h=>h
 |.str _,_,_,h=>h
 |.tup _,_,n,⟨a,xs,e,q,l⟩=>⟨a,xs,e,hA.seqT q,j4.noc hA (by simpa [noFn]using n) l⟩
 |.lst _,_,n,⟨a,xs,e,q,l⟩=>⟨a,xs,e,hA.seq q,j4.noc hA (by simpa [noFn]using n) l⟩
 |.dct _ _,_,n,⟨a,xs,ep,vs,e,q,ek,kt,rv,l⟩=>⟨a,xs,ep,vs,e,hA.out q (λ_ z=>by cases z),ek,λx hx=>hA.seqT (kt x hx),rv,j4.noc hA (by simpa [noFn]using n) l⟩
 |.sct _,_,_,⟨a,e,q⟩=>⟨a,e,hA.out q λ_ z=>by cases z⟩
 |.fn _ _,_,n,_=>by cases n
theorem j4.noc(hA:Cel H A):∀{ds:List D}{xs:List V},Jg ds=a6->j4 K H ds xs->j4 K (del H A) ds xs
 |[],_,_,h=>h
 |d::ds,_,n,⟨x,r,e,h,l⟩=>by rw[Jg,Xd]at n;exact⟨x,r,e,Enc.noc hA n.1 h,j4.noc hA n.2 l⟩
end
theorem vy.cel:∀{cs:List ae}{vs:List V},vy H cs vs->Cel H cs
 |[],_,_=>λ_ h=>nomatch h
 |c::cs,_,⟨v,r,o,u,e,h,d,rv,l⟩=>λa ha=>(xn.mp ha).elim (λz=>⟨o,_,z▸h,d⟩) (l.cel a)
theorem vy.inn{P:av}{w:az}{h:aC}(ok:HOk P w H h):∀{cs:List ae}{vs:List V},vy H cs vs->Q6 h cs vs
 |[],_,e=>e
 |c::cs,_,⟨v,r,o,u,e,q,d,rv,l⟩=>⟨v,r,u,e,⟨o,(show jj P w H h c (.frz o (.own 0))from ok _ _ q).1,d⟩,rv,l.inn ok⟩
theorem vy.of_del{B:List ae}:∀{cs:List ae}{vs:List V},vy (del H B) cs vs->vy H cs vs:=λh=>h.mono jt
theorem TabOk.fz(h:TabOk K H)(hA:∀a∈A,Fz (H a)):TabOk K (L2.del H A):=λx hx c P z=>by have q:=h x hx c P z;rw[j6];exact q;intro y;rcases hA _ y with ⟨xs,e⟩|⟨oc,v,e,_⟩<;>(rw[q]at e;cases e)
end
def j0m(P:av)(w:az)(K:k9d)(mg:k9g)(base:aC)(k:Nat)(x:ah)(S:List D->D->Prop):Prop :=
 ∀(A:aB)(outer:List dR)(s:af)(H:Hp)(a:ae)(B:List ae)(cs ds:List D) (d:D) (vs:List V) (us:List aa) (Q:VK) (E:XK),Room k A->Env0 P w K mg base A outer s H->TabOk K H->(∀b∈B,∃xs,H b=a3 (.lst xs)) ->
  Enc K (del H B) (.fn x cs) (.ref a)->j4 K (del H B) ds vs->Jg ds=a6->S (cs++ds) d->Vals vs us->(∀v H',j0 H H'->Enc K (del H' B) d v->Q v H')->cG (ax P w) A (.call (.ref a) ⟨us,[]⟩) (CR CX0 outer P w H s Q E) s
section
variable{P:av}{w:az}{K:k9d}{mg:k9g}{base:aC}{k:Nat}{x:ah}{S:List D->D->Prop}{tx:Tx}{N ps:List ah}
theorem jia(ht:Z5 K x=a3 tx)(Sc:LamScope N ps tx.2.2)(hl:∀ds d,S ds d->ds.length=N.length)
  (hb:∀(cl:List (ah×ae)) (pm:aa) (c:ae) (ctv:aa) (us:List aa),us.length=ps.length->fb (W.kla_fn "<lambda>" (jx x) tx.1 tx.2.1 tx.2.2 cl pm (.ref c) ctv) ⟨us,[]⟩=pure (ps.zip us))
  (hbody:∀(a c:ae)(cl:List (ah×ae)) (A:aB) (outer:List dR) (s:af) (H:Hp),cl.map (·.1)=zx tx.2.2->Room k (W9 P w K mg base N (jx x) tx.2.2 a (.ref c) cl A outer s H).A->∀ds d,S ds d->DT (W9 P w K mg base N (jx x) tx.2.2 a (.ref c) cl A outer s H) (zb N ds) tx.2.1 d):j0m P w K mg base (k+1) x S:=by
 intro A outer s H a B cs ds d vs us Q E hr e0 tb hB en ea nf hS rv q;obtain⟨a',c,tx',cl,cvs,e,L,l⟩:=en;cases e;have et:tx'=tx:=aw (L.tx.symm.trans ht);subst et;have cs_at:vy H (cl.map (·.2)) cvs:=L.cs.of_del;have hA:∀b∈B++cl.map (·.2),Fz (H b):=λb hb=>(Pn.mp hb).elim (λz=>.inl (hB b z)) λz=>.inr (cs_at.cel b z);obtain⟨e1,back⟩:=j7o e0 hA;obtain⟨pm,ctv,hfo⟩:=L.fo;obtain⟨oc,hco,vs0,t0,hd0,hv0⟩:=L.co;have ho:=(show jj P w H s.heap a (.frz _ (.own 0))from e0.hok _ _ (of_del hfo).2).1;have hcd:s.heap.CodeRec (.ref c) (jx x):=⟨c,oc,vs0,t0,rfl,(show jj P w H s.heap c (.frz oc (.own 0))from e0.hok _ _ (of_del hco).2).1,hd0,hv0⟩
 have ll:=l.length;have la:=ea.length;have hlen:=hl _ _ hS;have lenC:(cl.map (·.2)).length=(zx tx'.2.2).length:=by rw[<-L.nm,km,km]
 have lcv:=(cs_at.inn e0.hok).length;have hlv:vs.length=ps.length:=by rw[Sc.nm,Xa,Xa]at hlen;omega
 have celB:Cel (del H B) (cl.map (·.2)):=L.cs.cel;have ea1:j4 K (del H (B++cl.map (·.2))) ds vs:=by rw[<-Z6];exact ea.noc celB nf
 have l1:j4 K (del H (B++cl.map (·.2))) cs cvs:=by rw[<-Z6];exact l
 refine bh (ja2 (E:=E) (Q:=λv F=>(∀a∈B++cl.map (·.2),F a=a9)->Q v (mrg (B++cl.map (·.2)) H F)) hr e1 ho hcd Sc L.nm L.nd (cs_at.inn e0.hok) (λb hb=>qt (Xo _ hb)) (hb cl pm c ctv us (by rw[<-rv.length];exact hlv)) rv hlv λhrm=>?_) λr s' h=>back Q E E r s' h;refine hbody a c cl A outer s _ L.nm hrm (cs++ds) d hS _ _ _ (W2 (tb.fz hA) (l1.append ea1)) λv F g en' hF=>q v _ (Fp g) (en'.mono λb o z=>?_);have nb:b∉B++cl.map (·.2):=λy=>by rw[hF b y]at z;cases z
 rw[j6 (λy=>nb (bS _ y)),jm nb];exact z
end
section
variable{X:Cx}{ρ:Rho}{e:aj}{es:List aj}{d:D}{cs ds:List D}{pos p:aM}{x y:ah}{i k:Nat}
theorem DE.callV {S:List D->D->Prop} (c:j0m X.prog X.w X.K X.mg X.base k x S) (hr:Room k X.A) (hi:ρ[i]?=a3 (.val (.fn x cs))) (ha:DA X ρ (e::es) ds) (nf:Jg ds=a6) (hS:S (cs++ds) d) (hN:X.N[i]?=a3 y) (hv:Vis X.env.scope y) (hd:(y==k9h)=a4) (hcd:(y==k9i)=a4)
  (he:a8 (e::es) X.env=(a4,ay e X.env)::a8 es X.env) (hpl:(aL pos (a8 es X.env)).any (·.1)=a4):DE X ρ (.Call (.Name y p) (e::es) [] pos) d:=λσ H Q R q pins s I=>by
 obtain⟨v,hσ,en⟩:=R.val i _ hi;obtain⟨a,c0,tx,cl,cvs,ev,L,l⟩:=id en;subst ev;refine aG (thn (vo hN hv hd hcd pins s σ H (λv' H'=>v'=.ref a/\H'=H) I ⟨_,hσ,rfl,rfl⟩) λu s1 ⟨v',H',I1,r1,e1,e2⟩=>?_);subst e1 e2;cases(show u=aF a from r1);obtain⟨pm,ctv,hfo⟩:=L.fo;have fnAt:∀{H2:Hp}{s2:af},Inv X pins σ H2 s2->j0 H' H2->PySem.W.FnAt a s2.heap:=λ{H2 s2} I2 g=>⟨_,_,_,_,(show jj X.prog X.w H2 s2.heap a (.frz _ (.own 0))from I2.hok _ _ (g _ _ (of_del hfo).2)).1⟩
 refine W.callWith_F (fnAt I1 (j0.refl _)) (thn (ha σ H' (λvs H2=>j0 H' H2/\j4 X.K (del H2 (owns ρ)) ds vs) R (λvs H2 g z=>⟨g,z⟩) pos pins s1 I1) λus s2 ⟨vs,H2,I2,rv,g,ea⟩=>⟨fnAt I2 g,?_⟩) he hpl;refine eL (bh (c X.A X.stack s2 H2 a (owns ρ) cs ds d vs us Q E0 hr I2.env0 (R.tb.mono g) (R.grow g).owned (en.mono (jh g)) ea nf hS rv λv H3 g3 z=>q v H3 (g.trans g3) z) λr s' hq=>?_);cases r with
 |error e=>exact(show False from hq).elim
 |ok fl =>
  cases fl with
  |ret u=>exact I2.after hq
  |next=>exact(show False from hq).elim
  |brk=>exact(show False from hq).elim
  |cont=>exact(show False from hq).elim
end
theorem Lw{pos:aM}{c cv:aa}{a b:Int}:∀(l:List aa),TriplesOk l->fq pos (l++[dW a,dW b,c])=a3 cv->fq pos l=a3 cv\/cv=c
 |[],_,h=>by
  simp only[Sq,dW,fq]at h;split at h
  .exact .inr (aw h).symm
  .cases h
 |.int i t::.int j u::x::r,ht,h=>by
  simp only[dP,fq]at h ⊢;split at h
  .rename_i z;rw[if_pos z];exact .inl h
  .rename_i z;rw[if_neg z];exact Lw r ht h
section
variable{X:Cx}{pins:k9f}{σ:St}{H:Hp}{s:af}
theorem Inv.madeL{q:ah}{P:ae}{h2:aC}{tk:Nat}{H2:Hp}(I:Inv X pins σ H s)(hP:H P=a3 (.cod q))(g:j0 H H2)(kp:∀b o,b≠P->s.heap.get? b=a3 o->h2.get? b=a3 o)
  (new:∀b o,H2 b=a3 o->H b=a3 o\/(s.heap.objs.size<=b/\jj X.prog X.w H2 h2 b o)) (okP:jj X.prog X.w H2 h2 P (.cod q)):Inv X pins σ H2 { s with heap:=h2,toks:=tk }:=by
 have nP:∀{b:ae},H b=a9->b≠P:=λ{b} n z=>by rw[z,hP]at n;cases n
 have nO:∀{b:ae}{u:HO},H b=a3 u->(∀q,u≠.cod q)->b≠P:=λ{b u} e n z=>by rw[z,hP]at e;cases e;exact n _ rfl
 refine I.un (H':=H2) (h':=h2) (t':=tk) ⟨λb o e n _ _=>kp b o (nP n) e,λb o e n _ _=>⟨o.slots,kp b o (nP n) e⟩,λb o e n _=>?_,λb o e _=>?_,λb xs e=>g _ _ e,λb o u e=>g _ _ e,λb ps e=>⟨#[],by rw[g _ _ e];simp⟩⟩ λb o e=>?_
 .cases z:H2 b with
  |none=>rfl
  |some u =>
   rcases new b u z with y|⟨y,_⟩
   .rw[n]at y;cases y
   .exact absurd (Xn (X3 e) y) (Pg _)
 .by_cases z:b=P
  .obtain⟨ps,y,_⟩:=okP;exact⟨_,by rw[z];exact y⟩
  .exact⟨o,kp b o z e⟩
 .rcases new b o e with y|⟨_,y⟩
  .by_cases z:b=P
   .subst z;rw[hP]at y;cases y;exact okP
   .exact(I.hok b o y).stay (λc u hc r=>kp c u (hc.elim (λe=>e▸z) λe=>nO e λ_ z=>by cases z) r) (λ_ r=>g _ _ r) (λ_ _ r=>g _ _ r) λ_ _ _ r=>g _ _ r
  .exact y
structure LMk(X:Cx)(x:ah):Prop where
 mem:x∈V9
 qual:X.env.qual=x ++ ".<locals>."
 code:∃c P,X.env.code=.ref c/\W.codeHdIn X.K c P=a6/\W.tabIn X.K x=a3 (c,P)
def jn8(X:Cx)(x:ah)(params:dC)(body:aj)(scope:b9)(cl:List (ah×ae)):TE:=λ_ H Q=>TabOk X.K H/\∀(f c:ae)(oc:dw)(pm ctv:aa)(H2:Hp),j0 H H2->H f=a9->H2 f=a3 (.frz (W.kla_obj "<lambda>" (jx x) params body scope cl pm c ctv) (.own 0)) ->
 H2 c=a3 (.frz oc (.own 0))->Ng oc (jx x)->Q (.ref f) H2
theorem j70{x:ah}{params:dC}{body:aj}{scope:b9}{cl:List (ah×ae)}{pos:aM}(M:LMk X x)(hdef:fN params X.env=([],[]))(hcl:dM scope X.env=pure cl):PE X (.Lambda params body scope pos) (jn8 X x params body scope cl):=by
 rintro pins s σ H Q I ⟨tb,h⟩;obtain⟨c,P,hc,hd,ht⟩:=M.code;have hP:=tb x M.mem c P ht;have C:iZ s.heap c P:=W.codeHd_of_K I.kIn hd;obtain⟨ps,hps,htr,hcod⟩:=(show jj X.prog X.w H s.heap P (.cod (jx x))from I.hok _ _ hP)
 have hns:=I.mod.glob.keeps I.bk;have hgP:au≠P:=λz=>by obtain⟨o,es,ep,e,d,_⟩:=hns;rw[z,hps]at e;cases e;cases d
 have hbP:s.heap.BuiltinsAt X.mg P:=by
  obtain⟨bm,ob,b1,b2,b3,b4,b5,b6⟩:=I.mod.bm;have b3':=I.bk _ _ b3;refine⟨bm,ob,b1,b2,λz=>?_,λz=>?_,b3',b4,b5,b6⟩
  .obtain⟨o,es,ep,e,d,_⟩:=hns;rw[z,e]at b3';cases b3';rw[d]at b6;cases b6
  .rw[z,hps]at b3';cases b3';cases b4
 have hq:X.env.qual ++ "<lambda>" = jx x:=by rw[M.qual];rfl
 refine W.kla_eval hdef ?_;rw[hq];cases e:fq pos ps.toList with
 |none =>
  refine W.kla_makeFunction hcl I.ok.glob hns hc C hps htr e hgP hbP λc' ctv h' tk hx hge hlt hrec htb=>?_;obtain⟨c2,oc,vs,t,ec,hoc,hdt,hv⟩:=hrec;cases ec;have hsz:s.heap.objs.size<=h'.objs.size:=cJ (cq hge hlt);have n1:H c'=a9:=I.hok.fresh hge;have n2:H h'.objs.size=a9:=I.hok.fresh hsz;have ne:c'≠h'.objs.size:=Xc hlt;have hne:∀{b:ae}{u:HO},H b=a3 u->b≠c'/\b≠h'.objs.size:=λz=>⟨vd z n1,vd z n2⟩
  have g:∀fo:HO,j0 H (upd (upd H c' (.frz oc (.own 0))) h'.objs.size fo):=λfo b u z=>by rw[ji (hne z).2,ji (hne z).1];exact z
  have h2c:∀fo:HO,upd (upd H c' (.frz oc (.own 0))) h'.objs.size fo c'=a3 (.frz oc (.own 0)):=λfo=>by rw[ji ne,j9]
  refine⟨.ref h'.objs.size,_,I.madeL (P:=P) (q:=jx x) (H2:=upd (upd H c' (.frz oc (.own 0))) h'.objs.size (.frz (W.kla_obj "<lambda>" (jx x) params body scope cl ((X.mg "__name__").getD .none) c' ctv) (.own 0))) hP (g _)
   (λb o nb z=>xj _ (hx b o nb z)) (λb o z=>?_) ?_,rfl,h _ c' oc _ ctv _ (g _) n2 j9 (h2c _) ⟨vs,t,hdt,hv⟩⟩
  .by_cases z1:b=h'.objs.size
   .subst z1;rw[j9]at z;cases z;exact .inr ⟨hsz,X5 _ rfl,_,X5 _ rfl⟩
   .rw[ji z1]at z;by_cases z2:b=c'
    .subst z2;rw[j9]at z;cases z;exact .inr ⟨hge,xj _ hoc,_,xj _ hoc⟩
    .rw[ji z2]at z;exact .inl z
  .refine⟨_,xj _ htb,by rw[S5];exact TriplesOk_snoc _ _ _ _ htr,λpos' cv z=>?_⟩;rw[S5]at z;rcases Lw ps.toList htr z with z|z
   .obtain⟨c3,oc3,e1,e2,e3⟩:=hcod pos' cv z;exact⟨c3,oc3,e1,g _ _ _ e2,e3⟩
   .exact⟨c',oc,z,h2c _,vs,t,hdt,hv⟩
 |some cv =>
  obtain⟨c',oc,ec,h1,h2⟩:=hcod pos cv e;subst ec;refine W.kla_makeFunctionHit hcl I.ok.glob hns hc C hps htr e hbP λctv h' tk hk hsz=>?_;have n2:H h'.objs.size=a9:=I.hok.fresh hsz;have g:∀fo:HO,j0 H (upd H h'.objs.size fo):=λfo=>j7 n2;refine⟨.ref h'.objs.size,_,I.madeL (P:=P) (q:=jx x) (H2:=upd H h'.objs.size (.frz (W.kla_obj "<lambda>" (jx x) params body scope cl ((X.mg "__name__").getD .none) c' ctv) (.own 0))) hP (g _)
   (λb o _ z=>xj _ (hk b o z)) (λb o z=>?_) ?_,rfl,h _ c' oc _ ctv _ (g _) n2 j9 (g _ _ _ h1) h2⟩
  .by_cases z1:b=h'.objs.size
   .subst z1;rw[j9]at z;cases z;exact .inr ⟨hsz,X5 _ rfl,_,X5 _ rfl⟩
   .rw[ji z1]at z;exact .inl z
  .refine⟨ps,xj _ (hk _ _ hps),htr,λpos' cv z=>?_⟩;obtain⟨c3,oc3,e1,e2,e3⟩:=hcod pos' cv z;exact⟨c3,oc3,e1,g _ _ _ e2,e3⟩
noncomputable def plus(H:Hp)(h:aC)(cs:List ae):Hp:=λb=>if b∈cs then(h.get? b).map λo=>.frz o (.own 0)else H b
theorem Bl{h:aC}{cs:List ae}{b:ae}{o:dw}(hb:b∈cs)(e:h.get? b=a3 o):plus H h cs b=a3 (.frz o (.own 0)):=by unfold plus;rw[if_pos hb,e];rfl
theorem Qc{h:aC}{cs:List ae}{b:ae}(hb:b∉cs):plus H h cs b=H b:=if_neg hb
def Own(X:Cx)(cs:List ae):Prop:=∀c∈cs,∃y,X.env.cells.lookup y=a3 c/\X.fn y=a6
theorem Own.obj{cs:List ae}(I:Inv X pins σ H s)(hc:Own X cs){c:ae}(h:c∈cs):∃o v,s.heap.get? c=a3 o/\o.data=.cell v/\H c=a9/\X.s₀.heap.objs.size<=c/\c≠X.env.locals:=by obtain⟨y,e,f⟩:=hc c h;obtain⟨v,o,e1,e2⟩:=I.cell y c e;exact⟨o,v,e1,e2,I.freeC y c e,I.ok.cab y c f e,I.cne y c e⟩
theorem W3{cs:List ae}(I:Inv X pins σ H s)(hc:Own X cs):j0 H (plus H s.heap cs):=λb o e=>by rw[Qc];exact e;intro z;obtain⟨_,_,_,_,n,_⟩:=hc.obj I z;rw[n]at e;cases e
theorem Inv.plus{cs:List ae}(I:Inv X pins σ H s)(hc:Own X cs) :
  Env0 X.prog X.w X.K X.mg X.base X.A X.stack s (plus H s.heap cs)/\∀(Q:VK)(u:aa)(s':af),CE X.stack X.prog X.w (L2.plus H s.heap cs) s (λv H'=>Cel H' cs->Q v (del H' cs)) u s'->EP X pins σ Q u s':=by
 have e0:=I.env0;have nb:∀{b:ae}{u:HO},H b=a3 u->b∉cs:=λ{b u} e z=>by obtain⟨_,_,_,_,n,_⟩:=hc.obj I z;rw[n]at e;cases e
 have nf:∀b∈frs X.stack,b∉cs:=λb hb z=>by
  obtain⟨o,v,e1,e2,n,hge,hl⟩:=hc.obj I z;rcases xn.mp (I.stkSub b hb)with y|y
  .exact hl y
  .obtain⟨_,o',ho,_⟩:=I.ok.funs.mem y;exact absurd (Xn (X3 ho) hge) (Pg _)
 have g:=W3 I hc;refine⟨⟨e0.frames,e0.mod,λb o e=>⟨(e0.bs b o e).1,?_⟩,e0.bsz,e0.funs,λb hb=>by rw[Qc (nf b hb)];exact e0.frf b hb,λb o e=>?_,e0.bare⟩,λQ u s' hq=>?_⟩
 .rw[Qc];exact(e0.bs b o e).2;intro z;obtain⟨_,_,_,_,_,hge,_⟩:=hc.obj I z;exact absurd (Xn (X3 e) (Xl I.ok.bsz hge)) (Pg _)
 .by_cases z:b∈cs
  .obtain⟨oc,v,e1,_⟩:=hc.obj I z;rw[Bl z e1]at e;cases e;exact⟨e1,_,e1⟩
  .rw[Qc z]at e;exact(I.hok b o e).stay (λ_ _ _ r=>r) (λ_ r=>g _ _ r) (λ_ _ r=>g _ _ r) λ_ _ _ r=>g _ _ r
 .obtain⟨v,H',os,bare,un,hok',rel,q⟩:=hq;have cel:∀c∈cs,∃o v,s.heap.get? c=a3 o/\o.data=.cell v/\H' c=a3 (.frz o (.own 0))/\s'.heap.get? c=a3 o:=λc hcs=>by obtain⟨o,v,e1,e2,_⟩:=hc.obj I hcs;have z:=un.frzs c o _ (Bl hcs e1);exact⟨o,v,e1,e2,z,(show jj X.prog X.w H' s'.heap c (.frz o (.own 0))from hok' _ _ z).1⟩
  have hC:Cel H' cs:=λc hcs=>let ⟨o,v,_,e2,e3,_⟩:=cel c hcs;⟨o,v,e3,e2⟩;have nb':∀{b:ae}{u:HO},H' b=a3 u->(∀oc v,u=.frz oc (.own 0)->oc.data≠.cell v)->del H' cs b=a3 u:=λ{b u} e n=>by rw[j6];exact e;intro z;obtain⟨o,v,_,e2,e3,_⟩:=cel b z;rw[e]at e3;cases e3;exact n _ _ rfl e2
  refine⟨v,del H' cs,I.call' (ch:=[]) os ⟨λb o e n hb hx=>?_,λb o e n hb hx=>?_,λb o e n hx=>?_,un.there,λb xs e=>?_,λb o u e=>?_,λb ps e=>?_⟩ (λb o e=>?_) bare (λb z=>absurd z (by simp)),rel,q hC⟩
  .by_cases z:b∈cs
   .obtain⟨o',v',e1,_,_,e4⟩:=cel b z;rw[e]at e1;cases e1;exact e4
   .exact un.keep b o e (by rw[Qc z];exact n) hb hx
  .exact un.slot b o e (by rw[Qc (nf b hb)];exact n) hb hx
  .by_cases z:b∈cs
   .exact qt z
   .rw[j6 z];exact un.free b o e (by rw[Qc z];exact n) hx
  .have z:=un.tups b xs (g _ _ e);exact nb' z λ_ _ y=>by cases y
  .have z:=un.frzs b o u (g _ _ e);rw[j6 (nb e)];exact z
  .obtain⟨m,z⟩:=un.tbls b ps (g _ _ e);exact⟨m,nb' z λ_ _ y=>by cases y⟩
  .obtain⟨n,e⟩:=of_del e;exact(hok' b o e).stay (λ_ _ _ r=>r) (λ_ r=>nb' r λ_ _ y=>by cases y) (λ_ _ r=>nb' r λ_ _ y=>by cases y) λ_ _ ⟨vs,d⟩ r=>nb' r λ_ _ y d'=>by cases y;rw[d]at d';cases d'
end
def V3(X:Cx)(ρ:Rho):List (ah×ae)->List D->Prop
 |[],ds=>ds=[]
 |p::cl,ds=>∃(d:D)(r:List D)(i:Nat),ds=d::r/\X.N[i]?=a3 p.1/\X.env.scope.names.lookup p.1=a3 .cell/\X.env.cells.lookup p.1=a3 p.2/\X.fn p.1=a6/\ρ[i]?=a3 (.val d)/\V3 X ρ cl r
section
variable{X:Cx}{pins:k9f}{σ:St}{H H2:Hp}{s s2:af}{ρ:Rho}
theorem V3.own:∀{cl:List (ah×ae)} {ds:List D},V3 X ρ cl ds->Own X (cl.map (·.2))
 |[],_,_=>λ_ h=>nomatch h
 |p::cl,_,⟨d,r,i,e,h1,h2,h3,h4,h5,l⟩=>λc hc=>(xn.mp hc).elim (λz=>⟨p.1,by rw[z];exact h3,h4⟩) (V3.own l c)
theorem V3.look:∀{cl:List (ah×ae)} {ds:List D},V3 X ρ cl ds->∀p∈cl,X.env.cells.lookup p.1=a3 p.2
 |p::cl,_,⟨d,r,i,e,h1,h2,h3,h4,h5,l⟩,q,hq=>(xn.mp hq).elim (λz=>z▸h3) (V3.look l q)
theorem V3.cells(I2:Inv X pins σ H2 s2)(R:Rep X.K ρ σ H){cs:List ae}(hg:j0 (del H (owns ρ)) (del (plus H2 s2.heap cs) cs)):∀{cl:List (ah×ae)} {ds:List D},V3 X ρ cl ds->(∀c∈cl.map (·.2),c∈cs) ->
  ∃vs,vy (plus H2 s2.heap cs) (cl.map (·.2)) vs/\j4 X.K (del (plus H2 s2.heap cs) cs) ds vs
 |[],_,h,_=>by cases h;exact⟨[],rfl,rfl⟩
 |p::cl,_,⟨d,r,i,e,h1,h2,h3,h4,h5,l⟩,hm=>by
  subst e;obtain⟨vs,q1,q2⟩:=V3.cells I2 R hg l λc hc=>hm c (xf _ hc);obtain⟨v,hv,en⟩:=R.val i d h5;obtain⟨m,hn,hl⟩:=I2.loc;obtain⟨u,r,lk⟩:=hl i p.1 v h1 hv (.inr (.inl h2));rcases lk with ⟨k,_⟩|⟨_,c,e,o,ho,hd⟩
  .have k:X.env.scope.names.lookup p.1=a3 .local:=k;rw[h2]at k;cases k
  .rw[h3]at e;cases e;exact⟨v::vs,⟨v,vs,o,u,rfl,Bl (hm _ (xq ..)) ho,hd,r,q1⟩,v,vs,rfl,en.mono hg,q2⟩
theorem j32{cl:List (ah×ae)}{ds:List D}(ok:X.Ok)(h:V3 X ρ cl ds)(nd:(cl.map (·.1)).Nodup):(cl.map (·.2)).Nodup:=by
 have lk:=h.look;clear h;induction cl with
 |nil=>exact d8
 |cons p r ih =>rw[xm]at nd ⊢;obtain⟨n1,n2⟩:=Xi.mp nd;refine Xi.mpr ⟨λz=>?_,ih n2 λq hq=>lk q (xf _ hq)⟩;obtain⟨q,hq,e⟩:=Xm.mp z;have:=ok.inj p.1 q.1 p.2 (lk p (xq ..)) (by rw[<-e];exact lk q (xf _ hq));exact n1 (this▸eS hq)
theorem j7t{x:ah}{tx:Tx}{cl:List (ah×ae)}{ds:List D}{f c:ae}{oc:dw}{pm ctv:aa}(ht:Z5 X.K x=a3 tx)(hn:cl.map (·.1)=zx tx.2.2)(nd:(zx tx.2.2).Nodup)(hc:V3 X ρ cl ds)(I2:Inv X pins σ H2 s2)(R:Rep X.K ρ σ H)(g:j0 H H2)
  (hf:H2 f=a3 (.frz (W.kla_obj "<lambda>" (jx x) tx.1 tx.2.1 tx.2.2 cl pm c ctv) (.own 0))) (ho:H2 c=a3 (.frz oc (.own 0))) (hq:Ng oc (jx x)):Enc X.K (plus H2 s2.heap (cl.map (·.2))) (.fn x ds) (.ref f):=by
 have pg:=W3 I2 hc.own;have hg:j0 (del H (owns ρ)) (del (plus H2 s2.heap (cl.map (·.2))) (cl.map (·.2))):=λb o e=>by
  have e2:=g _ _ (of_del e).2;have nb:b∉cl.map (·.2):=λz=>by obtain⟨_,_,_,_,n,_⟩:=hc.own.obj I2 z;rw[n]at e2;cases e2
  rw[j6 nb,Qc nb];exact e2
 obtain⟨vs,q1,q2⟩:=hc.cells I2 R hg λ_ z=>z;exact⟨f,c,tx,cl,vs,rfl,⟨ht,⟨pm,ctv,pg _ _ hf⟩,⟨oc,pg _ _ ho,hq⟩,hn,j32 I2.ok hc (by rw[hn];exact nd),q1⟩,q2⟩
end
section
variable{X:Cx}{ρ:Rho}{P:Po}{x:ah}{params:dC}{body:aj}{scope:b9}{cl:List (ah×ae)}{ds:List D}{pos p1 p2:aM}
theorem DS.retLam(M:LMk X x)(hdef:fN params X.env=([],[]))(hcl:dM scope X.env=pure cl)(ht:Z5 X.K x=a3 (params,body,scope))(hn:cl.map (·.1)=zx scope)(nd:(zx scope).Nodup)(hc:V3 X ρ cl ds)(h:P.rt (.val (.fn x ds))) :
  DS X ρ (.Return (a3 (.Lambda params body scope p1)) pos) P:=λσ H E R q pins s I=>by
 refine kL (thn (j70 M hdef hcl pins s σ H (λv H2=>∃(f c:ae)(oc:dw)(pm ctv:aa),v=.ref f/\j0 H H2/\H2 f=a3 (.frz (W.kla_obj "<lambda>" (jx x) params body scope cl pm c ctv) (.own 0))/\H2 c=a3 (.frz oc (.own 0))/\Ng oc (jx x)) I
  ⟨R.tb,λf c oc pm ctv H2 g _ h1 h2 h3=>⟨f,c,oc,pm,ctv,rfl,g,h1,h2,h3⟩⟩) λu s2 ⟨v,H2,I2,r,f,c,oc,pm,ctv,ev,g,h1,h2,h3⟩=>?_)
 subst ev;refine⟨_,σ,H2,plus H2 s2.heap (cl.map (·.2)),I2,r,λb=>?_,q.rt _ _ _ h ⟨λb o e=>W3 I2 hc.own _ _ (g _ _ (of_del e).2),j7t (tx:=(params,body,scope)) ht hn nd hc I2 R g h1 h2 h3⟩⟩;by_cases z:b∈cl.map (·.2)
 .obtain⟨o,v,e1,e2,_⟩:=hc.own.obj I2 z;obtain⟨y,e,fy⟩:=hc.own b z;exact .inr ⟨y,o,v,e,fy,Bl z e1,e1,e2⟩
 .exact .inl (Qc z)
theorem DT.callL{S:List D->D->Prop}{g:ah}{e1 e2:aj}{d1 d2 d:D}(c:Cal X g (spP X.K S))(M:LMk X x)(hdef:fN params X.env=([],[]))(hcl:dM scope X.env=pure cl)(ht:Z5 X.K x=a3 (params,body,scope))(hn:cl.map (·.1)=zx scope)(nd:(zx scope).Nodup)(hc:V3 X ρ cl ds)
  (h1:DT X ρ e1 d1) (h2:DT X ρ e2 d2) (nf:noFn d=a6) (hS:S [d1,d2,.fn x ds] d) (hg:Gl X g) (hdb:(g==k9h)=a4)
  (hs1:a8 [e1,e2,.Lambda params body scope p1] X.env=(a4,ay e1 X.env)::a8 [e2,.Lambda params body scope p1] X.env) (hs2:a8 [e2,.Lambda params body scope p1] X.env=(a4,ay e2 X.env)::a8 [.Lambda params body scope p1] X.env)
  (hs3:a8 [.Lambda params body scope p1] X.env=(a4,ay (.Lambda params body scope p1) X.env)::a8 [] X.env) (hpl:(aL pos (a8 [e2,.Lambda params body scope p1] X.env)).any (·.1)=a4) :
  DT X ρ (.Call (.Name g p2) [e1,e2,.Lambda params body scope p1] [] pos) d:=λσ H Q R q pins s I=>by
 obtain⟨k,f,fd,ps,F,hr,hm,hk,hb,_⟩:=c.ex;refine aG (U4 I hg hm ?_ hdb);refine W.callWith_K (h₀:=X.base) I.ok.mod.kin hk (thn ((jg peS (jg peS (jg (j70 M hdef hcl) jy hs3) hs2) hs1) pos pins s σ H (λvs H2=>∃(v1 v2:V)(f c:ae)(oc:dw)(pm ctv:aa),vs=[v1,v2,.ref f]/\j0 H H2/\Enc X.K H2 d1 v1/\Enc X.K H2 d2 v2 /\
   H2 f=a3 (.frz (W.kla_obj "<lambda>" (jx x) params body scope cl pm c ctv) (.own 0))/\H2 c=a3 (.frz oc (.own 0))/\Ng oc (jx x)) I
  (h1 σ H _ R λv1 H1 g1 q1=>h2 σ H1 _ (R.grow g1) λv2 H2 g2 q2=>⟨R.tb.mono (g1.trans g2),λf c oc pm ctv H3 g3 _ z1 z2 z3=>⟨v1,v2,f,c,oc,pm,ctv,rfl,(g1.trans g2).trans g3,q1.mono (g2.trans g3),q2.mono g3,z1,z2,z3⟩⟩)) λus s2 ⟨vs,H2,I2,rv,v1,v2,fa,ca,oc,pm,ctv,ev,g,q1,q2,z1,z2,z3⟩=>⟨I2.kIn,?_⟩) hs1 hpl
 subst ev;have pg:=W3 I2 hc.own;have ef:=j7t (tx:=(params,body,scope)) ht hn nd hc I2 R g z1 z2 z3;obtain⟨e0,back⟩:=I2.plus hc.own;have sp:spP X.K S [v1,v2,.ref fa] (plus H2 s2.heap (cl.map (·.2))) (λv H'=>Cel H' (cl.map (·.2))->Q v (del H' (cl.map (·.2)))) E0 :=
  ⟨[],[d1,d2,.fn x ds],d,(R.tb.mono g).mono pg,(λa h=>nomatch h),by rw[Q3];exact⟨_,_,rfl,q1.mono pg,_,_,rfl,q2.mono pg,_,_,rfl,ef,rfl⟩,hS,λv H' g' en hC=>by
   rw[Q3]at en
   refine q v _ (λb o e=>?_) (en.noc hC nf)
   have e2:=g _ _ e
   have nb:b∉cl.map (·.2):=λz=>by obtain⟨_,_,_,_,n,_⟩:=hc.own.obj I2 z;rw[n]at e2;cases e2
   rw[j6 nb];exact g' _ _ (pg _ _ e2)⟩
 have hl:us.length=ps.length:=by rw[<-rv.length];exact F.len _ _ _ _ sp
 have hb':=hb s2 us I2.kIn (by rw[Xx];exact hl);rw[Xx]at hb';refine eL (bh (F.run X.A X.stack s2 _ ⟨us,[]⟩ us _ _ _ (hr.mono (Pr _)) e0 hb' rv sp) λr s' hq=>?_);cases r with
 |error e=>exact(show False from hq).elim
 |ok fl =>
  cases fl with
  |ret u=>exact back Q u s' hq
  |next=>exact(show False from hq).elim
  |brk=>exact(show False from hq).elim
  |cont=>exact(show False from hq).elim
end
section
variable{X:Cx}{ρ:Rho}{e a b c:aj}{es:List aj}{st:aX}{rest sa sb body:List aX}{P:Po}{d:D}{ds ds':List D}{pos p p1 p2 p3:aM}{x:ah}{i:Nat}
theorem Cal.comp{sp:Sp}{scope:b9}{C:ae}{s:af}{H:Hp}{fp:List ae}{pn:k9f}(h:Cal X x sp):Cal (cCx X scope C s H fp pn) x sp:=⟨h.ex⟩
end
theorem jn(lo:Int)(n:Nat):(upto lo n).length=n:=by unfold upto;rw[km,Xh]
theorem j1p{lo:Int}{n:Nat}{d:D}(h:d∈upto lo n):∃j:Nat,j<n/\d=.int (lo+j):=by unfold upto at h;obtain⟨j,hj,e⟩:=Xm.mp h;exact⟨j,Xb.mp hj,e.symm⟩
theorem Vj{lo:Int}{n j:Nat}{d:D}(h:(upto lo n)[j]?=a3 d):j<n/\d=.int (lo+j):=by
 unfold upto at h;rw[xx]at h;cases z:(aq n)[j]? with
 |none=>rw[z]at h;cases h
 |some k =>rw[z]at h;have hl:=(X8.mp z).1;rw[Xh]at hl;have:=t6 (n:=n) (i:=j) hl;rw[this]at z;cases z;cases h;exact⟨hl,rfl⟩
section
variable{X:Cx}{ρ:Rho}{a b tg it:aj}{ds ds':List D}{d:D}{i:Int}{pos:aM}
end
mutual
def Z4:D->Prop
 |.tup l=>l.length<=1000/\V8 l
 |.lst l=>l.length<=1000/\V8 l
 |.dct _ _=>False
 |.sct _=>False
 |.fn _ _=>False
 |_=>True
def V8:List D->Prop
 |[]=>True
 |d::ds=>Z4 d/\V8 ds
end
theorem Ru:∀{ds:List D}{d:D},V8 ds->d∈ds->Z4 d
 |x::xs,d,h,m=>by
  simp only[V8]at h;rcases xn.mp m with e|m
  .subst e;exact h.1
  .exact Ru h.2 m
theorem D.depL_mem:∀{ds:List D}{d:D},d∈ds->d.dep<=D.depL ds
 |x::xs,d,m=>by
  simp only[D.depL];rcases xn.mp m with e|m
  .subst e;omega
  .have:=D.depL_mem m;omega
theorem D.depL_of{n:Nat}:∀{ds:List D},(∀d∈ds,d.dep<=n)->D.depL ds<=n
 |[],_=>by simp only[D.depL];omega
 |x::xs,h=>by simp only[D.depL];have h1:=h x (xq ..);have h2:=D.depL_of (ds:=xs) λd m=>h d (xf _ m);omega
end L2
namespace L2
noncomputable def j5(b:Int):Nat->Int->List Int
 |0,_=>[]
 |i+1,n=>(n/b^i%b)::j5 b i n
theorem jw(b:Int):∀(m:Nat)(n:Int),(j5 b m n).length=m
 |0,_=>rfl
 |m+1,n=>by rw[j5,X7,jw b m n]
theorem Qy(b:Int):∀{m k:Nat}{n:Int},k<m->(j5 b m n)[k]?=a3 (n/b^(m-k-1)%b)
 |m+1,0,n,_=>by rw[j5];rfl
 |m+1,k+1,n,h=>by
  rw[j5,tu,Qy b nofun];have:m-k-1=m+1-(k+1)-1:=by omega
  rw[this]
theorem Vc{b:Int}(hb:0<b):∀{m:Nat}{n v:Int},v∈j5 b m n->0<=v/\v<b
 |m+1,n,v,h=>by
  rw[j5]at h;rcases xn.mp h with e|h
  .subst e;exact⟨Th _ nofun,Sd _ hb⟩
  .exact Vc hb h
theorem Dj(n b:Int)(hb:0<b)(i:Nat):n/b^i/b=n/b^(i+1):=by rw[Int.ediv_ediv_of_nonneg (lG (cA hb)),iq]
end L2
end
section
namespace L2
open PySem PySem.Spec PyProof.Rows
def CX1(P:av)(w:az):CXT:=λouter H s E ev s'=>∃(e:ae)(C:aa)(H':Hp),ev=.ref e/\s'.os=s.os/\dS s'.gens/\Un (frs outer) [] H H' s.heap s'.heap/\HOk P w H' s'.heap /\
 Fl (λb=>∃o,s.heap.get? b=a3 o) H' s'.heap e C/\E C a9 H'
theorem jj.get{P:av}{w:az}{H:Hp}{h:aC}{a:ae}{o:HO}(x:jj P w H h a o):∃u,h.get? a=a3 u:=by
 cases o with
 |lst xs=>obtain⟨_,_,_,_,e⟩:=x;exact⟨_,e⟩
 |tup xs=>obtain⟨_,_,_,⟨_,e,_⟩,_⟩:=x;exact⟨_,e⟩
 |dK kvs=>obtain⟨_,_,_,_,o,_,_,e,_⟩:=x;exact⟨_,e⟩
 |dT kvs=>obtain⟨_,_,_,_,o,_,_,e,_⟩:=x;exact⟨_,e⟩
 |dI xs ep=>obtain⟨_,_,_,o,_,e,_⟩:=x;exact⟨_,e⟩
 |set S n=>obtain⟨o,_,_,_,e,_⟩:=x;exact⟨_,e⟩
 |ins C dx fs=>obtain⟨_,_,_,e,_⟩:=x;exact⟨_,e⟩
 |own y=>obtain⟨_,e⟩:=x;exact⟨_,e⟩
 |xd fs=>obtain⟨_,⟨_,_,_,e,_⟩,_⟩:=x;exact⟨_,e⟩
 |rng lo hi=>obtain⟨_,_,_,e⟩:=x;exact⟨_,e⟩
 |frz ob u=>obtain⟨e,_⟩:=x;exact⟨_,e⟩
 |tbl ps=>exact⟨_,(show h.get? a=a3 _ from x)⟩
 |cod q=>obtain⟨_,e,_⟩:=x;exact⟨_,e⟩
 |met f y=>exact⟨_,(show h.get? a=a3 _ from x)⟩
 |ext φ=>obtain⟨_,⟨_,e⟩,_⟩:=x;exact⟨_,e⟩
section
variable{X:Cx}{pins:k9f}{σ:St}{H:Hp}{s:af}
theorem Inv.old(I:Inv X pins σ H s){b:ae}(h:Old X pins b):∃o,s.heap.get? b=a3 o:=by
 rcases h with ⟨o,q,n⟩|⟨p,hp,rfl⟩|rfl|⟨x,e⟩
 .exact I.base.there b o q n
 .exact⟨_,(I.pin p hp).1⟩
 .obtain⟨m,⟨o,_,_,e,_⟩,_⟩:=I.loc;exact⟨o,e⟩
 .obtain⟨v,o,e,_⟩:=I.cell x b e;exact⟨o,e⟩
end
section
variable{P:av}{w:az}{K:k9d}{mg:k9g}{base:aC}{N ps:List ah}{qual:ah}{scope:b9}{f:ae}{cd:aa}{A:aB}{outer:List dR}{s s':af}{H H':Hp}{E:XK}{σ:St}{pins:k9f}{e:ae}{C:aa}
theorem j3r{as:List ae}{h':aC}{a0:aa}(I:Inv (J1 (CX1 P w) P w K mg base N qual scope f cd A outer s H E) pins σ H' s')(F:Fl (Old (J1 (CX1 P w) P w K mg base N qual scope f cd A outer s H E) pins) H' s'.heap e C)
  (hE:E C a9 H') (ha:∀b,b∈as↔b∈frs (bB qual scope s.heap.objs.size f cd::outer)\/(¬(∃o,s.heap.get? b=a3 o)/\H' b=a9/\b∈as)) (hfa:∀b∈frs (bB qual scope s.heap.objs.size f cd::outer),b∈as)
  (hL:Heap.LeftW (W.hideAll s'.heap as) (bB qual scope s.heap.objs.size f cd::outer) e C a0 s'.heap h'):CX1 P w outer H s E (.ref e) { s' with heap:=h' }:=by
 obtain⟨k1,k2,k3,k4⟩:=hL;have fr:∀b∈frs outer,∃o,s'.heap.get? b=a3 o/\∀vs,o.data≠.fields vs:=λb hb=>by obtain⟨o,ho,hd⟩:=(I.stack.mem (show b∈frs (bB qual scope s.heap.objs.size f cd::outer)from xf _ hb)).2;exact⟨o,ho,hd⟩
 have sfree:∀b∈frs (bB qual scope s.heap.objs.size f cd::outer),H' b=a9:=I.stkFree;have keep:∀b o,s'.heap.get? b=a3 o->b∉as->h'.get? b=a3 o:=λb o q n=>k1 b o (W.hideAll_get _ q n);have nold:∀b o,s.heap.get? b=a3 o->b∉frs outer->b∉as:=λb o q n z=>by
  rcases(ha b).mp z with z|⟨z,_⟩
  .rcases xn.mp z with z|z
   .have:=X3 q;rw[show b=s.heap.objs.size from z]at this;exact absurd this (Pg _)
   .exact n z
  .exact z ⟨o,q⟩
 have ntrk:∀b u,H' b=a3 u->b∉as:=λb u q z=>by
  rcases(ha b).mp z with z|⟨_,z,_⟩
  .rw[sfree b z]at q;cases q
  .rw[z]at q;cases q
 have slot:∀b∈frs outer,∀o,s'.heap.get? b=a3 o->∃sl,h'.get? b=a3 { o with slots:=sl }:=λb hb o q=>by obtain⟨o',ho,hd⟩:=fr b hb;rw[q]at ho;cases ho;exact k4 b o q hd
 have un:=I.base;refine⟨e,C,H',rfl,I.os,I.bare,⟨λb o q n hb _=>keep b o (un.keep b o q n hb (λz=>nomatch z)) (nold b o q hb),λb o q n hb _=>?_,λb o q n _=>un.free b o q n (λz=>nomatch z),λb o q _=>?_,un.tups,un.frzs,un.tbls⟩,
  λa o q=>(I.hok a o q).stay (λb u hb r=>keep b u r ?_) (λ_ z=>z) (λ_ _ z=>z) λ_ _ _ z=>z,?_,hE⟩
 .obtain⟨sl,q'⟩:=un.slot b o q n hb (λz=>nomatch z);obtain⟨sl',q2⟩:=slot b hb _ q';exact⟨sl',q2⟩
 .obtain⟨o',q'⟩:=un.there b o q (λz=>nomatch z);by_cases hb:b∈frs outer
  .obtain⟨sl,q2⟩:=slot b hb _ q';exact⟨_,q2⟩
  .exact⟨_,keep b o' q' (nold b o q hb)⟩
 .rcases hb with rfl|hb
  .exact ntrk _ _ q
  .exact ntrk _ _ hb
 .obtain⟨oe,vs,T,oT,ts,he,⟨hc,h0⟩,hd,h1,hnT,hTe,hT,hdT,h3⟩:=k3;refine⟨λb ⟨o,q⟩=>F.new b (.inl ⟨o,q,λz=>nomatch z⟩),F.free,oe,vs,a0,he,hc,hd,h0,.inr ⟨T,oT,ts,h1,hTe,hT,hdT,h3,?_,λb ⟨o,q⟩ z=>?_⟩⟩
  .cases r:H' T with
   |none=>rfl
   |some u =>obtain⟨ob,q⟩:=(I.hok T u r).get;rw[W.hideAll_get _ q (ntrk T u r)]at hnT;cases hnT
  .subst z;obtain⟨o',q'⟩:=un.there b o q (λz=>nomatch z);by_cases hb:b∈frs outer
   .obtain⟨o2,q2,nf⟩:=fr b hb;obtain⟨sl,q3⟩:=slot b hb o2 q2;rw[q3]at hT;cases hT;exact nf ts hdT
   .rw[W.hideAll_get _ q' (nold b o q hb)]at hnT;cases hnT
theorem j7d(I:Inv (J1 (CX1 P w) P w K mg base N qual scope f cd A outer s H E) pins σ H' s')(F:Fl (Old (J1 (CX1 P w) P w K mg base N qual scope f cd A outer s H E) pins) H' s'.heap e C)(hE:E C a9 H') :
  (J1 (CX1 P w) P w K mg base N qual scope f cd A outer s H E).xe (.ref e) s':=by
 obtain⟨oe,vs,a0,he,hc,hd,h0,hT⟩:=F.obj;have hsN:∀b,(∃o,s.heap.get? b=a3 o)->Old (J1 (CX1 P w) P w K mg base N qual scope f cd A outer s H E) pins b:=λb ⟨o,q⟩=>.inl ⟨o,q,λz=>nomatch z⟩;have hin:∀(as:List ae),(∀b∈frs (bB qual scope s.heap.objs.size f cd::outer),b∈as)->∀env∈bB qual scope s.heap.objs.size f cd::outer,∀a,env.frame=a3 a->a∈as:=λas h env he a ha=>h a (Tq.mpr ⟨env,he,ha⟩);subst hc;rcases hT with h1|⟨T,oT,ts,h1,hTe,hT,hdT,h3,hTf,hTn⟩
 .let as:=e::frs (bB qual scope s.heap.objs.size f cd::outer)
  have hfa:∀b∈frs (bB qual scope s.heap.objs.size f cd::outer),b∈as:=λb hb=>xf _ hb;refine wpAny_leaving_firstW (base:=W.hideAll s'.heap as) I.ok.frames (W.funFrames_hide I.stack (hin as hfa)) rfl he (λb o q=>W.of_hideAll _ q) (W.hideAll_none _ (xq ..)) hd h1 h0 λh' hL =>j3r I F hE (λb=>⟨λz=>?_,λz=>z.elim (hfa b) λz=>z.2.2⟩) hfa hL
  rcases xn.mp z with e1|z'
  .subst e1;exact .inr ⟨λq=>F.new _ (hsN _ q) rfl,F.free,z⟩
  .exact .inl z'
 .let as:=e::T::frs (bB qual scope s.heap.objs.size f cd::outer)
  have hfa:∀b∈frs (bB qual scope s.heap.objs.size f cd::outer),b∈as:=λb hb=>xf _ (xf _ hb);refine wpAny_leaving_nextW (base:=W.hideAll s'.heap as) (a0:=a0) I.ok.frames (W.funFrames_hide I.stack (hin as hfa)) rfl ⟨oe,vs,T,oT,ts,he,⟨rfl,h0⟩,hd,h1,W.hideAll_none _ (xf _ (xq ..)),hTe,hT,hdT,h3⟩
   (λb o q=>W.of_hideAll _ q) (W.hideAll_none _ (xq ..)) λh' hL =>
   j3r I F hE (λb=>⟨λz=>?_,λz=>z.elim (hfa b) λz=>z.2.2⟩) hfa hL
  rcases xn.mp z with e1|z'
  .subst e1;exact .inr ⟨λq=>F.new _ (hsN _ q) rfl,F.free,z⟩
  .rcases xn.mp z' with e1|z2
   .subst e1;exact .inr ⟨λq=>hTn _ (hsN _ q) rfl,hTf,z⟩
   .exact .inl z2
end
def spX(K:k9d)(mg:k9g)(S:List D->ah->Prop):Sp:=λvs H _ E=>∃ds x C,TabOk K H/\j4 K H ds vs/\S ds x/\mg x=a3 C/\∀H',j0 H H'->E C a9 H'
section
variable{P:av}{w:az}{K:k9d}{mg:k9g}{base:aC}{x qual:ah}{st:aX}{f:ae}{fd:aN}{N ps:List ah}{k:Nat}
theorem j7p{S:List D->ah->Prop}(F:Fun K x qual st f fd)(Sc:FnScope N ps (jc st))(hl:∀ds y,S ds y->ds.length=ps.length)
  (hbody:∀(cdv:aa)(A:aB)(outer:List dR)(s:af)(H:Hp)(E:XK),Bc K f cdv->Room k (A.deeper (bB qual (jc st) s.heap.objs.size f cdv))->∀ds y,S ds y ->
   DSs (J1 (CX1 P w) P w K mg base N qual (jc st) f cdv A outer s H E) (zb N ds) (jr st) { nx:=λ_=>False,rt:=λ_=>False,ex:=λz _=>z=y }):FnOk P w K mg base (CX1 P w) (k+1) f fd ps (spX K mg S):=by
 obtain⟨oc,od,dV,kV,doc,pm,an,cdv,ct,osl,rfl,lk,hcd⟩:=F.ex;refine jcl lk hcd Sc (λvs H Q E ⟨ds,y,C,tb,en,hS,_⟩=>by rw[en.length];exact hl ds y hS) λA outer s H vs Q E hr ⟨ds,y,C,tb,en,hS,hC,hE⟩=>⟨_,O6,?_⟩
 have ho:=Y0 N ds;refine hbody cdv A outer s H E ⟨oc,od,_,osl,lk,rfl⟩ hr ds y hS (start N vs) H _ (W2 tb en) ⟨λρ' σ' H' n R f=>n.elim,λ_ _ _ z=>z.elim,λ_ _ _ z=>z.elim,λr v H' n z=>n.elim,λz ρ' σ' H' n R g=>?_⟩;cases(show z=y from n);intro pins H2 s' e C' I g2 hC' Fe;cases hC.symm.trans hC';unfold Fr0 at g;rw[ho,Q3]at g;exact j7d I Fe (hE H2 ((g.trans jt).trans g2))
end
def DX(X:Cx)(ρ:Rho)(e:aj)(x:ah):Prop:=∀σ H Q,Rep X.K ρ σ H->Iu X σ H x->Qu X e σ H Q
def DXA(X:Cx)(ρ:Rho)(es:List aj)(x:ah):Prop:=∀σ H Q,Rep X.K ρ σ H->Iu X σ H x->Kd X es σ H Q
structure CalX(X:Cx)(x:ah)(sp:Sp):Prop where
 ex:∃(k:Nat)(f:ae)(fd:aN)(ps:List ah),FnOk X.prog X.w X.K X.mg X.base (CX1 X.prog X.w) k f fd ps sp/\Room k X.A/\X.mg x=a3 (.ref f)/\W.keepIn X.K (.ref f)=a6/\Binds X.K fd ps []
section
variable{X:Cx}{ρ:Rho}{e:aj}{es:List aj}{f x:ah}{ds:List D}{p pos:aM}{C:aa}
theorem DX.call {S:List D->ah->Prop} (c:CalX X f (spX X.K X.mg S)) (ha:DTA X ρ (e::es) ds) (hS:S ds x) (hC:X.mg x=a3 C) (hg:Gl X f) (hdb:(f==k9h)=a4)
  (he:a8 (e::es) X.env=(a4,ay e X.env)::a8 es X.env) (hpl:(aL pos (a8 es X.env)).any (·.1)=a4):DX X ρ (.Call (.Name f p) (e::es) [] pos) x:=λσ H Q R k pins s I=>by
 obtain⟨n,fa,fd,ps,F,hr,hm,hk,hb⟩:=c.ex;refine aG (U4 I hg hm ?_ hdb);refine W.callWith_K (h₀:=X.base) I.ok.mod.kin hk (thn (ha σ H (λvs H1=>j0 H H1/\j4 X.K H1 ds vs) R (λvs H1 g e=>⟨g,e⟩) pos pins s I) λus s1 ⟨vs,H1,I1,r,g,en⟩=>⟨I1.kIn,?_⟩) he hpl;have sp:spX X.K X.mg S vs H1 (λ_ _=>False) (λC' _ H'=>C'=C/\j0 H1 H'):=⟨ds,x,C,R.tb.mono g,en,hS,hC,λH' g=>⟨rfl,g⟩⟩
 have hl:us.length=ps.length:=by rw[<-r.length];exact F.len _ _ _ _ sp
 have hb':=hb s1 us I1.kIn (by rw[Xx];exact hl);rw[Xx]at hb';refine eL (bh (F.run X.A X.stack s1 H1 ⟨us,[]⟩ us vs _ _ hr I1.env0 hb' r sp) λr s' hq=>?_);cases r with
 |error ev =>obtain⟨e,C',H',rfl,os,bare,un,hok,fl,rfl,g'⟩:=hq;have I':Inv X pins σ H' s':=I1.call' os un hok bare (λb z=>nomatch z);refine k pins H' s' e C' I' (g.trans g') hC ⟨λb hb=>fl.new b (I1.old hb),fl.free,?_⟩;obtain⟨oe,ws,a0,q1,q2,q3,q4,q5⟩:=fl.obj;refine⟨oe,ws,a0,q1,q2,q3,q4,q5.imp id ?_⟩;rintro⟨T,oT,ts,z1,z2,z3,z4,z5,z6,z7⟩;exact⟨T,oT,ts,z1,z2,z3,z4,z5,z6,λb hb=>z7 b (I1.old hb)⟩
 |ok fl =>
  cases fl with
  |ret u=>obtain⟨_,_,_,_,_,_,_,z⟩:=hq;exact z.elim
  |next=>exact aR hq
  |brk=>exact aR hq
  |cont=>exact aR hq
end
section
variable{X:Cx}{ρ:Rho}{e:aj}{es:List aj}{x:ah}{d:D}{p pos np cpos:aM}{P:Po}{i:Int}{y:ah}{ys:List ah}
noncomputable def jcg(out:ah):List ah->ah
 |[]=>out
 |y::ys=>jcg (out++y) ys
def DPs(X:Cx)(ρ:Rho):List aj->List ah->Prop
 |[],[]=>True
 |e::es,y::ys=>DE X ρ e (.str y)/\DPs X ρ es ys
 |_,_=>False
end
structure FlT(N:ae->Prop)(H:Hp)(h:aC)(e:ae)(C fl:aa):Prop where
 new:∀b,N b->b≠e
 free:H e=a9
 obj:∃(oe:dw)(vs:Array aa)(a0:aa)(T:ae)(oT:dw)(ts:Array aa),h.get? e=a3 oe/\oe.cls=C/\oe.data=.fields vs/\vs[0]?=a3 a0/\vs[1]?=a3 (.ref T)/\T≠e/\h.get? T=a3 oT/\oT.data=.fields ts/\ts[3]?=a3 fl /\
  H T=a9/\∀b,N b->b≠T
section
variable{X:Cx}{pins:k9f}{σ:St}{H:Hp}{s:af}{e:ae}{C fl:aa}{M:kN}{A:aB}{E:k9e}
end
end L2
end
section
namespace PySem.W
open PySem PySem.Spec PySem.Calls PyProof.Rows Builtin Builtin.ObjectAttr Builtin.Getset_descriptor
section
variable{prog:av}{w:az}{A:aB}{E:k9e}{h:aC}{g:Array ff}{d:Drawn}{t:Nat}{os:OsState}{K:md}{e C:ae}
end
end PySem.W
end
section
namespace L2
open PySem PySem.Spec PyProof.Rows
noncomputable def Q0:List ah:=["WrongSize","NoAsk","NoWord","Twice","WrongAnswers","Unlike","NoPlace","NoText","WrongPrices","WrongWeights","NoPlan"]
noncomputable def bmV:List aa:=[.type "ValueError",.type "Exception",.type "BaseException",.type "object"]
noncomputable def jmx(K:k9d)(C:ae):Bool:=W.findIn K (.ref C) "__getattribute__" == a3 (a3 (.builtin "BaseException.__getattribute__"))&&(W.findIn K (.ref C) "__getattr__" == a3 a9&&(W.subIn K (.ref C) (.type "BaseException")==a3 a6 &&
 (W.findIn K (.ref C) "__class__" == a3 (a3 (.builtin "object.__class__"))&&(W.mroIn K C (.type "object")==a3 a6&&((W.clsIn K C).isSome&&W.excIn K C bmV "ValueError.__new__")))))
noncomputable def j0i(K:k9d):Bool:=Q0.all λx=>match W.nsIn K au x with
 |some (a3 (.ref C))=>jmx K C&&(W.kitOne K (.ref C) (.type "ValueError")==a3 a6&&((match W.nsIn K au "AskError" with
   |some (a3 a)=>W.exmOne K (.ref C) a==a3 a6
   |_=>a4)&&Q0.all λc=>match W.nsIn K au c with
   |some (a3 v)=>W.kitOne K (.ref C) v==a3 (x==c)
   |_=>a6))
 |some (a3 _)=>a4
 |_=>a6
structure XcOk(K:k9d)(C:ae):Prop where
 ga:W.findIn K (.ref C) "__getattribute__" = a3 (a3 (.builtin "BaseException.__getattribute__"))
 gt:W.findIn K (.ref C) "__getattr__" = a3 a9
 sub:W.subIn K (.ref C) (.type "BaseException")=a3 a6
 cls:W.findIn K (.ref C) "__class__" = a3 (a3 (.builtin "object.__class__"))
 mro:W.mroIn K C (.type "object")=a3 a6
 is:(W.clsIn K C).isSome=a6
 exc:W.excIn K C bmV "ValueError.__new__" = a6
structure ExOne(K:k9d)(x:ah)(C:ae):Prop where
 ok:XcOk K C
 val:W.kitOne K (.ref C) (.type "ValueError")=a3 a6
 ask:∃a,W.nsIn K au "AskError" = a3 (a3 a)/\W.exmOne K (.ref C) a=a3 a6
 one:∀c∈Q0,∀v,W.nsIn K au c=a3 (a3 v)->W.kitOne K (.ref C) v=a3 (x==c)
section
variable{X:Cx}{pins pins':k9f}{σ:St}{H:Hp}{s:af}{xe:k9e}{e:ae}
noncomputable abbrev Cx.hnd(X:Cx)(e:ae):Cx:={ X with A:=X.A.mark (a3 (.ref e)),calm:=a4,xe:=λ_ _=>False }
end
section
variable{X:Cx}{ρ:Rho}{i:Nat}{a:ae}{o:dw}{x y c c1 c2:ah}{p p1 p2 p3 p4 p5 pos:aM}{k:Bool}
end
structure KindsP(P:av)(w:az)(K:k9d)(mg:k9g)(base:aC)(f x:ah)(l:List D):Prop where
 ex:∃fa:ae,mg f=a3 (.ref fa)/\W.keepIn K (.ref fa)=a6/\∀(A:aB)(outer:List dR)(s:af)(H:Hp)(e:ae)(o:dw),A.depth+4<f6->A.units+150<aV->Env0 P w K mg base A outer s H->TabOk K H ->
  H e=a3 (.frz o (.own e))->W.nsIn K au x=a3 (a3 o.cls) ->
  cG (ax P w) A (.call (.ref fa) ⟨[.ref e],[]⟩) (CR CX0 outer P w H s (λv H'=>∃a xs,v=.ref a/\j0 H H'/\H a=a9/\H' a=a3 (.lst xs)/\j4 K (del H' [a]) l xs) E0) s
 nl:v5 l=a6
abbrev Kinds(X:Cx)(f x:ah)(l:List D):Prop:=KindsP X.prog X.w X.K X.mg X.base f x l
section
variable{X:Cx}{ρ:Rho}{i j:Nat}{e:ae}{o:dw}{f x n k A:ah}{l:List D}{P:Po}{body:List aX}{p p1 p2 p3 p4 p5 pos hpos:aM}
end
section
variable{X:Cx}{ρ:Rho}{i j:Nat}{f n k:ah}{P:Po}{body:List aX}{p p1 p2 p3 p4 p5 pos hpos:aM}
end
section
variable{P:av}{w:az}{K:k9d}{mg:k9g}{base:aC}{f:ae}{g x pn:ah}{st:aX}{fd:aN}{N:List ah}{l:List D}
end
section
variable{X:Cx}
def jnj:V->Option Int->Option Int->Hp->VK->Prop:=λx lo hi H Q=>∃z,x=.str z/\z.length<=ak/\Q (.str (bM z lo hi)) H
theorem part_of{v:aa}{o:Option Int}(h:fe v o):∃l:Option (Int×hV),v=partValue l/\l.map (·.1)=o:=by
 cases h with
 |none=>exact⟨a9,rfl,rfl⟩
 |int i t=>exact⟨a3 (i,t),rfl,rfl⟩
theorem jgl:SlR X jnj:=by intro pins s σ H x v vl vu lo hi sl Q I rx hs pl pu h;obtain⟨z,ex,hz,q⟩:=h;subst ex;obtain⟨t,ev⟩:=rx;subst ev;obtain⟨l,el,ml⟩:=part_of pl;obtain⟨u,eu,mu⟩:=part_of pu;subst el eu ml mu;obtain⟨o,h1,h2,h3⟩:=hs;refine⟨"str",_,PySem.F.slot_str_getitem.lookup,ib s z t,wpAny_getItem_str_slice (l:=l) (u:=u) (st:=a9) ⟨o,h1,h2,h3⟩ rfl ?_⟩;exact post_val_or_str ⟨Xl (Txt.slice_le z _ _) hz,λt' k=>⟨.str _,H,I.tok k,⟨_,rfl⟩,q⟩⟩
theorem j3k:∀{ts:List ah}{us:List aa},Vals (ts.map V.str) us->∃l:List (ah×hV),us=strValues l/\l.map (·.1)=ts
 |[],_,r=>by cases r;exact⟨[],rfl,rfl⟩
 |t::ts,_,r=>by
  cases r with
  |cons a b =>obtain⟨k,e⟩:=a;obtain⟨l,e1,e2⟩:=j3k b;subst e e1 e2;exact⟨(t,k)::l,rfl,rfl⟩
theorem je9:MtR X "str.join" (λx vs H Q=>∃(sep:ah)(l:ae)(ts:List ah),x=.str sep/\vs=[.ref l]/\SqL X.K H l (ts.map V.str)/\fc sep ts=a6/\Q (.str (eJ sep ts)) H):=by rintro pins s σ H x vs v us Q I rx rv ⟨sep,l,ts,e,e',sq,hok,q⟩;subst e e';obtain⟨t,ev⟩:=rx;subst ev;obtain⟨u,eu,ru⟩:=rv.one;subst eu;cases ru;obtain⟨its,ri,pl,_⟩:=I.list sq;obtain⟨ps,e1,e2⟩:=j3k ri;subst e1 e2;unfold fc at hok;rw[jI]at hok;exact bA iN (ib _ _ _) F.entry_str_join (F.args_str_join_2 _ _) (meets_str_join_list sep t l ps hok) ⟨pl.isList,post_join ps ⟨joinFit_length hok,λt' k=>⟨.str _,H,I.tok k,⟨_,rfl⟩,q⟩⟩⟩
theorem j8d (hc:X.calm=a6):Ju X (.builtin "sum") (λxs H Q=>∃(lst:Bool)(l:ae)(ns:List Int),xs=[.ref l]/\SqB X.K lst H l (ns.map V.int)/\Q (.int ns.sum) H):=by
 rintro pins s σ H xs us Q I r ⟨lst,l,ns,e,sq,q⟩;subst e;obtain⟨u,eu,ru⟩:=vals1 r;subst eu;cases ru;obtain⟨its,rv,pl,_⟩:=I.side sq;have hl:its.length=ns.length:=by rw[<-rv.length,km]
 have val:∀i v,its.toArray[i]?=a3 v->∃t,v=bf (ns.getD i 0) t:=by
  intro i v hv;have hi:i<its.length:=by obtain⟨h,_⟩:=Array.getElem?_eq_some_iff.mp hv;simpa using h
  have hi':i<ns.length:=by omega
  obtain⟨w1,hw,rw1⟩:=rv.get (x:=.int (ns.getD i 0)) (i:=i) (by rw[xx,kh hi',kj,kh hi'];rfl);have:its.toArray[i]?=a3 w1:=by simpa using hw
  rw[this]at hv;cases hv;exact rw1
 have tot:preSum (λi=>ns.getD i 0) its.toArray.size=ns.sum:=by rw[preSum_getD,T6 (by rw[X4];omega)]
 have fin:∀(o:dw)(s':af)(t':hV),Moved [s.heap.objs.size] (λa b=>b=a) { s with heap:=s.heap.push o } s'->EP X pins σ Q (.int (preSum (λi=>ns.getD i 0) its.toArray.size) t') s':=λo s' t' mv=>by obtain⟨hh,gg,dd,tt,oo⟩:=s';obtain⟨m1,m2,m3,m4,m5⟩:=mv;cases m2;cases m3;cases m4;rw[tot];refine⟨.int _,H,I.kept (t':=tt) λb o e=>m1 b o ?_ (xj _ e),⟨_,rfl⟩,q⟩;intro z;rw[xr.mp z]at e;exact Pg _ (X3 e)
 unfold qz at pl;cases lst with
 |true =>
  rw[if_pos rfl]at pl;have hlt:l<s.heap.objs.size:=by obtain⟨_,e,_⟩:=pl;exact X3 e
  refine kM (bu pl ⟨s.heap.objs.size,[s.heap.objs.size,l],[s.heap.objs.size],_,its.toArray.size,_,_,λi=>ns.getD i 0,rfl,(Walks.list (A:=X.A.in1) (I.ok.hd hc) _ _ (Xc hlt) its.toArray).toS,⟨⟨_,X5 _ rfl,rfl,rfl⟩,pl.push _⟩,?_,val,λs' t' mv=>fin _ s' t' mv⟩);intro b hb;show b<(s.heap.push _).objs.size;rw[S7];rcases xn.mp hb with z|z
  .rw[z];exact S8 _
  .rw[xr.mp z];exact Sy hlt
 |false =>
  rw[if_neg xg]at pl;have hlt:l<s.heap.objs.size:=by obtain⟨_,e,_⟩:=pl;exact X3 e
  refine kM (fK pl ⟨s.heap.objs.size,[s.heap.objs.size,l],[s.heap.objs.size],_,its.toArray.size,_,_,λi=>ns.getD i 0,rfl,(Walks.tuple (A:=X.A.in1) (I.ok.hd hc) _ _ (Xc hlt) its.toArray).toS,⟨⟨_,X5 _ rfl,rfl,rfl⟩,pl.push _⟩,?_,val,λs' t' mv=>fin _ s' t' mv⟩);intro b hb;show b<(s.heap.push _).objs.size;rw[S7];rcases xn.mp hb with z|z
  .rw[z];exact S8 _
  .rw[xr.mp z];exact Sy hlt
end
section
variable{X:Cx}{ρ:Rho}{a b e:aj}{ds:List D}{i j:Int}{pos p p1 p2:aM}{y z:ah}{lo hi:Option aj}{l u:Option Int}
theorem Oo{K:k9d}{H:Hp}:∀{ts:List ah}{xs:List V},j4 K H (ts.map D.str) xs->xs=ts.map V.str
 |[],_,h=>h
 |t::ts,_,⟨x,r,e,h,l⟩=>by subst e;cases(show x=.str t from h);rw[Oo l];rfl
theorem vg{K:k9d}{H:Hp}:∀{ts:List Int}{xs:List V},j4 K H (ts.map D.int) xs->xs=ts.map V.int
 |[],_,h=>h
 |t::ts,_,⟨x,r,e,h,l⟩=>by subst e;cases(show x=.int t from h);rw[vg l];rfl
theorem DE.lenS (ha:DT X ρ a (.str y)) (hy:y.length<=ak) (hm:X.mg "len" = a9) (hg:Gl X "len") (hs:a8 [a] X.env=[(a4,ay a X.env)]):DE X ρ (.Call (.Name "len" p) [a] [] pos) (.int y.length):=λσ H Q R q =>(J0 j2i hg hm eD (jg peS jy hs) (by decide) (by decide) hs).to (ha σ H _ R λv H1 g1 e1=>⟨y,by rw[show v=.str y from e1],hy,q _ H1 g1 rfl⟩)
theorem DE.catS(ha:DT X ρ a (.str y))(hb:DT X ρ b (.str z))(hl:y.length+z.length<=ak):DE X ρ (.BinOp a .Add b pos) (.str (y++z)):=λσ H Q R q =>(W5 j54 peS peS).to (ha σ H _ R λv H1 g1 e1=>hb σ H1 _ (R.grow g1) λu H2 g2 e2=>⟨y,z,e1,e2,hl,q _ H2 (g1.trans g2) rfl⟩)
theorem DE.ixC{c:Nat}(ha:DT X ρ a (.str y))(hb:DT X ρ b (.int i))(hy:y.length<=ak)(h:L2.atI y.cps.toList i=a3 c)(hs:U7 b):DE X ρ (.Subscript a b pos) (.str ⟨#[c]⟩):=λσ H Q R q =>(Cu jig peS peS hs).to (ha σ H _ R λv H1 g1 e1=>hb σ H1 _ (R.grow g1) λu H2 g2 e2=>⟨y,i,c,e1,e2,hy,h,q _ H2 (g1.trans g2) rfl⟩)
theorem DE.sliceS(ha:DT X ρ a (.str y))(hl:DP X ρ lo l)(hu:DP X ρ hi u)(hy:y.length<=ak):DE X ρ (.Subscript a (.Slice lo hi a9 p2) pos) (.str (bM y l u)):=λσ H Q R q =>(Ft jgl peS poS poS).to (ha σ H _ R λv H1 g1 e1=>hl σ H1 _ (R.grow g1) λH2 g2=>hu σ H2 _ (R.grow (g1.trans g2)) λH3 g3=>⟨y,e1,hy,q _ H3 (g1.trans (g2.trans g3)) rfl⟩)
theorem DE.int1 {k:Bool} (ha:DT X ρ a (.bl k)) (hm:X.mg "int" = a9) (hg:Gl X "int") (hs:a8 [a] X.env=[(a4,ay a X.env)]):DE X ρ (.Call (.Name "int" p) [a] [] pos) (.int (if k then 1 else 0)):=λσ H Q R q =>(O9 j8l hg hm boot_int (jg peS jy hs) (by decide) (by decide) hs).to (ha σ H _ R λv H1 g1 e1=>.inr ⟨k,by rw[show v=.bl k from e1],q _ H1 g1 rfl⟩)
theorem DE.sum (lst:Bool) {ns:List Int} (ha:DT X ρ a (D.seq lst (ns.map D.int))) (hm:X.mg "sum" = a9) (hc:X.calm=a6) (hg:Gl X "sum") (hs:a8 [a] X.env=[(a4,ay a X.env)]):DE X ρ (.Call (.Name "sum" p) [a] [] pos) (.int ns.sum):=λσ H Q R q =>
 (J0 (j8d hc) hg hm boot_sum (jg peS jy hs) (by decide) (by decide) hs).to (ha σ H _ R λv H1 g1 e1=>by
  obtain⟨t,xs,ev,sq,en⟩:=Vs e1
  subst ev
  rw[vg en]at sq
  exact⟨lst,t,ns,rfl,sq,q _ H1 g1 rfl⟩)
theorem DE.join{sep:ah}{ts:List ah}{n:Nat}{p0:aM}(ha:DT X ρ a (.lst (ts.map D.str)))(hok:fc sep ts=a6)
  (hfew:((aL p2 (a8 [a] X.env)).all (λx=>!x.1)&&(aT p2 (aD [] X.env)).all (λx=>x.1.isSome)&&decide (([a]:List aj).length+([]:List aS).length+(if ([]:List aS).isEmpty then 0 else 1)<30))=a6)
  (hbase:aI (.Constant (.str sep) n p0) "join" X.env (ay (.Constant (.str sep) n p0) X.env)=ay (.Constant (.str sep) n p0) X.env)
  (hline:(p1.endLine==p2.line)=a6) (hs:a8 [a] X.env=(a4,ay a X.env)::a8 [] X.env):DE X ρ (.Call (.Attribute (.Constant (.str sep) n p0) "join" p1) [a] [] p2) (.str (eJ sep ts)):=λσ H Q R q =>
 (Rn PySem.F.plainAttrs_str iN PySem.F.type_str_join je9 j6y (jg peS jy hs) hbase hfew hline hs rfl).to ⟨rfl,ha σ H _ R λv H1 g1 ⟨t,xs,e,sq,en⟩=>⟨sep,t,ts,rfl,by rw[e],by rw[Oo en]at sq;exact sq,hok,q _ H1 g1 rfl⟩⟩
end
section
variable{prog:av}{w:az}{A:aB}{lst:Bool}{j t:ae}{its:Array aa}
theorem j5i(hh:A.handled=a9)(hne:t≠j):Draws prog w A j [j,t] its.size (λi v=>its[i]?=a3 v) (λi h=>zc lst h j t i/\qz lst h t its) where
 live:=λ_ _ st=>by obtain⟨o,e,_⟩:=st.1.obj;exact⟨o,e⟩
 frame:=λ_ h h' st hk=>⟨st.1.stay λo e=>hk j (by simp) o e,by
  have q:=st.2
  unfold qz at q ⊢
  cases lst with
  |true=>rw[if_pos rfl]at q ⊢;exact q.at λo e=>hk t (by simp) o e
  |false=>rw[if_neg xg]at q ⊢;exact q.at λo e=>hk t (by simp) o e⟩
 item:=λi s Q E hi st hQ=>j6h st.1 st.2 (y:=its[i]) (by simp[hi]) λh' hit' hs'=>hQ _ h' s.toks (by simp[hi]) ⟨hit',st.2.ext hs'.extBut hne⟩ hs'
 done:=λs Q E st hE=>j12 hh st.1 st.2 (by simp) hE
theorem j7u{n:Nat}(hh:A.handled=a9)(hne:t≠j)(hn:its[n]?=a9):Draws prog w A j [j,t] n (λi v=>its[i]?=a3 v) (λi h=>i=n/\zc lst h j t i/\qz lst h t its) where
 live:=λ_ _ st=>by obtain⟨o,e,_⟩:=st.2.1.obj;exact⟨o,e⟩
 frame:=λ_ h h' st hk=>⟨st.1,st.2.1.stay λo e=>hk j (by simp) o e,by
  have q:=st.2.2
  unfold qz at q ⊢
  cases lst with
  |true=>rw[if_pos rfl]at q ⊢;exact q.at λo e=>hk t (by simp) o e
  |false=>rw[if_neg xg]at q ⊢;exact q.at λo e=>hk t (by simp) o e⟩
 item:=λi s Q E hi st hQ=>absurd st.1 (Xc hi)
 done:=λs Q E st hE=>j12 hh st.2.1 st.2.2 hn hE
end
noncomputable abbrev eh2(h:aC)(lst:Bool)(t:ae):aC:=(zh1 h lst t).push { cls:=.type "enumerate",data:=.fields #[.none,.bool a4,.ref h.objs.size,dW 0,.none,.none] }
theorem jb0 {lst:Bool} (t:ae) (its:Array aa):mz (eN.«enumerate.__new__» ⟨[.type "enumerate",.ref t],[]⟩) (λ_ R s=>qz lst s.heap t its/\R (.ok (.ret (.ref (zh1 s.heap lst t).objs.size))) { s with heap:=eh2 s.heap lst t }) :=
 .of_wp λprog w A R s h=>by
  obtain⟨hp,g,d,tk,os⟩:=s;obtain⟨h1,h⟩:=h;have hsub:=sub_enumerate;have e1:qz lst (Shared.heap ⟨hp,g,d,tk,os⟩) t its:=h1;have ld:∃o:dw,hp.get? t=a3 o:=by
   unfold qz at e1;cases lst with
   |true=>rw[if_pos rfl]at e1;obtain⟨o,e,_⟩:=e1;exact⟨o,e⟩
   |false=>rw[if_neg xg]at e1;obtain⟨o,e,_⟩:=e1;exact⟨o,e⟩
  obtain⟨o,ho⟩:=ld
  wp_walk using bX ho
  refine wpAny_stack_any λstk=>?_;refine ai ?_;split
  .rename_i cl _ _ _ _ _;cases(cl==bO "enumerate")
   .wp_walk using bX ho,Og e1
    exact⟨_,rfl,h⟩
   .wp_walk using bX ho,Og e1
    exact⟨_,rfl,h⟩
  .wp_walk using bX ho,Og e1
   exact⟨_,rfl,h⟩
noncomputable def Ite(K:k9d)(lst:Bool)(t:ae):It :=
 ⟨λi H=>∃xs x,SqB K lst H t xs/\xs[i]?=a3 x,
 λi H v H'=>∃p x,v=.ref p/\H p=a9/\H'=upd H p (.tup [.int (i:Int),x])/\∀xs,SqB K lst H t xs->xs[i]?=a3 x,
 λi H=>∃xs,SqB K lst H t xs/\xs.length<=i⟩
theorem j65{P:av}{w:az}{K:k9d}{es:List aj}{n:Nat}{pos:aM}{lst:Bool}{z j t:ae}(hzj:z≠j)(hzt:z≠t)(htj:t≠j) :
  Turn P w K (.Tuple es n pos) (Ite K lst t) [z,j] z (λi h=>(∃old,IsEnum h z j (i:Nat) old)/\zc lst h j t i) where
 mem:=by simp
 obj:=λi h ⟨⟨old,hz⟩,h1⟩ c hc=>by
  simp at hc;rcases hc with rfl|rfl
  .exact⟨_,hz,λv e=>by cases e⟩
  .exact h1.obj
 keep:=λi h h' ⟨⟨old,hz⟩,h1⟩ k=>⟨⟨old,k z (by simp) _ hz⟩,h1.stay λo e=>k j (by simp) o e⟩
 item:=by
  rintro X hP hw hK hc i pins s σ H E I hf ⟨⟨old,hz⟩,h1⟩ ⟨xs,x,sx,hx⟩;subst hP hw hK;obtain⟨us,ru,qu,_⟩:=I.side sx;obtain⟨u,hu,rx⟩:=ru.get hx;have hlt:i<us.toArray.size:=by obtain⟨h,_⟩:=X8.mp hu;simpa using h
  refine wpAny_pyNext_enum_itemD (j5i (A:=X.A.in1) (I.ok.hd hc) htj) hz ⟨h1,qu⟩ hlt hzj (by simp[hzj,hzt]) λv h' tk hv ho st ht sz kp=>⟨_,rfl,?_⟩
  have ev:u=v:=by
   have:us.toArray[i]?=a3 u:=by simpa using hu
   rw[this]at hv;exact aw hv
  subst ev;refine wpAny_letOwnedTupleGo_enum (s:={ s with heap:=h',toks:=tk+1 }) ho λh'' z'' sb=>?_
  replace sb:cE z h' h'':=sb
  have zlt:z<s.heap.objs.size:=X3 hz;have kp':∀c o,c∉[z,j]->s.heap.get? c=a3 o->h''.get? c=a3 o:=λc o nc e=>by simp at nc;exact sb.extBut _ _ nc.1 (kp c o nc.1 nc.2 e)
  have pt:ig h'' s.heap.objs.size [.int i tk,u].toArray:=⟨_,sb.extBut _ _ (Tc zlt) ht,rfl,_,rfl⟩
  have I2:=(I.chgT hf kp' (xs:=[.int (i:Int),x]) (.cons ⟨tk,rfl⟩ (.cons rx .nil)) (by show 2<=ak;decide) pt (Vg.of (sb.extBut _ _ (Tc zlt) ht))).tok (tk+1);refine⟨.ref s.heap.objs.size,_,I2,rfl,⟨_,x,rfl,I.fresh,rfl,λws hw=>by rw[I.side_inj hw sx];exact hx⟩,⟨⟨u,?_⟩,st.1.ext sb.extBut (cb hzj)⟩,λc hc=>?_⟩
  .have e:((i+1:Nat):Int)=(i:Int)+1:=by push_cast;rfl
   rw[e];exact z''
  .obtain⟨o,e⟩:∃o,s.heap.get? c=a3 o:=by
    simp at hc;rcases hc with rfl|rfl
    .exact⟨_,hz⟩
    .obtain⟨o,e,_⟩:=h1.obj;exact⟨o,e⟩
   rw[ji (Xc (X3 e))];exact(hf c hc).1
 done:=by
  rintro X hP hw hK hc i pins s σ H E I hf ⟨⟨old,hz⟩,h1⟩ ⟨xs,sx,hend⟩;subst hP hw hK;obtain⟨us,ru,qu,_⟩:=I.side sx;have e1:=ru.length;have hn:us.toArray[i]?=a9:=by simp;omega
  refine wpAny_pyNext_enum_endD (j7u (A:=X.A.in1) (I.ok.hd hc) htj hn) hz ⟨rfl,h1,qu⟩ λh' kp=>⟨rfl,I.chg hf λc o nc e=>?_⟩
  simp at nc;exact kp c o nc.2 e
 self:=λ_ _ _ _ _ ⟨⟨old,hz⟩,_⟩ h=>kJ hz h
section
variable{X:Cx}{ρ:Rho}{a b:aj}{es:List aj}{n:Nat}{pos p q1 q2:aM}{ds ds':List D}{lst:Bool}
noncomputable def Jl(ds:List D):List D:=ds.zipIdx.map λp=>D.tup [.int (p.2:Int),p.1]
theorem El{i:Nat}:(Jl ds)[i]?=(ds[i]?).map λd=>D.tup [.int (i:Int),d]:=by unfold Jl;rw[xx,iD];cases ds[i]?<;>simp
theorem j7i{K:k9d}{F:Hp}{t:ae}{xs:List V}(s1:SqB K lst F t xs)(e1:j4 K F ds xs):Uw K F (Ite K lst t) (Jl ds):=λi H A g hA=>by
 have s1':SqB K lst H t xs:=jt.seqB (g.seqB s1);have hl:(Jl ds).length=ds.length:=by unfold Jl;rw[km,d9]
 refine⟨λh=>?_,λh=>⟨xs,s1',?_⟩,λv H' ⟨p,x,ev,np,eH,hx⟩=>?_⟩
 .rw[hl]at h;obtain⟨x,hx,_⟩:=e1.get (kh h);exact⟨xs,x,s1',hx⟩
 .rw[hl]at h;rw[e1.length];exact h
 .subst eH;refine⟨j7 np,λd hd=>?_⟩;rw[El]at hd;cases z:ds[i]? with
  |none=>rw[z]at hd;cases hd
  |some d1 =>rw[z]at hd;cases hd;obtain⟨x',hx',ex⟩:=e1.get z;have q1:=hx xs s1';rw[hx']at q1;have q1:=aw q1;subst q1;have pA:p∉A:=λz=>hA p z np;have gg:j0 F (del (upd H p (.tup [.int (i:Int),x'])) A):=g.trans (jh (j7 np));exact⟨p,[.int (i:Int),x'],ev,.inl (.inl (by rw[j6 pA];exact j9)),.int (i:Int),[x'],rfl,rfl,x',[],rfl,ex.mono gg,rfl⟩
theorem DI.enum (lst:Bool) (ha:DE X ρ a (D.seq lst ds)) (hm:X.mg "enumerate" = a9) (hg:Gl X "enumerate") (hs:a8 [a] X.env=[(a4,ay a X.env)]):DI X ρ (.Tuple es n q1) (.Call (.Name "enumerate" p) [a] [] pos) (Jl ds):=λσ H R r q pins s I=>by
 have args:Kd X [a] σ H (λvs H'=>∃v,vs=[v]/\j0 H H'/\Enc X.K (del H' (owns ρ)) (D.seq lst ds) v) :=
  (jg peS jy hs).to (ha σ H _ r λv H1 g1 e1=>⟨v,rfl,g1,e1⟩)
 refine Call_ (Ql I hg hm boot_enumerate (callWith_type1 (thn (args pos pins s I) λus s1 h1=>?_) hs rfl));obtain⟨vs,H1,I1,r1,v,ev,g1,e1⟩:=h1;subst ev;obtain⟨t,xs,et,sq,en⟩:=Vs e1;subst et;obtain⟨u1,eu,ru1⟩:=r1.one;subst eu;cases ru1;obtain⟨w1,rw1,qw1,_⟩:=I1.side (jt.seqB sq);refine callType_new F.called_enumerate (by decide) (F.typeCall_enumerate_1 _) (F.newCall_enumerate_1 _) (λobj=>j3 obj _) F.entry_enumerate_new (jb0 (lst:=lst) t w1.toArray) ⟨qw1,?_⟩;have z1:(zh1 s1.heap lst t).objs.size=s1.heap.objs.size+1:=S7 ..;have b2:(eh2 s1.heap lst t).get? (zh1 s1.heap lst t).objs.size=a3 _:=X5 _ rfl;have b1:(eh2 s1.heap lst t).get? s1.heap.objs.size=a3 _:=xj _ (X5 _ rfl);have kp:∀c o,s1.heap.get? c=a3 o->(eh2 s1.heap lst t).get? c=a3 o:=λc o e=>xj _ (xj _ e);show _/\_;rw[z1]at b2 ⊢;have I2:Inv X pins σ H1 { s1 with heap:=eh2 s1.heap lst t }:=I1.kept (t':=s1.toks) kp;have lt1:t<s1.heap.objs.size:=by
  unfold qz at qw1;cases lst with
  |true=>rw[if_pos rfl]at qw1;obtain⟨_,e,_⟩:=qw1;exact X3 e
  |false=>rw[if_neg xg]at qw1;obtain⟨_,e,_⟩:=qw1;exact X3 e
 have side:zc lst (eh2 s1.heap lst t) s1.heap.objs.size t 0:=by
  unfold zc;cases lst with
  |true=>rw[if_pos rfl];exact⟨_,b1,rfl,rfl⟩
  |false=>rw[if_neg xg];exact⟨_,b1,rfl,rfl⟩
 refine⟨⟨_,b2,rfl⟩,kJ (s:={ s1 with heap:=eh2 s1.heap lst t }) b2 ?_⟩;refine⟨_,_,_,Ite X.K lst t,H1,rfl,I2,j65 (j:=s1.heap.objs.size) (Nat.succ_ne_self _) (Tc (Sy lt1)) (Xc lt1),⟨⟨_,b2⟩,side⟩,λc hc=>?_,q _ H1 g1 (j7i sq en)⟩;have hc':c=s1.heap.objs.size+1\/c=s1.heap.objs.size:=by simpa using hc
 have hge:s1.heap.objs.size<=c:=by rcases hc' with e|e<;>rw[e]<;>first|exact xu _|exact Nat.le_add_right _ _
 obtain⟨f0,f1,f2,f3,f4,f5⟩:=I1.fpOk hge (I1.hok.fresh hge);exact⟨f0,f1,f2,f3,f4,f5⟩
end
section
variable{X:Cx}
theorem j9r:OpR X (b8 .FloorDiv) (rI (λ_ j=>0<j/\j<18446744073709551616) λi j=>.int (i/j)):=opI λi j _ _ _ _ _ hc q=>by
 have e:i/j=i.fdiv j:=by rw[gE _ nofun]
 refine floordiv_int nofun (by rw[<-e];exact q) (.inl (PyProof.noPylong_of_log2 ?_))
 have h2:(2:Nat)^64=18446744073709551616:=by decide
 have:=(Nat.log2_lt (n:=j.natAbs) (k:=64) nofun).mpr (by rw[h2];omega);omega
theorem j79 (hu:X.A.units+100<aV):MtR X "list.count" (λx vs H Q=>∃t xs ds d y,x=.ref t/\vs=[y]/\SqL X.K H t xs/\j4 X.K H ds xs/\Enc X.K H d y/\D.depL ds<=97/\d.dep<10000/\Q (.int (ds.countP λe=>deq e d)) H):=by
 rintro pins s σ H x vs v us Q I rx rv ⟨t,xs,ds,d,y,e,e',sq,l,en,hd,nd,q⟩;subst e e';cases rx;obtain⟨u,eu,ru⟩:=rv.one;subst eu;obtain⟨its,ri,⟨⟨cl,dd,da,sl⟩,n,h1,h2,h4,h3⟩,_⟩:=I.list sq;have h2:cl=.type "list":=h2;have h3:da=.seq its.toArray n:=h3;subst h2 h3;refine bA iy ⟨_,h1,rfl⟩ F.entry_list_count (F.args_list_count_2 _ _) (SeqAt.list_countAt t its.toArray n dd sl u (eqW X H d)) ⟨h1,λy hy=>Wz (n:=97) I en ru nd (by show X.A.units+1+97<aV;omega) hd l ri y (by simpa using hy),?_⟩;have ev:(its.toArray.toList.countP (eqW X H d):Nat)=ds.countP λe=>deq e d:=by rw[eR];exact Mg I nofun l ri
 rw[ev];exact⟨.int _,H,I.tok _,⟨_,rfl⟩,q⟩
end
section
variable{X:Cx}{ρ:Rho}{a b e:aj}{d d':D}{ds:List D}{i j:Int}{pos p p1 p2:aM}{P:Po}
theorem DE.fdivB(ha:DT X ρ a (.int i))(hb:DT X ρ b (.int j))(h:0<j/\j<18446744073709551616):DE X ρ (.BinOp a .FloorDiv b pos) (.int (i/j)):=DE.arI (g:=λi j=>i/j) j9r ha hb h
theorem DE.countL (hu:X.A.units+100<aV) (ha:DT X ρ a (.lst ds)) (hb:DT X ρ b d) (hd:D.depL ds<=97) (nd:d.dep<10000) (hbase:aI a "count" X.env (ay a X.env)=ay a X.env)
  (hfew:((aL p2 (a8 [b] X.env)).all (λx=>!x.1)&&(aT p2 (aD [] X.env)).all (λx=>x.1.isSome)
   && decide (([b]:List aj).length+([]:List aS).length+(if ([]:List aS).isEmpty then 0 else 1)<30))=a6) (hline:(p1.endLine==p2.line)=a6)
  (hs:a8 [b] X.env=(a4,ay b X.env)::a8 [] X.env):DE X ρ (.Call (.Attribute a "count" p1) [b] [] p2) (.int (ds.countP λe=>deq e d)):=λσ H Q R q =>
 (Rn Td iy PySem.F.type_list_count (j79 hu) peS (jg peS jy hs) hbase hfew hline hs rfl).to (ha σ H _ R λv H1 g1 ⟨t,xs,e,sq,l⟩=>⟨by rw[e];exact .inl ⟨rfl,xs,sq⟩,hb σ H1 _ (R.grow g1) λu H2 g2 e2 =>
  ⟨t,xs,ds,d,u,e,rfl,g2.seq sq,l.mono g2,e2,hd,nd,q _ H2 (g1.trans g2) rfl⟩⟩)
theorem DS.par{n m:Nat}{x y:ah}{px py pt pt2:aM}{kt k2:Nat}(hij:n≠m)(ha:DE X ρ a d)(hb:DE X ρ b d')(h:P.nx ((ρ.set n (.val d)).set m (.val d')))(hc:X.calm=a6)(hN:X.N.Nodup)(hi:X.N[n]?=a3 x)(hj:X.N[m]?=a3 y)
  (hx:X.env.scope.names.lookup x=a3 .local) (hy:X.env.scope.names.lookup y=a3 .local) (hw:bR [.Tuple [.Name x px,.Name y py] kt pt] (.Tuple [a,b] k2 pt2) X.env=pure (a3 [x,y]))
  (hsw:bQ [.Tuple [.Name x px,.Name y py] kt pt] (.Tuple [a,b] k2 pt2) pos.line X.env=pure a4) (hs:a8 [a,b] X.env=(a4,ay a X.env)::a8 [b] X.env) (hs2:a8 [b] X.env=(a4,ay b X.env)::a8 [] X.env) :
  DS X ρ (.Assign [.Tuple [.Name x px,.Name y py] kt pt] (.Tuple [a,b] k2 pt2) pos) P:=λσ H E R q =>
 (jh7 hc hN hi hj hij hx hy (jg peS (jg peS jy hs2) hs) hw hsw).to (ha σ H _ R λv H1 g1 e1=>hb σ H1 _ (R.grow g1) λu H2 g2 e2 =>
  have R1:Rep X.K (ρ.set n (.val d)) (σ.set n (a3 v)) H2:=(R.grow (g1.trans g2)).set_val (e1.mono (jh g2))
  ⟨v,u,rfl,q.nx _ _ H2 h (R1.set_val (e2.mono (v8 λb hb=>(jf rfl).subset hb))) (j0.trans (Fr0.grow (g1.trans g2)) (Fr0.drop λb hb=>(jf rfl).subset ((jf rfl).subset hb)))⟩)
end
noncomputable def ddS(acc:List ah)(v:ah):List ah:=if acc.any (· == v)=a6 then acc else acc++[v]
noncomputable def dd(ts:List ah):List ah:=ts.foldl ddS []
theorem jfj(ts:List ah)(v:ah):dd (ts++[v])=ddS (dd ts) v:=by simp[dd]
theorem Lj:∀(ts acc:List ah),(ts.foldl ddS acc).length<=acc.length+ts.length
 |[],acc=>by simp
 |v::ts,acc=>by
  have h:=Lj ts (ddS acc v);have h2:(ddS acc v).length<=acc.length+1:=by unfold ddS;split<;>simp
  rw[Tt,X7];omega
def Zj(P:av)(w:az)(h:aC)(S:ae)(ts:List ah):Prop:=h.SetOf (du P w) S (λk=>(dd ts).any (· == k)) (dd ts).length
section
variable{P:av}{w:az}{A:aB}{I S:ae}{fp wr:List ae}{Gn:Array ff->Array ff->Prop}{Pv:Nat->aa->Prop}{St:Nat->af->Prop}{ts:List ah}
theorem Zj.stay{h h':aC}(x:Zj P w h S ts)(k:∀o,h.get? S=a3 o->h'.get? S=a3 o):Zj P w h' S ts:=by obtain⟨o,es,ep,t,ho,r⟩:=x;exact⟨o,es,ep,t,k o ho,r⟩
theorem Zj.more{h:aC}{v:ah}(x:h.SetOf (du P w) S (λk=>(dd ts).any (· == k) || decide (k=v)) (if (dd ts).any (· == v)=a6 then(dd ts).length else(dd ts).length+1)):Zj P w h S (ts++[v]):=by
 unfold Zj;rw[jfj];have e1:(λk=>(ddS (dd ts) v).any (· == k))=λk=>(dd ts).any (· == k) || decide (k=v):=by
  funext k
  unfold ddS;by_cases h1:(dd ts).any (· == v)=a6
  .rw[if_pos h1];by_cases h2:k=v
   .subst h2;rw[h1];rfl
   .rw[decide_eq_false h2,gO]
  .rw[if_neg h1,List.any_append];congr 1;by_cases h2:k=v
   .subst h2;simp
   .have:¬v=k:=λz=>h2 z.symm;simp[h2,this]
 have e2:(ddS (dd ts) v).length=if (dd ts).any (· == v)=a6 then(dd ts).length else(dd ts).length+1:=by unfold ddS;split<;>simp
 rw[e1,e2];exact x
theorem fill{R:fO->af->Prop}(W:WalksS P w A.in1 I fp wr Gn ts.length Pv St)(out:S∉fp)(hv:∀i v,Pv i v->∃x t,ts[i]?=a3 x/\v=.str x t)(room:ts.length+1<gx):∀(r i:Nat)(q:af),i+r=ts.length->St i q->Zj P w q.heap S (ts.take i) ->
  (∀q',Moved (S::wr) Gn q q'->Zj P w q'.heap S ts->R (.ok (.ret .none)) q')->cG (ax P w) A (.builtin "set.update.loop" ⟨[.ref S,.ref I],[]⟩) R q:=by
 have outw:S∉wr:=λz=>out (W.sub S z);have wider:∀b∈wr,b∈S::wr:=λb z=>xf S z;intro r;induction r with
 |zero =>intro i q hi st fu fin;have e:i=ts.length:=hi;subst e;refine bg dD ?_;rw[T3 bI _];refine a7 (m:=dX (.ref I)) (W.done q _ _ st λq' mv=>?_);refine ai (fin q' (mv.mono wider) ?_);rw[cN]at fu;exact fu.stay λo z=>mv.heap S o outw z
 |succ r ih =>
  intro i q hi st fu fin;have lt:i<ts.length:=by omega
  refine bg dD ?_;rw[T3 bI _];refine a7 (m:=dX (.ref I)) (W.item i q _ _ lt st λv q' pv st' mv=>?_);obtain⟨x,t,hx,ev⟩:=hv i v pv;subst ev;have fu':Zj P w q'.heap S (ts.take i):=fu.stay λo z=>mv.heap S o outw z;refine a7 (m:=cF [bG x t] (setAdd S (.str x t))) (bx ?_);unfold setAdd;refine bx (a7 ((du P w).pyHash (k:=x) (strKind_is P w x t) ?_));have small:(dd (ts.take i)).length+1<gx:=by
   have:=Lj (ts.take i) [];have e:(dd (ts.take i)).length<=i:=by
    have:([]:List ah).length+(ts.take i).length<=i:=by rw[Xq,Tg];omega
    exact Xl (Lj (ts.take i) []) this
   omega
  refine wpAny_setAddHashed_of (knd:=du P w) (strKind_is P w x t) rfl fu' small λh' sb full2=>?_;have next:Zj P w h' S (ts.take (i+1)):=by rw[Tw,hx];exact Zj.more full2
  refine ai ⟨cD bI _,ih (i+1) _ nofun (W.frame _ q' _ _ st' (Pr _) λb hb o e=>?_) next λq2 mv2 full3=>?_⟩
  .have ne:b≠S:=λz=>out (z▸hb);rw[sb.2 b ne];exact e
  .refine fin q2 (Moved.trans W.gtrans ((mv.mono wider).then_heap (Pr _) λb o hb e=>?_) mv2) full3;have ne:b≠S:=λz=>hb (by rw[z];exact xq ..);rw[sb.2 b ne];exact e
end
section
variable{P:av}{w:az}{A:aB}{E:k9e}{s:af}
noncomputable abbrev Jy(led:Bool):dw:={ cls:=.type "set",dict:=a9,data:=.set #[] 0 (.fresh 0 0 led) }
theorem jal{led:Bool}{l:ae}{its:Array aa}{ts:List ah}{X:PySem.Fin->af->Prop}{Y:k9e}(hh:A.handled=a9)(hl:s.heap.IsList l its)(hts:∀(i:Nat)(v:aa),its[i]?=a3 v->∃x t,ts[i]?=a3 x/\v=.str x t)(hn:its.size=ts.length)(room:ts.length+1<gx)
  (q:∀h' tk,Zj P w h' s.heap.objs.size ts->(∀b o,b<s.heap.objs.size->s.heap.get? b=a3 o->h'.get? b=a3 o)->X (.done (.ret .none)) { s with heap:=h',toks:=tk }) :
  ar (ax P w) A.in1 (eN.«set.__init__» ⟨[.ref s.heap.objs.size,.ref l],[]⟩) X Y { s with heap:=s.heap.push (Jy led) }:=by
 obtain⟨⟨oc,od,oda,os⟩,e1,e2,n,e3⟩:=hl;have e2:oc=.type "list":=e2;have e3:oda=.seq its n:=e3;subst e2 e3;have here:(s.heap.push (Jy led)).get? s.heap.objs.size=a3 (Jy led):=X5 _ rfl;have lst:(s.heap.push (Jy led)).get? l=a3 { cls:=.type "list",dict:=od,data:=.seq its n,slots:=os }:=xj _ e1;have ne1:=PySem.F.sub_list_set;have ne2:=PySem.F.sub_list_frozenset;have ne3:(bO "list" == bO "dict")=a4:=by decide
 have isl:(s.heap.push (Jy led)).IsList l its:=⟨_,lst,rfl,n,rfl⟩
 unfold eN.«set.__init__» noKeywords Builtin.Frozenset.updateFrom;generalize keep:ic=PI
 wp_walk
 subst keep;refine bu isl (a7 (mi ?_));have lt:l<s.heap.objs.size:=X3 e1;have sz:(s.heap.push (Jy led)).objs.size=s.heap.objs.size+1:=S7 ..;have walk:=(Walks.list (prog:=P) (w:=w) (A:=A.in1.in1) (by simp[hh]) (s.heap.push (Jy led)).objs.size l (by rw[sz];exact Xc (Sy lt)) its).toS;rw[hn]at walk;refine fill (ts:=ts) (S:=s.heap.objs.size) walk (λz=>?_) hts room ts.length 0 { s with heap:=(s.heap.push (Jy led)).push { cls:=.type "list_iterator",data:=.fields #[.ref l,.int 0 0] } } nofun ⟨⟨_,X5 _ rfl,rfl,rfl⟩,isl.push _⟩ ?_ λq' mv full=>?_
 .rw[sz]at z;rcases xn.mp z with z|z
  .exact Xc (S8 _) z
  .exact Tc lt (xr.mp z)
 .have z:Zj P w (s.heap.push (Jy led)) s.heap.objs.size []:=(setObjOf_fresh (knd:=du P w) led).setOf here (by unfold gx;omega);exact z.stay λo e=>xj _ e
 .obtain⟨h',g',d',tk',os'⟩:=q';obtain⟨m1,m2,m3,m4,m5⟩:=mv;cases m2;cases m3;cases m4;refine ai (ai (q h' tk' full λb o hb e=>m1 b o ?_ (xj _ (xj _ e))));intro z;rw[sz]at z;rcases xn.mp z with z|z
  .exact Xc hb z
  .exact Xc (Sy hb) (xr.mp z)
theorem j8e{l:ae}{its:Array aa}{ts:List ah}{Q:k9e}(hh:A.handled=a9)(hl:s.heap.IsList l its)(hts:∀(i:Nat)(v:aa),its[i]?=a3 v->∃x t,ts[i]?=a3 x/\v=.str x t)(hn:its.size=ts.length)(room:ts.length+1<gx)
  (q:∀h' tk,Zj P w h' s.heap.objs.size ts->(∀b o,b<s.heap.objs.size->s.heap.get? b=a3 o->h'.get? b=a3 o)->Q (.ref s.heap.objs.size) { s with heap:=h',toks:=tk }):ar (ax P w) A (call (.type "set") [.ref l]) Q E s:=by
 have cs:=PySem.F.called_set;obtain⟨c0,tl0,hm0⟩:=cs.mro;have m1:=cs.made;have m2:=cs.sub;have m3:=cs.notType;have m4:=cs.canCreate;have m5:=PySem.F.typeCall_set_1 (.ref l);refine eL (lY (?_:ar _ _ (callAny (.type "set") _) _ _ _));refine ai ⟨Code.quiet_builtin _ (by decide +kernel),bg PySem.F.entry_type_call ?_⟩;rw[Around.under_plain (weight_type_call_type "set" [.ref l] []) rfl]
 repeat (any_goals (first|assumption|wp_step))
 refine bh (PySem.code_set_new_1 (.ref l) (E:=E) (Q₁:=λo q1=>∃led:Bool,o=.ref s.heap.objs.size/\q1={ s with heap:=s.heap.push (Jy led) }) λled=>⟨led,rfl,rfl⟩) λr q1 hr=>?_;cases r with
 |error e=>exact hr
 |ok fl =>
  cases fl with
  |ret o =>
   obtain⟨led,eo,eq1⟩:=hr;subst eo eq1;have ty:Shared.TypeIs { s with heap:=s.heap.push (Jy led) } (.ref s.heap.objs.size) "set":=⟨_,X5 _ rfl,rfl⟩
   have m6:=cs.init.lookup;have m7:=cs.init.bind (.ref s.heap.objs.size)
   repeat (any_goals (first|assumption|wp_step))
   refine bh (codeAny_call_builtin (R:=wants (λr q2=>r=.none/\∃h' tk,q2={ s with heap:=h',toks:=tk }/\Zj P w h' s.heap.objs.size ts/\∀b o,b<s.heap.objs.size->s.heap.get? b=a3 o->h'.get? b=a3 o) E) cs.init.plain PySem.F.entry_set_init (PySem.check_set_init_1 ty ?_)) λr2 q2 hr2=>?_
   .exact jal (led:=led) (by simp[hh]) hl hts hn room λh' tk full old=>⟨rfl,h',tk,rfl,full,old⟩
   .cases r2 with
    |error e=>exact hr2
    |ok fl2 =>
     cases fl2 with
     |ret r3 =>
      obtain⟨e3,h',tk,e4,full,old⟩:=hr2;subst e3 e4
      repeat (any_goals (first|assumption|wp_step))
      exact q _ _ full old
     |_=>exact hr2.elim
  |_=>exact hr.elim
end
section
variable{X:Cx}{ρ:Rho}{a:aj}{p p1 p2 pos:aM}
theorem DE.lenSet {ts:List ah} (ha:DT X ρ a (.lst (ts.map D.str))) (hc:X.calm=a6) (room:ts.length+1<4096) (hm:X.mg "len" = a9) (hm2:X.mg "set" = a9) (hg:Gl X "len") (hg2:Gl X "set") (hs:a8 [a] X.env=[(a4,ay a X.env)])
  (hs2:a8 [.Call (.Name "set" p1) [a] [] p2] X.env=[(a4,ay (.Call (.Name "set" p1) [a] [] p2) X.env)]):DE X ρ (.Call (.Name "len" p) [.Call (.Name "set" p1) [a] [] p2] [] pos) (.int (dd ts).length):=λσ H Q R q pins s I=>by
 have inner:ar (ax X.prog X.w) X.A (ay (.Call (.Name "set" p1) [a] [] p2) X.env) (λu s2=>∃(S:ae)(H1:Hp),u=.ref S/\Inv X pins σ H1 s2/\j0 H H1/\Zj X.prog X.w s2.heap S ts) X.xe s:=by
  refine aG (Ql I hg2 hm2 boot_set ?_);refine callWith_type1 (thn ((jg (es:=[]) peS jy hs).to (σ:=σ) (H:=H) (Q:=λvs H1=>∃(l:ae)(xs:List V),vs=[.ref l]/\j0 H H1/\SqL X.K H1 l xs/\j4 X.K H1 (ts.map D.str) xs) (ha σ H _ R λv H1 g ⟨l,xs,e,sq,en⟩=>⟨l,xs,by rw[e],g,sq,en⟩) p2 pins s I) λus s1 ⟨vs,H1,I1,r,l,xs,ev,g,sq,en⟩=>?_) hs rfl;subst ev;obtain⟨u,eu,r1⟩:=vals1 r;subst eu;cases(show u=aF l from r1);obtain⟨its,rv,pl,_⟩:=I1.list sq;rw[Oo en]at rv;have hlen:its.toArray.size=ts.length:=by rw[X4,<-rv.length,km]
  refine j8e (ts:=ts) (I1.ok.hd hc) pl.isList (λi v hv=>?_) hlen (by show ts.length+1<4096;exact room) λh' tk full old=>?_
  .have hi:i<ts.length:=by have:=(Array.getElem?_eq_some_iff.mp hv).1;omega
   obtain⟨w1,hw,t,ew⟩:=rv.get (x:=.str ts[i]) (i:=i) (by rw[xx,kh hi];rfl);have:its.toArray[i]?=a3 w1:=by simpa using hw
   rw[this]at hv;cases hv;exact⟨ts[i],t,kh hi,ew⟩
  .exact⟨_,H1,rfl,I1.kept (t':=tk) λb o e=>old b o (X3 e) e,g,full⟩
 refine aG (Ql I hg hm eD ?_);refine cB (by rw[hs2];rfl) (ia ?_);show ar _ _ (hJ ((a4,ay _ X.env)::aL pos [])) _ _ s;refine d0 (thn inner λu s2 h2=>dn ?_);obtain⟨S,H1,rfl,I2,g,⟨o,es,ep,t,ho,hex,hd,hel,hmem,hb,hf,hn⟩⟩:=h2;refine call_len_set ho hex hd hf ?_ ?_
 .have:es.size<4096:=hb;omega
 .rw[hn];exact⟨.int _,H1,I2.tok _,⟨_,rfl⟩,q _ H1 g rfl⟩
end
section
variable{prog:av}{w:az}{A:aB}{E:k9e}{s:af}{d it vw:ae}{od:dw}{es:Array gC}{ep i:Nat}{ok ov:aa}
end
noncomputable def jik(ks:List (List Int))(ds:List D):List D:=(ks.zip ds).map λp=>D.tup [.tup (p.1.map D.int),p.2]
section
variable{X:Cx}{ρ:Rho}{a b:aj}{es:List aj}{n:Nat}{pos p p1 p2 q1:aM}{ks:List (List Int)}{ds:List D}{k:List Int}
theorem j1v{P:av}{w:az}:∀{ks:List Int}{us:List aa},Vals (ks.map V.int) us->ItemsAre (fm P w) ks us
 |[],_,r=>by rw[bY]at r;cases r;exact .nil
 |k::ks,_,r=>by
  rw[xm]at r;cases r with
  |cons h t =>
   obtain⟨tk,e⟩:=(show ∃t,_=bf k t from h)
   subst e;exact .cons (by simp[fm,kH]) (j1v t)
theorem Ky{pins:k9f}{σ:St}{H:Hp}{s:af}{t:ae}(I:Inv X pins σ H s)(sq:SqT X.K H t (k.map V.int)):(fj (fm X.prog X.w)).is s.heap k t:=by obtain⟨its,rv,⟨o,e1,e2,m,e3⟩,_⟩:=I.tuple sq;exact⟨o,its.toArray,m,e1,e2,e3,by simpa using j1v rv⟩
theorem j48{pins:k9f}{σ:St}{H:Hp}{s:af}{d:ae}{xs:List (List Int×ae×aa)}{ep:Nat}(I:Inv X pins σ H s)(hx:H d=a3 (.dI xs ep))(kt:∀x∈xs,SqT X.K H x.2.1 (x.1.map V.int)) :
  (d==eM)=a4/\xs.length<=ak/\s.heap.DictOfH (fj (fm X.prog X.w)) d xs:=by
 obtain⟨z1,z2,z3,od,en,h1,h2,h3,h4⟩:=(show jj X.prog X.w H s.heap d (.dI xs ep)from I.hok _ _ hx)
 exact⟨z2,z1,od,en,ep,h1,h2,h3,h4,λx hx=>Ky I (kt x hx),z3⟩
theorem j8r{xs:List (List Int×ae×aa)}:(jW xs k).isSome=(xs.map λx=>x.1).contains k:=by
 induction xs with
 |nil=>rfl
 |cons x xs ih =>
  unfold jW at ih ⊢;rw[Option.isSome_map]at ih ⊢;rw[k7,xm,List.contains_cons];by_cases z:x.1=k
  .simp[z]
  .have z':(k==x.1)=a4:=by simp;exact λe=>z e.symm
   rw[decide_eq_false z,z',kE];exact ih
theorem any_range:∀bs:List Bool,(aq bs.length).any (λi=>(bs[i]?).getD a6)=bs.any id
 |[]=>rfl
 |b::bs=>by rw[X7,cH,eX,List.any_map,eX,<-any_range bs];rfl
theorem j37 (hc:X.calm=a6):Ju X (.builtin "any") (λxs H Q=>∃(l:ae)(bs:List Bool),xs=[.ref l]/\SqL X.K H l (bs.map V.bl)/\Q (.bl (bs.any id)) H):=by
 intro pins s σ H xs us Q I r ⟨l,bs,e,sq,q⟩;subst e;obtain⟨u,eu,ru⟩:=vals1 r;subst eu;cases ru;obtain⟨its,rv,pl,_⟩:=I.list sq;have hlt:l<s.heap.objs.size:=by obtain⟨_,_,e,_⟩:=pl;exact X3 e
 have hl:its.length=bs.length:=by rw[<-rv.length,km]
 refine call_any_walk (bu pl.isList ⟨s.heap.objs.size,[s.heap.objs.size,l],[s.heap.objs.size],its.toArray.size,_,_,λi=>(bs[i]?).getD a6,rfl,Walks.list (A:=X.A.in1) (I.ok.hd hc) _ _ (Xc hlt) its.toArray,⟨⟨_,X5 _ rfl,rfl,rfl⟩,pl.isList.push _⟩,?_,λh' tk kp=>?_⟩)
 .intro i v s' Q' E' hv hq;have hi:i<its.length:=by have:=Array.getElem?_eq_some_iff.mp hv;obtain⟨h,_⟩:=this;simpa using h
  have hb:i<bs.length:=by omega
  obtain⟨w1,hw,rw1⟩:=rv.get (x:=.bl bs[i]) (i:=i) (by rw[xx,kh hb];rfl);have:its.toArray[i]?=a3 w1:=by simpa using hw
  rw[this]at hv;cases hv;cases rw1;simp only[kh hb,dE]at hq;exact bc hq
 .have ev:(aq its.toArray.size).any (λi=>(bs[i]?).getD a6)=bs.any id:=by rw[X4,hl];exact any_range bs
  rw[ev];refine⟨.bl _,H,I.kept (t':=tk) λb o e=>kp b o ?_ (xj _ e),rfl,q⟩;intro z;rw[xr.mp z]at e;exact Pg _ (X3 e)
theorem DE.any {bs:List Bool} (ha:DT X ρ a (.lst (bs.map D.bl))) (hm:X.mg "any" = a9) (hc:X.calm=a6) (hg:Gl X "any") (hs:a8 [a] X.env=[(a4,ay a X.env)]):DE X ρ (.Call (.Name "any" p) [a] [] pos) (.bl (bs.any id)):=λσ H Q R q =>(J0 (j37 hc) hg hm boot_any (jg peS jy hs) (by decide) (by decide) hs).to (ha σ H _ R λv H1 g1 ⟨l,xs,e,sq,en⟩=>⟨l,bs,by rw[e],by rw[Di en]at sq;exact sq,q _ H1 g1 rfl⟩)
end
def jl0:TE:=λ_ H Q=>∀p,H p=a9->Q (.ref p) (upd H p (.dI [] 0))
def jl7(K:k9d)(td ty tv:TE):TS:=λD σ H=>tv σ H λv H1=>td σ H1 λx H2=>ty σ H2 λy H3 =>
 ∃(a b:ae)(xs:List (List Int×ae×aa)) (ep:Nat) (k:List Int),x=.ref a/\H3 a=a3 (.dI xs ep)/\(∀x∈xs,SqT K H3 x.2.1 (x.1.map V.int))/\y=.ref b/\SqT K H3 b (k.map V.int) /\
  (xs.map λx=>x.1).contains k=a4/\xs.length<ak/\∀u ep',RelV v u->D.nx σ (upd H3 a (.dI (xs++[(k,b,u)]) ep'))
section
variable{X:Cx}{pos pos':aM}{o i value:aj}{td ty tv:TE}
theorem Inv.bigD{pins:k9f}{σ:St}{H:Hp}{s:af}(I:Inv X pins σ H s):eM<s.heap.objs.size:=by have h:au<s.heap.objs.size:=(I.mod.glob.keeps I.bk).lt;exact Ph (by decide) h
theorem j3q:PE X (.Dict [] [] pos) jl0:=λpins s σ H Q I h =>
 wpAny_Dict_empty ⟨.ref s.heap.objs.size,_,I.laid (a:=s.heap.objs.size) (o:=.dI [] 0) (t':=s.toks) (λ_ _ q=>xj _ q) (xu _)
  ⟨cy _,beq_eq_false_iff_ne.mpr (cb (Xc I.bigD)),d8,_,#[],X5 _ rfl,⟨rfl,rfl,rfl⟩,rfl,rfl⟩,rfl,h _ (I.hok.fresh (xu _))⟩
theorem j3n(hu:X.A.units+100<aV)(ho:PE X o td)(hi:PE X i ty)(hv:PE X value tv)(hs:aK value (a3 (.Subscript o i pos')) pos.line X.env=pure a4) :
  PS X (.Assign [.Subscript o i pos'] value pos) (jl7 X.K td ty tv):=by
 intro pins s σ H D I h;refine wpAny_Assign_Subscript (thn (hv pins s σ H _ I h) λr s1 ⟨v,H1,I1,rv,q1⟩=>thn (ho pins s1 σ H1 _ I1 q1) λu s2 ⟨x,H2,I2,rx,q2⟩=>thn (hi pins s2 σ H2 _ I2 q2) λiv s3 ⟨y,H3,I3,ry,hq⟩=>?_) hs;obtain⟨a,b,xs,ep,k,ex,hx,kt,ey,sq,nk,hl,q⟩:=hq;subst ex ey;cases rx;cases ry;obtain⟨lo,hz,dd⟩:=j48 I3 hx kt;refine wpAny_setItem_heap (hsz:=hz) (kx nofun) (Ky I3 sq) dd λh' dd' sb=>?_;have na:jW xs k=a9:=by
  have:=j8r (xs:=xs) (k:=k);rw[nk]at this;cases z:jW xs k with
  |none=>rfl
  |some _=>rw[z]at this;cases this
 rw[storedH_new na]at dd';obtain⟨ob,es,ep',w1,w2,w3,w4,w5,w6⟩:=dd';refine⟨σ,_,I3.write (x:=a) (e:=a) (o:=.dI (xs++[(k,b,r)]) ep') (t':=s3.toks+(fj (fm X.prog X.w)).draws k) (by rw[hx];exact True.intro) (.inl rfl) (λc z nc e=>(sb.2 c nc).trans e) ⟨ob,w1⟩ ?_,q r ep' rv⟩;exact⟨by simp;omega,lo,w6,ob,es,w1,w2,w3,w4⟩
end
section
variable{X:Cx}{ρ:Rho}{it e:aj}{P:Po}{ds:List D}{x t y:Nat}{nx nt ny:ah}{n8:Nat}{p1 p2 p3 p4 p5 p6 p7 p8 p9 p10 p11 p12 p13 p14 p15 p16 p17 p18:aM}
theorem j3e{H:Hp}{a:ae}{o:HO}(h:H a=a3 o):H=upd (del H [a]) a o:=funext λb=>by
 by_cases z:b=a
 .subst z;rw[j9];exact h
 .rw[ji z,j6 (by simpa using z)]
theorem Do{H:Hp}{a:ae}{o:HO}(h:H a=a9):del (upd H a o) [a]=H:=funext λb=>by
 by_cases z:b=a
 .subst z;rw[qt (by simp)];exact h.symm
 .rw[j6 (by simpa using z),ji z]
theorem Km{H F:Hp}{a:ae}{o:HO}(h:H a=a3 o):mrg [a] H F=upd F a o:=funext λb=>by
 by_cases z:b=a
 .subst z;rw[Jh (by simp),j9];exact h
 .rw[jm (by simpa using z),ji z]
end
noncomputable def zg:List (List Int)->List D->List Int->Option D
 |k'::ks,d::ds,k=>if k'=k then a3 d else zg ks ds k
 |_,_,_=>a9
theorem j49{K:k9d}{H:Hp}{k:List Int}{d:D}:∀{xs:List (List Int×ae×aa)} {ds:List D} {vs:List V},Vals vs (xs.map λx=>x.2.2)->j4 K H ds vs->zg (xs.map λx=>x.1) ds k=a3 d->∃p v,jW xs k=a3 p/\RelV v p.2/\Enc K H d v
 |[],_,_,_,_,h=>by cases h
 |x::xs,[],_,_,_,h=>by cases h
 |x::xs,d'::ds,_,rv,⟨v,r,e,h1,l⟩,h=>by
  subst e;rw[xm]at rv h;unfold jW;rw[k7];cases rv with
  |cons a b =>
   rw[zg]at h;by_cases z:x.1=k
   .rw[if_pos z]at h;cases h;rw[decide_eq_true z];exact⟨x.2,v,rfl,a,h1⟩
   .rw[if_neg z]at h;rw[decide_eq_false z];exact j49 b l h
section
variable{X:Cx}{ρ:Rho}{a b:aj}{d:D}{ds:List D}{ks:List (List Int)}{k:List Int}{pos p p1 p2 p3:aM}
theorem jlt(hu:X.A.units+100<aV):IxR X (λx y H Q=>∃(d:ae)(xs:List (List Int×ae×aa)) (ep:Nat) (t:ae) (k:List Int) (q:ae×aa) (v:V),x=.ref d/\y=.ref t/\H d=a3 (.dI xs ep)/\(∀x∈xs,SqT X.K H x.2.1 (x.1.map V.int))/\SqT X.K H t (k.map V.int)/\jW xs k=a3 q/\RelV v q.2/\Q v H):=by intro value slice pins s σ H x y v u Q I rx ry h hs;obtain⟨d,xs,ep,t,k,q,w,rfl,rfl,hx,kt,sq,hq,rq,hQ⟩:=h;cases rx;cases ry;obtain⟨lo,hz,dd⟩:=j48 I hx kt;exact mB dd.typeIs slot_dict_getitem.lookup (wpAny_getItem_heap (kx nofun) (Ky I sq) dd hq ⟨w,H,I.tok _,rq,hQ⟩) hs
theorem DE.dget(hu:X.A.units+100<aV)(ha:DE X ρ a (.dct ks ds))(hb:DT X ρ b (.tup (k.map D.int)))(h:zg ks ds k=a3 d)(hs:U7 b):DE X ρ (.Subscript a b pos) d:=λσ H Q R q =>
 (Cu (jlt hu) peS peS hs).to (ha σ H _ R λv H1 g1 ⟨c,xs,ep,vs,e,hx,ek,kt,rv,l⟩=>hb σ H1 _ (R.grow g1) λu H2 g2 ⟨t,ys,e2,sq,l2⟩=>by
  rw[vg l2]at sq
  subst ek
  obtain⟨q',v',z1,z2,z3⟩:=j49 rv (l.mono (jh g2)) h
  exact⟨c,xs,ep,t,k,q',v',e,e2,g2 _ _ (of_del hx).2,λx hx=>g2.seqT (jt.seqT (kt x hx)),sq,z1,z2,q v' H2 (g1.trans g2) z3⟩)
end
section
variable{prog:av}{w:az}{A:aB}{E:k9e}{s:af}{d it vw:ae}{od:dw}{es:Array gC}{ep i:Nat}
theorem jfi {Q:k9e} (ht:s.TypeIs (.ref d) "dict") (lo:(d==eM)=a4)
  (q:Q (.ref s.heap.objs.size) { s with heap:=s.heap.push { cls:=.type "dict_values",data:=.fields #[.ref d] } }):ar (ax prog w) A (call (.builtin "dict.values") [.ref d]) Q E s:=by
 refine bE i9 ht F.entry_dict_values ?_ (F.args_dict_values_1 _);unfold eN.«dict.values»;refine a7 ?_;unfold Builtin.Dict.noArgs;refine a7 (wpAny_notOrdered_dict ht ?_);show ar _ _ (pure d) _ _ s;refine ai ?_;show ar _ _ (Builtin.Dict.showsAll d >>= _) _ _ s;unfold Builtin.Dict.showsAll;rw[if_neg (λz=>by rw[lo]at z;cases z)];exact a7 (ai (a7 (aJ (ai ⟨_,rfl,q⟩))))
theorem jfh{Q:k9e}(hv:s.heap.IsValuesView vw d)(ho:s.heap.get? d=a3 od)(hd:od.data=.dict es ep)
  (q:Q (.ref s.heap.objs.size) { s with heap:=s.heap.push { cls:=.type "dict_valueiterator",data:=.fields #[.ref d,.int 0 0,.int es.size 0,.int ep 0] } }) :
  ar (ax prog w) A (ic (.ref vw)) Q E s:=by
 obtain⟨oz,z1,z2,z3⟩:=id hv;refine wpAny_pyIter_slot hv.typeIs iz (bE iz hv.typeIs F.entry_dict_values_iter ?_ (F.args_dict_values_iter_1 _));unfold eN.«dict_values.__iter__»;refine a7 (ai ?_);refine a7 ?_;unfold jL;refine a7 (cL z1 z3 (x:=.ref d) rfl (ai (a7 ?_)));unfold jK;refine a7 (fX ho hd (a7 (gW ho hd ?_)));have own:cg "dict_valueiterator" = a4:=by decide
 simp only[own,ph,if_false];refine aJ (ai ⟨_,rfl,"dict_valueiterator",_,⟨_,X5 _ rfl,rfl⟩,T9.lookup,?_⟩);simpa [dW]using q
theorem jfg{e:gC}{Q:Option aa->af->Prop}(hit:s.heap.IsValIter it d i es.size ep)(ho:s.heap.get? d=a3 od)(hd:od.data=.dict es ep)(he:es[i]?=a3 e)
  (hQ:∀h',h'.IsValIter it d (i+1) es.size ep->cE it s.heap h'->Q (a3 e.val) { s with heap:=h' }):ar (ax prog w) A (dX (.ref it)) Q E s:=by
 obtain⟨o,hoI,hc,hdI⟩:=id hit;unfold dX;refine a7 (mG (bF (name:=cY "__next__") hit.typeIs T9
  (bE T9 hit.typeIs fR ?_ (fJ _))))
 refine a7 (ai ?_);refine a7 ?_;refine a7 ?_
 first|refine a7 (bJ hit.typeIs (ai ?_))|refine a7 (cC hit.typeIs (ai ?_))
 refine a7 (mj hoI hdI ?_);have hown:cg "dict_valueiterator" = a4:=by decide
 simp only[hown,ph,if_false];show ar _ _ (if (aF d==aQ)=a6 then _ else _) _ _ s;rw[if_neg (λz=>by cases z)];refine a7 (ai ?_);refine a7 (fX ho hd ?_);rw[if_neg (by simp)];refine a7 (ai ?_);refine a7 (gW ho hd ?_);rw[if_neg (by simp)];refine ai ?_;simp only[show ¬((i:Int)<0)from by omega,if_false,X6,he];refine a7 ?_
 first|refine a7 (bJ hit.typeIs (ai ?_))|refine a7 (cC hit.typeIs (ai ?_))
 refine a7 (eW hit.typeIs ?_);show ar _ _ (setField (.ref it) 1 (dW ((i:Int)+1)) >>= _) _ _ s;refine a7 (eZ hoI hdI (by simp) ?_);have hit':(s.heap.update it (gQ (·.setIfInBounds 1 (dW ((i:Int)+1))))).IsValIter it d (i+1) es.size ep :=
  ⟨_,eA _ hoI (iw (dh hdI _)),(jJ ..).trans hc,by rw[dh hdI];simp[dW]⟩
 refine a7 (bx ?_);refine a7 (eW (s:={ s with heap:=s.heap.update it (gQ (·.setIfInBounds 1 (dW ((i:Int)+1)))) }) hit'.typeIs ?_);refine a7 (eW (s:={ s with heap:=s.heap.update it (gQ (·.setIfInBounds 1 (dW ((i:Int)+1)))) }) hit'.typeIs ?_);show ar _ _ (pure e.val) _ _ _;exact ai (ai ⟨_,rfl,ai (hQ _ hit' (Ti ..))⟩)
theorem jjf{Q:Option aa->af->Prop}(hh:A.handled=a9)(hit:s.heap.IsValIter it d i es.size ep)(ho:s.heap.get? d=a3 od)(hd:od.data=.dict es ep)(hge:es.size<=i)
  (hQ:∀h',eF it s.heap h'->Q a9 { s with heap:=h' }):ar (ax prog w) A (dX (.ref it)) Q E s:=by
 obtain⟨o,hoI,hc,hdI⟩:=id hit;unfold dX;refine a7 (mG (bF (name:=cY "__next__") hit.typeIs T9
  (bE T9 hit.typeIs fR ?_ (fJ _))))
 refine a7 (ai ?_);refine a7 ?_;refine a7 ?_
 first|refine a7 (bJ hit.typeIs (ai ?_))|refine a7 (cC hit.typeIs (ai ?_))
 refine a7 (mj hoI hdI ?_);have hown:cg "dict_valueiterator" = a4:=by decide
 simp only[hown,ph,if_false];show ar _ _ (if (aF d==aQ)=a6 then _ else _) _ _ s;rw[if_neg (λz=>by cases z)];refine a7 (ai ?_);refine a7 (fX ho hd ?_);rw[if_neg (by simp)];refine a7 (ai ?_);refine a7 (gW ho hd ?_);rw[if_neg (by simp)];refine ai ?_;simp only[show ¬((i:Int)<0)from by omega,if_false,X6,Array.getElem?_eq_none hge];refine a7 ?_
 first|refine a7 (bJ hit.typeIs (ai ?_))|refine a7 (cC hit.typeIs (ai ?_))
 show ar _ _ (setField (.ref it) 0 .none >>= _) _ _ s;refine a7 (eZ hoI hdI (by simp) ?_);show ar _ _ (mw (.type "StopIteration") [] >>= _) _ _ _;refine a7 ?_;simp only[mw,newTuple];refine a7 (aJ ?_ (by size_fits));refine a7 (m:=f9 _ _) (gJ (a:=aQ) (by first|rfl|(simp only[f9];rfl)) ?_);refine aJ ?_ (by size_fits);simp only[raiseNew];refine a7 (mF ?_);rw[show A.in1.handled=a9 from hh];refine a7 (ai (wpAny_throw ?_));refine a7 (wpAny_isInstance (T:="StopIteration") (b:=a6) ⟨_,X5 _ rfl,rfl⟩ isSubtype_stop ?_);exact ai (hQ _ (((Ti ..).extBut.push _).push _))
theorem jb4(hh:A.handled=a9)(I:ae)(hne:d≠I)(hd:od.data=.dict es ep):Walks prog w A I [I,d] [I] es.size (λi v=>∃e,es[i]?=a3 e/\v=e.val) (λi h=>h.IsValIter I d i es.size ep/\h.get? d=a3 od) where
 sub:=λb hb=>by simp at hb;simp[hb]
 frame:=λ_ _ _ st hk=>⟨let ⟨o,ho,x⟩:=st.1;⟨o,hk I (by simp) o ho,x⟩,hk d (by simp) _ st.2⟩
 item:=λi s Q E hi st hQ=>by refine jfg st.1 st.2 hd (c7 hi) λh' hit' hs'=>?_;exact hQ _ h' s.toks ⟨_,c7 hi,rfl⟩ ⟨hit',hs'.extBut _ _ hne st.2⟩ λb o hb e=>hs'.extBut b o (λh=>hb (by simp[h])) e
 done:=λs Q E st hQ=>jjf hh st.1 st.2 hd (xu _) λh' he'=>hQ h' s.toks λb o hb e=>he' b o (λh=>hb (by simp[h])) e
 self:=λ_ _ _ _ st hQ=>wpAny_pyIter_valiter st.1 hQ
theorem jje (hd:od.data=.dict es ep):fH prog w "dict_values" vw d es.size (λi v=>∃e,es[i]?=a3 e/\v=e.val) (λh=>h.IsValuesView vw d/\h.get? d=a3 od) where
 type:=λ_ hm=>hm.1.typeIs
 there:=λ_ hm=>⟨let ⟨_,ho,_⟩:=hm.1;X3 ho,X3 hm.2⟩
 keep:=λ_ _ hm hk=>⟨let ⟨o,ho,x⟩:=hm.1;⟨o,hk vw (.inl rfl) o ho,x⟩,hk d (.inr rfl) _ hm.2⟩
 notList:=by decide
 notTuple:=by decide
 hint:=λ_ _ _ _ hm hq=>W.kdl_hint_values hm.1.typeIs hq
 iter:=λ_ _ hh hm=>⟨_,_,(λ_ _ hq=>jfh hm.1 hm.2 hd hq),jb4 hh _ (Xc (X3 hm.2)) hd,⟨⟨_,X5 _ rfl,rfl,rfl⟩,xj _ hm.2⟩⟩
end
section
variable{prog:av}{w:az}{A:aB}{E:k9e}{s:af}{T:String}{r d:ae}{n:Nat}{P:Nat->aa->Prop}{OK:aC->Prop}
theorem j35{Q:List aa->af->Prop}(K:fH prog w T r d n P OK)(hh:A.handled=a9)(hok:OK s.heap)(hn:n<=ak)
  (hQ:∀(h':aC)(tk:Nat)(acc:Array aa),(∀b o,s.heap.get? b=a3 o->h'.get? b=a3 o)->jA P acc n->Q acc.toList { s with heap:=h',toks:=tk }):ar (ax prog w) A (collect (.ref r)) Q E s:=by
 have hlt:=K.there _ hok;have hS:(s.heap.push { cls:=.type "list",data:=.seq ([]:List aa).toArray }).get? s.heap.objs.size=a3 { cls:=.type "list",data:=.seq ([]:List aa).toArray }:=X5 _ rfl;have key:∀R:fO->af->Prop,(∀(h':aC)(tk:Nat)(acc:Array aa)(c:Nat),(∀b o,s.heap.get? b=a3 o->h'.get? b=a3 o)->h'.get? s.heap.objs.size=a3 { cls:=.type "list",dict:=a9,data:=.seq acc c,slots:=#[] }->jA P acc n->R (.ok (.ret (.ref s.heap.objs.size))) { s with heap:=h',toks:=tk }) ->
   cG (ax prog w) A (.builtin "proto.collect" ⟨[.ref r],[]⟩) R s:=λR hR=>by
  refine bg F.entry_proto_collect ?_;rw[T3 F.plain_proto_collect _];show ar _ A.in1 (newList [] >>= λl=>iS (.builtin "list.__iadd__" ⟨[l,.ref r],[]⟩)) _ _ s;refine a7 (aJ ?_);refine ai ⟨cD ke _,bg F.entry_list_iadd ?_⟩;rw[T3 ke _];show ar _ A.in1 (lV (.ref s.heap.objs.size) (.ref r) (.ref s.heap.objs.size)) _ _ _;exact W.kdl_extend (R:=R) (s:={ s with heap:=s.heap.push { cls:=.type "list",data:=.seq ([]:List aa).toArray } }) K hh (K.keep _ _ hok λb _ o e=>xj _ e) _ (Tc hlt.1) (Tc hlt.2) _ 0 hS
   (λh' tk acc c kp hS' hacc=>hR h' tk acc c (λb o e=>kp b o (Xc (X3 e)) (xj _ e)) hS' hacc) hn
 unfold collect;refine a7 (mi (key _ λh' tk acc c kp hS' hacc=>?_));show ar _ A (load s.heap.objs.size >>= _) _ _ _;refine a7 (wpAny_load hS' ?_);exact ai (hQ h' tk acc kp hacc)
theorem Im {Q:k9e} (K:fH prog w T r d n P OK) (hh:A.handled=a9) (hok:OK s.heap) (hsz:n<=ak) (hTt:(bO T==bO "tuple")=a4)
  (hQ:∀(h':aC)(tk:Nat)(acc:Array aa),(∀b o,s.heap.get? b=a3 o->h'.get? b=a3 o)->jA P acc n->Q (.ref h'.objs.size) { s with heap:=h'.push { cls:=.type "tuple",data:=.seq acc },toks:=tk }) :
  ar (ax prog w) A (call (.type "tuple") [.ref r]) Q E s:=by
 refine callType_codes (Q₁:=λobj s₁=>s₁.TypeIs obj "tuple"/\Q obj s₁) F.called_tuple (F.typeCall_tuple_1 _) F.entry_object_init ?_ λobj s₁ h₁ =>⟨h₁.1,j3 obj _,object_init_meets F.called_tuple.init.lookup F.called_tuple.made (by decide) prog w A.in1 _ s₁ ⟨h₁.1,rfl,h₁.2⟩⟩
 refine lY ?_;show ar _ A.in1.in1 (do checkBuiltinCall "tuple.__new__" ⟨[.type "tuple",.ref r],[]⟩;iS (.builtin "tuple.__new__" ⟨[.type "tuple",.ref r],[]⟩)) _ _ s;refine a7 (gJ (F.newCall_tuple_1 _) (ai ⟨cD kc _,bg F.entry_tuple_new ?_⟩));rw[T3 kc _];have hsub:=sub_tuple_self;have hinit:=init_tuple_lookup;have hmh:=madeHere_tuple;have hTI:=K.type s hok;have hn:=hsz
 wp_walk using wpAny_typeOf hTI,j35 (A:=A.in1.in1) K hh hok hn
 intro h' tk acc kp hacc;show ar _ _ (aY acc.toList.toArray >>= λv=>ret v) _ _ _;unfold aY;refine a7 (aJ ?_ (by show acc.toList.toArray.size<=ak;simp only[Array.toArray_toList];rw[hacc.1];exact hsz));refine ai ?_;have e:acc.toList.toArray=acc:=by simp
 rw[e];exact⟨⟨_,X5 _ rfl,rfl⟩,hQ h' tk acc kp hacc⟩
end
section
variable{X:Cx}{ρ:Rho}{a:aj}{ds:List D}{ks:List (List Int)}{pos p p1 p2:aM}
theorem j24{P:av}{w:az}{en:Array gC}{xs:List (List Int×ae×aa)}{acc:Array aa}(h:en.toList=xs.map (kz (fj (fm P w))))(ha:jA (λi v=>∃e,en[i]?=a3 e/\v=e.val) acc en.size):acc=(xs.map λx=>x.2.2).toArray:=by
 obtain⟨h1,h2⟩:=ha;have hl:en.size=xs.length:=by have:=congrArg cP h;simpa using this
 apply Array.ext';refine Tv λi=>?_;rw[eR,xx];by_cases hi:i<acc.size
 .have hv:acc[i]?=a3 acc[i]:=c7 hi;obtain⟨e,he,ev⟩:=h2 i _ hv;have he':en.toList[i]?=a3 e:=by simpa using he
  rw[h,xx]at he';rw[Sh,hv,ev];obtain⟨x,hx,ex⟩:=Xw.mp he';rw[hx,<-ex];rfl
 .rw[Xu (by simpa using hi),Xu nofun];rfl
theorem DE.tupVals (ha:DE X ρ a (.dct ks ds)) (hc:X.calm=a6) (hm:X.mg "tuple" = a9) (hg:Gl X "tuple") (hbase:aI a "values" X.env (ay a X.env)=ay a X.env) (hline:(p1.endLine==p2.line)=a6)
  (hs2:a8 [.Call (.Attribute a "values" p1) [] [] p2] X.env=[(a4,ay (.Call (.Attribute a "values" p1) [] [] p2) X.env)]):DE X ρ (.Call (.Name "tuple" p) [.Call (.Attribute a "values" p1) [] [] p2] [] pos) (.tup ds):=λσ H Q R q pins s I=>by
 refine aG (Ql I hg hm boot_tuple ?_);refine callWith_type1 ?_ hs2 rfl;rw[hs2];show ar _ _ (hJ ((a4,ay _ X.env)::aL pos [])) _ _ s;refine d0 ?_;refine iO hbase hline (thn (ha σ H (λv H'=>j0 H H'/\Enc X.K (del H' (owns ρ)) (.dct ks ds) v) R (λv H' g e=>⟨g,e⟩) pins s I) λv s1 ⟨x,H1,I1,r1,g1,en⟩=>?_);obtain⟨d,xs,ep,vs,ex,hx,ek,kt,rv,l⟩:=en;subst ex ek;cases r1;have hx1:H1 d=a3 (.dI xs ep):=(of_del hx).2;obtain⟨z1,z2,z3,od,en,h1,h2,h3,h4⟩:=(show jj X.prog X.w H1 s1.heap d (.dI xs ep)from I1.hok _ _ hx1)
 have hsz:en.size=xs.length:=by have:=congrArg cP h4;simpa using this
 refine⟨"dict","dict.values",PySem.F.plainAttrs_dict,i9,PySem.F.type_dict_values,⟨od,h1,h2.1⟩,λb e=>by cases e;exact⟨od,h1,h2.2.1⟩,cB rfl (iB (jfi ⟨od,h1,h2.1⟩ z2 ?_))⟩;refine dn ?_;have v1:(s1.heap.push { cls:=.type "dict_values",data:=.fields #[.ref d] }).get? s1.heap.objs.size=a3 { cls:=.type "dict_values",data:=.fields #[.ref d] }:=X5 _ rfl;have I2:=I1.kept (t':=s1.toks) (h':=s1.heap.push { cls:=.type "dict_values",data:=.fields #[.ref d] }) λb o e=>xj _ e;refine Im (jje (vw:=s1.heap.objs.size) (d:=d) (od:=od) h3) (I1.ok.hd hc) ⟨⟨_,v1,rfl,rfl⟩,xj _ h1⟩ (by rw[hsz];exact z1) (by decide) λh' tk acc kp hacc=>?_;have ea:=j24 h4 hacc;subst ea;have I3:Inv X pins σ H1 { s1 with heap:=h',toks:=tk }:=I2.kept (t':=tk) (h':=h') kp;have hf:H1 h'.objs.size=a9:=I3.hok.fresh (xu _);have hl:=rv.length;have hxl:vs.length<=ak:=by rw[hl,km];exact z1
 have I4:=I3.laid (a:=h'.objs.size) (o:=.tup vs) (t':=tk) (h':=h'.push { cls:=.type "tuple",data:=.seq (xs.map λx=>x.2.2).toArray }) (λb u q=>xj _ q) (xu _) ⟨hxl,_,rv,IsTup.new _ _,Vg.new _ _⟩;have nt:h'.objs.size∉owns ρ:=(R.grow g1).fresh hf;exact⟨.ref h'.objs.size,_,I4,rfl,q _ _ (g1.trans (j7 hf)) ⟨h'.objs.size,vs,rfl,.inl (.inl (by rw[j6 nt];exact j9)),l.mono (jh (j7 hf))⟩⟩
end
section
variable{X:Cx}{ρ:Rho}{it e1 e2:aj}{P:Po}{ds:List D}{x t y:Nat}{nx nt ny:ah}{p1 p2 p3 p4 p5 p6 p10 p11 p12 p14 p16 p17 p18:aM}
noncomputable abbrev jcd(nx nt ny:ah)(it e1 e2:aj)(p1 p2 p3 p4 p5 p6 p10 p11 p12 p14 p16 p17 p18:aM):List aX :=
 [.Assign [.Name nx p1] (.Dict [] [] p2) p3,.For (.Name nt p4) it [.Assign [.Name ny p5] e1 p6,.Assign [.Subscript (.Name nx p10) (.Name nt p11) p12] e2 p14] [] p16,.Return (a3 (.Name nx p17)) p18]
theorem J7:∀ns:List Int,v5 (ns.map D.int)=a6
 |[]=>rfl
 |n::ns=>by rw[xm,v5,J7 ns];rfl
theorem U9{α:Type}:∀{l:List α}{i:Nat}{x:α},l[i]?=a3 x->l.set i x=l
 |[],_,_,_=>rfl
 |y::l,0,x,h=>by simp at h;subst h;rfl
 |y::l,i+1,x,h=>by rw[Pb,U9 (by simpa using h)]
theorem j25{K:k9d}{H:Hp}{A:List ae}(hA:∀a∈A,Hd (H a)){ds:List D}{vs:List V}(n:v5 ds=a6)(h:j4 K H ds vs):j4 K (del H A) ds vs:=j4.hide hA n h
theorem DSs.nmake(W:Nat->Rho->List (List Int)->List Int->Prop)(rx:x<ρ.length)(rt:t<ρ.length)(ry:y<ρ.length)(hxt:x≠t)(hxy:x≠y)(hty:t≠y)(hi:DI X (ρ.set x .un) (.Name nt p4) it ds)(h0:W 0 (ρ.set x .un) [] [])
  (hs:∀i d ρ' ks ns,ds[i]?=a3 d->W i ρ' ks ns->∃k d1 n,d=.tup (k.map D.int)/\DE X (ρ'.set t (.val d)) e1 d1/\DE X (((ρ'.set t (.val d)).set y (.val d1)).set x (.val (.dct ks (ns.map D.int)))) e2 (.int n) /\
   ks.contains k=a4/\ks.length<ak/\W (i+1) ((ρ'.set t (.val d)).set y (.val d1)) (ks++[k]) (ns++[n]))
  (hd:∀ρ' ks ns,W ds.length ρ' ks ns->P.rt (.val (.dct ks (ns.map D.int))))
  (hu:X.A.units+100<aV) (hc:X.calm=a6) (hp:dB (ax X.prog X.w) X.A X.env X.xe) (hN:X.N.Nodup) (hX:X.N[x]?=a3 nx) (hT:X.N[t]?=a3 nt) (hY:X.N[y]?=a3 ny)
  (lx:Loc X.env.scope nx) (lt:Loc X.env.scope nt) (ly:Loc X.env.scope ny) (fx:X.fn nx=a6\/X.env.scope.names.lookup nx=a3 .local) (ft:X.fn nt=a6\/X.env.scope.names.lookup nt=a3 .local) (fy:X.fn ny=a6\/X.env.scope.names.lookup ny=a3 .local)
  (dx:(nx==k9h)=a4) (cx:(nx==k9i)=a4) (dt:(nt==k9h)=a4) (ct:(nt==k9i)=a4)
  (s1:aK (.Dict [] [] p2) (a3 (.Name nx p1)) p3.line X.env=pure a4) (s2:aK e1 (a3 (.Name ny p5)) p6.line X.env=pure a4)
  (s3:aK e2 (a3 (.Subscript (.Name nx p10) (.Name nt p11) p12)) p14.line X.env=pure a4) (hf:∀x,aA it X.env x=pure x) :
  DSs X ρ (jcd nx nt ny it e1 e2 p1 p2 p3 p4 p5 p6 p10 p11 p12 p14 p16 p17 p18) P:=λσ H E R q=>by
 have vis:∀{z:ah},Loc X.env.scope z->Vis X.env.scope z:=λh=>h.elim .inl λz=>.inr (.inl z);refine(Vm (Uc hN hX lx j3q s1 fx) (Vm (j1d hp hc piS (V4 hN hT lt ft) (Vm (Uc hN hY ly peS s2 fy)
  (Bk (j3n hu (vo hX (vis lx) dx cx) (vo hT (vis lt) dt ct) peS s3))) hf)
  (Bk (Wx (vo hX (vis lx) dx cx))))).to ?_
 intro a ha;have R0:Rep X.K (ρ.set x .un) (σ.set x (a3 (.ref a))) H:=R.set_un;have hxl:x<σ.length:=by rw[R.len];exact rx
 refine Cm (A:=[a]) (R':=λJ F=>j0 H F/\Uw X.K (del F (owns (ρ.set x .un))) J ds) (λb hb=>.inr ⟨[],0,by rw[xr.mp hb];exact j9⟩) (by rw[Do ha];exact hi _ H _ R0 λJ F g ok=>⟨g,ok⟩) λJ F ⟨g,ok⟩ hn=>?_;rw[Km j9];have fa:F a=a9:=hn a (by simp);refine⟨λi m σ' H'=>∃ρ' Fh xs ep ns,H'=upd Fh a (.dI xs ep)/\Fh a=a9/\Rep X.K ρ' σ' Fh/\j0 F Fh/\(∀b∈owns ρ',b∈owns (ρ.set x .un))/\ρ'.length=ρ.length/\σ'[x]?=a3 (a3 (.ref a)) /\
   (∀z∈xs,SqT X.K Fh z.2.1 (z.1.map V.int))/\Vals (ns.map V.int) (xs.map λz=>z.2.2)/\W i ρ' (xs.map λz=>z.1) ns/\m=ds.length-i/\i<=ds.length,
  ⟨ds.length,ρ.set x .un,F,[],0,[],rfl,fa,R0.grow g,j0.refl _,λb hb=>hb,by simp,Ua hxl,λz hz=>(nomatch hz),.nil,h0,rfl,cy _⟩,?_⟩
 rintro i m σ' H' ⟨ρ',Fh,xs,ep,ns,rfl,fha,R',gF,sub,hL,sx,kt,rv,w,rfl,hle⟩;have gU:j0 Fh (upd Fh a (.dI xs ep)):=j7 fha;obtain⟨go,stop,yld⟩:=ok i (upd Fh a (.dI xs ep)) (a::owns ρ') (λb o eb=>by
  obtain⟨nb,eb⟩:=of_del eb
  have nba:b≠a:=λz=>by rw[z,fa]at eb;cases eb
  rw[j6,ji nba]
  .exact gF b o eb
  .intro z
   rcases xn.mp z with z|z
   .exact nba z
   .exact nb (sub b z)) (λb hb=>by
  rcases xn.mp hb with z|z
  .rw[z,j9];simp
  .obtain⟨ys,eb⟩:=R'.owned b z
   rw[gU _ _ eb];simp)
 by_cases hlt:i<ds.length
 .obtain⟨k,d1,n,ed,hE,hE2,nk,hkl,w'⟩:=hs i ds[i] ρ' _ ns (kh hlt) w;refine .inr ⟨go hlt,λσ2 H2=>∃ρ2 Fh2 xs2 ep2 ns2,H2=upd Fh2 a (.dI xs2 ep2)/\Fh2 a=a9/\Rep X.K ρ2 σ2 Fh2/\j0 F Fh2/\(∀b∈owns ρ2,b∈owns (ρ.set x .un))/\ρ2.length=ρ.length/\σ2[x]?=a3 (a3 (.ref a)) /\
   (∀z∈xs2,SqT X.K Fh2 z.2.1 (z.1.map V.int))/\Vals (ns2.map V.int) (xs2.map λz=>z.2.2)/\W (i+1) ρ2 (xs2.map λz=>z.1) ns2,
   λσ2 H2 ⟨ρ2,Fh2,xs2,ep2,ns2,z1,z2,z3,z4,z5,z5',z6,z7,z8,z10⟩=>⟨ds.length-(i+1),by omega,ρ2,Fh2,xs2,ep2,ns2,z1,z2,z3,z4,z5,z5',z6,z7,z8,z10,rfl,hlt⟩,λv H2 yv=>?_⟩
  obtain⟨g2,en⟩:=yld v H2 yv;have en:=en _ (kh hlt);have h2a:H2 a=a3 (.dI xs ep):=g2 _ _ j9;have e2:H2=upd (del H2 [a]) a (.dI xs ep):=j3e h2a;have f2a:del H2 [a] a=a9:=qt (by simp);have gF2:j0 Fh (del H2 [a]):=λb o eb=>by
   have nb:b≠a:=λz=>by rw[z,fha]at eb;cases eb
   rw[j6 (by simpa using nb)];exact g2 b o (gU b o eb)
  have en2:Enc X.K (del (del H2 [a]) (owns ρ')) ds[i] v:=by rw[Z6];exact en
  generalize del H2 [a]=F2 at e2 f2a gF2 en2;subst e2;have R2:Rep X.K (ρ'.set t (.val ds[i])) (σ'.set t (a3 v)) F2:=(R'.grow gF2).set_val en2;have sub2:∀b∈owns (ρ'.set t (.val ds[i])),b∈owns (ρ.set x .un):=λb hb=>sub b ((jf rfl).subset hb);show Qu X e1 (σ'.set t (a3 v)) (upd F2 a (.dI xs ep)) _;refine j4w (A:=[a]) (Q':=λv F3=>j0 F2 F3/\Enc X.K (del F3 (owns (ρ'.set t (.val ds[i])))) d1 v) (λb hb=>.inr ⟨xs,ep,by rw[xr.mp hb];exact j9⟩) (by rw[Do f2a];exact hE _ F2 _ R2 λv F3 g e=>⟨g,e⟩) λv3 F3 ⟨g3,en3⟩ hn3=>?_;rw[Km j9];have f3a:F3 a=a9:=hn3 a (by simp);have R3:Rep X.K ((ρ'.set t (.val ds[i])).set y (.val d1)) ((σ'.set t (a3 v)).set y (a3 v3)) F3:=(R2.grow g3).set_val en3;have sub3:∀b∈owns ((ρ'.set t (.val ds[i])).set y (.val d1)),b∈owns (ρ.set x .un):=λb hb=>sub2 b ((jf rfl).subset hb);have sx3:((σ'.set t (a3 v)).set y (a3 v3))[x]?=a3 (a3 (.ref a)):=by rw[zp (cb hxy),zp (cb hxt)];exact sx
  have lenN:σ'.length=ρ.length:=by rw[R'.len,hL]
  have htl:t<σ'.length:=by rw[lenN];exact rt
  have hL3:((ρ'.set t (.val ds[i])).set y (.val d1)).length=ρ.length:=by rw[T8,T8,hL]
  have st3:((σ'.set t (a3 v)).set y (a3 v3))[t]?=a3 (a3 v):=by rw[zp (cb hty)];exact Ua htl
  have kt3:∀z∈xs,SqT X.K F3 z.2.1 (z.1.map V.int):=λz hz=>g3.seqT (gF2.seqT (kt z hz));rw[ed]at en2;obtain⟨tb,ys,ev,sq,li⟩:=en2;rw[vg li]at sq;subst ev;have sq3:SqT X.K F3 tb (k.map V.int):=g3.seqT (jt.seqT sq);clear R2;show Qu X e2 ((σ'.set t (a3 (V.ref tb))).set y (a3 v3)) (upd F3 a (.dI xs ep)) _;generalize (σ'.set t (a3 (V.ref tb))).set y (a3 v3)=σ3 at R3 sx3 st3 ⊢;generalize (ρ'.set t (.val ds[i])).set y (.val d1)=ρ3 at R3 sub3 hL3 hE2 w' ⊢;have g4:j0 F3 (upd F3 a (.dI xs ep)):=j7 f3a;have hO:∀b∈owns ρ3,Hd (upd F3 a (.dI xs ep) b):=λb hb=>.inl (let ⟨zs,e⟩:=R3.owned b hb;⟨zs,g4 _ _ e⟩);have na:a∉owns ρ3:=λz=>by obtain⟨zs,e⟩:=R3.owned a z;rw[f3a]at e;cases e
  have R4:Rep X.K (ρ3.set x (.val (.dct (xs.map λz=>z.1) (ns.map D.int)))) σ3 (upd F3 a (.dI xs ep)):=by
   have z:=(R3.grow g4).set_val (i:=x) (d:=.dct (xs.map λz=>z.1) (ns.map D.int)) (v:=.ref a) ⟨a,xs,ep,ns.map V.int,rfl,by rw[j6 na];exact j9,rfl,λz hz=>?_,rv,j25 hO (J7 ns) (j4.ints ns)⟩
   .rw[U9 sx3]at z;exact z
   .have e:Enc X.K (upd F3 a (.dI xs ep)) (.tup (z.1.map D.int)) (.ref z.2.1):=⟨_,_,rfl,g4.seqT (kt3 z hz),j4.ints z.1⟩
    obtain⟨b,zs,e1,e2,e3⟩:=e.hide hO (by rw[Z2];exact J7 z.1);cases e1;rw[vg e3]at e2;exact e2
  refine hE2 σ3 _ _ R4 λv4 H4 g5 en4=>?_;cases(show v4=.int n from en4);have h4a:H4 a=a3 (.dI xs ep):=g5 _ _ j9;have f4a:del H4 [a] a=a9:=qt (by simp);have gF4:j0 F3 (del H4 [a]):=λb o eb=>by
   have nb:b≠a:=λz=>by rw[z,f3a]at eb;cases eb
   rw[j6 (by simpa using nb)];exact g5 b o (g4 b o eb)
  have gU4:j0 (del H4 [a]) H4:=jt;refine⟨.ref a,sx3,.ref tb,st3,a,tb,xs,ep,k,rfl,h4a,λz hz=>gU4.seqT (gF4.seqT (kt3 z hz)),rfl,gU4.seqT (gF4.seqT sq3),nk,by rw[km]at hkl;exact hkl,λu ep' ru=>?_⟩;refine⟨ρ3,del H4 [a],xs++[(k,tb,u)],ep',ns++[n],?_,f4a,R3.grow gF4,gF.trans (gF2.trans (g3.trans gF4)),sub3,hL3,sx3,λz hz=>?_,?_,by rw[Xe];exact w'⟩
  .funext b
   by_cases z:b=a
   .subst z;rw[j9,j9]
   .rw[ji z,ji z,j6 (by simpa using z)]
  .rcases Pn.mp hz with hz|hz
   .exact gF4.seqT (kt3 z hz)
   .rw[xr.mp hz];exact gF4.seqT sq3
  .rw[Xe,Xe];exact rv.append (.cons ru .nil)
 .have e:i=ds.length:=by omega
  subst e;refine .inl ⟨stop (xu _),.ref a,sx,?_⟩;refine q.rt (.val (.dct _ (ns.map D.int))) (.ref a) _ (hd ρ' _ ns w) ⟨λb o eb=>gU b o (gF b o (g b o (of_del eb).2)),a,xs,ep,ns.map V.int,rfl,j9,rfl,λz hz=>gU.seqT (kt z hz),rv,j4.ints ns⟩
end
section
variable{X:Cx}{ρ:Rho}{a e:aj}{l:List D}{d:D}{p1 pos:aM}
noncomputable def ixD(d:D):List D->Option Nat
 |[]=>a9
 |x::r=>if deq x d=a6 then a3 0 else(ixD d r).map (· + 1)
end
section
variable{X:Cx}{pins:k9f}{σ:St}{H:Hp}{l q S I:ae}{xs:List V}{R:fO->af->Prop}
end
section
variable{X:Cx}{ρ:Rho}{σ:St}{H:Hp}{q:ae}{f:ah}{l:List D}{xs:List V}{kf:Nat->Int}{a:aj}{d:D}{p p1 pk pos:aM}
end
section
variable{X:Cx}{pins:k9f}{σ:St}{H:Hp}{l S I:ae}{xs:List V}{R:fO->af->Prop}
def jku(X:Cx)(pins:k9f)(σ:St)(H:Hp)(xs:List V)(bt:Nat->Nat->Bool):Prop:=∀(i j:Nat)(x y:V)(u v:aa)(s:af)(Q:k9e)(E:k9e),xs[i]?=a3 x->xs[j]?=a3 y->RelV x u->RelV y v->Inv X pins σ H s ->
 Q (.bool (bt i j)) s->ar (ax X.prog X.w) X.A.in1 (jS .Lt u v) Q E s
theorem jea(bt:Nat->Nat->Bool)(hh:X.A.handled=a9)(hl:SqL X.K H l xs)(hSI:S≠I)(fS:Zk X pins H S)(fI:Zk X pins H I)(cmp:jku X pins σ H xs bt)
  (hR:∀x u s',xs[aZ bt (xs.length-1)]?=a3 x->RelV x u->Inv X pins σ H s'->R (.ok (.ret u)) s') :
  ∀(r j:Nat)(s:af)(x:V)(u:aa)(c:Nat),xs.length-(j+1)=r->j+1<=xs.length->Inv X pins σ H s->s.heap.get? S=a3 (fg "list" #[u,u] c) ->
   s.heap.IsListIter I l (j+1)->xs[aZ bt j]?=a3 x->RelV x u->cG (ax X.prog X.w) X.A (.builtin "min.loop" ⟨[.ref I,.none,.ref S],[]⟩) R s:=by
 have hname:(toString "min" ++ toString ".loop":String) = "min.loop":=by decide
 have fp:∀b∈[S,I],Zk X pins H b:=λb hb=>by
  rcases xn.mp hb with e|hb
  .subst e;exact fS
  .rw[xr.mp hb];exact fI
 intro r;induction r with
 |zero =>
  intro j s x u c hr hj I1 oS it hx ru;have hin:j+1=xs.length:=by omega
  obtain⟨its,rv,p,_⟩:=I1.list hl;have hlen:=rv.length;refine bg dH ?_;rw[T3 T7 _];show ar _ X.A.in1 (gv (.ref S) >>= _) _ _ _;refine a7 (dJ oS rfl ?_);show ar _ X.A.in1 (tryCatch (dX (.ref I)) _ >>= _) _ _ _;refine a7 (eY (jM hh it p.isList (by simp;omega) λh' eb=>?_));have I2:Inv X pins σ H { s with heap:=h' }:=I1.chg (ch:=[S,I]) fp λb o hb e=>eb b o (λz=>hb (by simp[z])) e;have oS':h'.get? S=a3 (fg "list" #[u,u] c):=eb S _ hSI oS;show ar _ X.A.in1 (updateSeq S (λ_=>#[]) >>= _) _ _ _;refine a7 ?_;refine gR oS' rfl (a7 (gK (ai ?_)));have s1:=Ti h' S (bV λ_=>(#[]:Array aa));exact hR x u _ (by rw[<-hin];exact hx) ru (I2.chg (ch:=[S,I]) fp λb o hb e=>(s1.2 b (λz=>hb (by simp[z]))).trans e)
 |succ r ih =>
  intro j s x u c hr hj I1 oS it hx ru;have hlt:j+1<xs.length:=by omega
  obtain⟨its,rv,p,_⟩:=I1.list hl;have hlen:=rv.length;have hx1:xs[j+1]?=a3 xs[j+1]:=by simp[hlt]
  obtain⟨v,hv,rv1⟩:=rv.get hx1;refine bg dH ?_;rw[T3 T7 _];show ar _ X.A.in1 (gv (.ref S) >>= _) _ _ _;refine a7 (dJ oS rfl ?_);show ar _ X.A.in1 (tryCatch (dX (.ref I)) _ >>= _) _ _ _;refine a7 (eY (eK it p.isList (x:=v) (by simpa using hv) λh' it' sb=>?_));have I2:Inv X pins σ H { s with heap:=h' }:=I1.chg (ch:=[S,I]) fp λb o hb e=>(sb.2 b (λz=>hb (by simp[z]))).trans e;have oS':h'.get? S=a3 (fg "list" #[u,u] c):=(sb.2 S hSI).trans oS;obtain⟨oI,eI,cI,dI⟩:=id it';show ar _ X.A.in1 (tryCatch (cF [v,v] (jS .Lt v u >>= _)) _ >>= _) _ _ _;refine a7 (eY (bx (a7 (cmp (j+1) (aZ bt j) _ _ v u _ _ _ hx1 hx rv1 ru I2 ?_))));refine a7 (bx (bc ?_));refine a7 (gK (ai ?_));cases hb:bt (j+1) (aZ bt j) with
  |true =>
   have s1:=Ti h' S (bV λ_=>#[v,v]);obtain⟨c2,hc2⟩:∃c2,(h'.update S (bV λ_=>#[v,v])).get? S=a3 (fg "list" #[v,v] c2):=⟨_,lZ oS' λ_=>#[v,v]⟩
   simp only[if_true];refine a7 ?_;refine gR oS' rfl (a7 (gK ?_));rw[hname];exact ai ⟨cD T7 _,ih (j+1) _ _ v c2 nofun hlt (I2.chg (ch:=[S,I]) fp λb o hb e=>(s1.2 b (λz=>hb (by simp[z]))).trans e) hc2
    ⟨oI,(s1.2 I hSI.symm).trans eI,cI,dI⟩ (by simp only[aZ,hb,if_true];exact hx1) rv1⟩
  |false =>simp only[ph,if_false];refine a7 (gK ?_);rw[hname];exact ai ⟨cD T7 _,ih (j+1) _ x u c nofun hlt I2 oS' ⟨oI,eI,cI,dI⟩ (by simp only[aZ,hb,ph,if_false];exact hx) ru⟩
theorem jhz(bt:Nat->Nat->Bool)(hh:X.A.handled=a9){s:af}{Q:VK}{E:k9e}(I0:Inv X pins σ H s)(hl:SqL X.K H l xs)(hne:0<xs.length)(cmp:jku X pins σ H xs bt)
  (hQ:∀x,xs[aZ bt (xs.length-1)]?=a3 x->Q x H):ar (ax X.prog X.w) X.A (call (.builtin "min") [.ref l]) (EP X pins σ Q) E s:=by
 have hname:(toString "min" ++ toString ".loop":String) = "min.loop":=by decide
 obtain⟨its0,rv0,p0,_⟩:=I0.list hl;refine call_function_tree PySem.F.kind_min PySem.F.plain_min PySem.F.entry_min (PySem.F.args_min1 _) ?_;show ar _ X.A.in1 (Builtin.Builtins.bindParams "min" ["key","default"] 0 ⟨[],[]⟩ >>= _) _ _ s;refine a7 (gJ (show Builtin.Builtins.bindParams "min" ["key","default"] 0 ⟨[],[]⟩=pure [a9,a9]from rfl) ?_);refine a7 (ai ?_);refine a7 (bu p0.isList ?_);refine a7 (wpAny_newList ?_ (cy _));rw[hname];generalize hA:s.heap.push { cls:=.type "list_iterator",data:=.fields #[.ref l,.int 0 0] }=h1;have z1:h1.objs.size=s.heap.objs.size+1:=by rw[<-hA];exact size_push' ..
 have gI:(h1.push (fg "list" #[] 0)).get? s.heap.objs.size=a3 { cls:=.type "list_iterator",data:=.fields #[.ref l,.int 0 0] }:=by rw[<-hA];exact xj _ (X5 _ rfl)
 have gS:(h1.push (fg "list" #[] 0)).get? h1.objs.size=a3 (fg "list" #[] 0):=X5 _ rfl;have I1:Inv X pins σ H { s with heap:=h1.push (fg "list" #[] 0) }:=I0.kept (t':=s.toks) λb o e=>xj _ (by rw[<-hA];exact xj _ e);have fI:Zk X pins H s.heap.objs.size:=I0.fpOk (xu _) (I0.hok.fresh (xu _));have fS:Zk X pins H h1.objs.size:=I0.fpOk (by rw[z1];exact Pr _) (I0.hok.fresh (by rw[z1];exact Pr _));have hSI:h1.objs.size≠s.heap.objs.size:=by rw[z1];exact Tc (S8 _)
 have fp:∀b∈[h1.objs.size,s.heap.objs.size],Zk X pins H b:=λb hb=>by
  rcases xn.mp hb with e|hb
  .subst e;exact fS
  .rw[xr.mp hb];exact fI
 refine ai ⟨cD T7 _,?_⟩;obtain⟨its,rv,p,_⟩:=I1.list hl;have hlen:=rv.length;have hx0:xs[0]?=a3 xs[0]:=by simp[hne]
 obtain⟨v,hv,rv1⟩:=rv.get hx0;refine bg dH ?_;rw[T3 T7 _];show ar _ X.A.in1 (gv (.ref _) >>= _) _ _ _;refine a7 (dJ gS rfl ?_);show ar _ X.A.in1 (tryCatch (dX (.ref s.heap.objs.size)) _ >>= _) _ _ _;refine a7 (eY (eK (i:=0) ⟨_,gI,rfl,rfl⟩ p.isList (x:=v) (by simpa using hv) λh' it' sb=>?_));have I2:Inv X pins σ H { s with heap:=h' }:=I1.chg (ch:=[h1.objs.size,s.heap.objs.size]) fp λb o hb e=>(sb.2 b (λz=>hb (by simp[z]))).trans e;have oS':h'.get? h1.objs.size=a3 (fg "list" #[] 0):=(sb.2 _ hSI).trans gS;obtain⟨oI,eI,cI,dI⟩:=id it';have s1:=Ti h' h1.objs.size (bV λ_=>#[v,v]);obtain⟨c2,hc2⟩:∃c2,(h'.update h1.objs.size (bV λ_=>#[v,v])).get? h1.objs.size=a3 (fg "list" #[v,v] c2):=⟨_,lZ oS' λ_=>#[v,v]⟩
 show ar _ X.A.in1 (updateSeq h1.objs.size (λ_=>#[v,v]) >>= _) _ _ _;refine a7 ?_;refine gR oS' rfl ?_;rw[hname];exact ai ⟨cD T7 _,jea bt hh hl hSI fS fI cmp (λx u s' hx ru I=>⟨x,H,I,ru,hQ x hx⟩) _ 0 _ _ v c2 rfl hne
  (I2.chg (ch:=[h1.objs.size,s.heap.objs.size]) fp λb o hb e=>(s1.2 b (λz=>hb (by simp[z]))).trans e) hc2 ⟨oI,(s1.2 _ hSI.symm).trans eI,cI,dI⟩ hx0 rv1⟩
end
noncomputable def Jq(l:List (List Int))(i j:Nat):Bool:=HT.lexLt (l.getD i []) (l.getD j [])
section
variable{X:Cx}{ρ:Rho}{a:aj}{l:List (List Int)}{k:List Int}{p pos:aM}
theorem DT.minT (hu:X.A.units+100<aV) (hcalm:X.calm=a6) (hm:X.mg "min" = a9) (hg:Gl X "min") (ha:DT X ρ a (.lst (l.map λk=>D.tup (k.map D.int)))) (hk:l[aZ (Jq l) (l.length-1)]?=a3 k) (hs:a8 [a] X.env=[(a4,ay a X.env)]) :
  DT X ρ (.Call (.Name "min" p) [a] [] pos) (.tup (k.map D.int)):=λσ H Q R q pins s I=>by
 refine aG (Ql I hg hm mD ?_ (by decide) (by decide));refine callWith_builtin1 (thn ((jg (es:=[]) peS jy hs).to (σ:=σ) (H:=H) (Q:=λvs H1=>∃v,vs=[v]/\j0 H H1/\Enc X.K H1 (.lst (l.map λk=>D.tup (k.map D.int))) v) (ha σ H _ R λv H1 g1 e1=>⟨v,rfl,g1,e1⟩) pos pins s I) λus s1 ⟨vs,H1,I1,r1,v,ev,g1,e1⟩=>?_) hs rfl;subst ev;obtain⟨b,xs,eb,sq,en⟩:=e1;subst eb;obtain⟨u,eu,ru⟩:=r1.one;subst eu;cases(show u=aF b from ru);have hlen:xs.length=l.length:=by rw[en.length,km]
 have hin:=(X8.mp hk).1;have item:∀{i:Nat}{x:V},xs[i]?=a3 x->∃t,x=.ref t/\SqT X.K H1 t ((l.getD i []).map V.int)/\Enc X.K H1 (.tup ((l.getD i []).map D.int)) x:=λ{i x} hx=>by
  obtain⟨d,hd,ed⟩:=en.get' hx;rw[xx]at hd;obtain⟨k',hk',ek⟩:=Xw.mp hd;subst ek;have eg:l.getD i []=k':=by rw[kj,hk'];rfl
  rw[eg];obtain⟨t,ys,e1,sq',l'⟩:=id ed;rw[vg l']at sq';exact⟨t,e1,sq',ed⟩
 refine jhz (Jq l) (I.ok.hd hcalm) I1 sq nofun (λi j x y u v s2 Q2 E2 hx hy rx ry I2 hq=>?_) λx hx=>?_
 .obtain⟨t,e1,s1',_⟩:=item hx;obtain⟨t',e2,s2',_⟩:=item hy;subst e1 e2;cases rx;cases ry;obtain⟨its,r1,p1,_⟩:=I2.tuple s1';obtain⟨its2,r2,p2,_⟩:=I2.tuple s2';exact HT.lt_tupInts (A:=X.A.in1) p1 p2 (intsAre_of r1) (intsAre_of r2) (by show X.A.units+1<aV;omega) hq
 .rw[hlen]at hx;obtain⟨t,e1,_,ed⟩:=item hx;have eg:l.getD (aZ (Jq l) (l.length-1)) []=k:=by rw[kj,hk];rfl
  rw[eg]at ed;exact q x H1 g1 ed
end
section
variable{X:Cx}{ρ:Rho}{it e2:aj}{P:Po}{ds:List D}{x t:Nat}{nx nt:ah}{p1 p2 p3 p4 p10 p11 p12 p14 p16 p17 p18:aM}
noncomputable abbrev jc0(nx nt:ah)(it e2:aj)(p1 p2 p3 p4 p10 p11 p12 p14 p16 p17 p18:aM):List aX :=
 [.Assign [.Name nx p1] (.Dict [] [] p2) p3,.For (.Name nt p4) it [.Assign [.Subscript (.Name nx p10) (.Name nt p11) p12] e2 p14] [] p16,.Return (a3 (.Name nx p17)) p18]
theorem DSs.wmake(W:Nat->Rho->List (List Int)->List Int->Prop)(rx:x<ρ.length)(rt:t<ρ.length)(hxt:x≠t)(hi:DI X (ρ.set x .un) (.Name nt p4) it ds)(h0:W 0 (ρ.set x .un) [] [])
  (hs:∀i d ρ' ks ns,ds[i]?=a3 d->W i ρ' ks ns->∃k n,d=.tup (k.map D.int)/\DE X ((ρ'.set t (.val d)).set x (.val (.dct ks (ns.map D.int)))) e2 (.int n) /\
   ks.contains k=a4/\ks.length<ak/\W (i+1) (ρ'.set t (.val d)) (ks++[k]) (ns++[n]))
  (hd:∀ρ' ks ns,W ds.length ρ' ks ns->P.rt (.val (.dct ks (ns.map D.int))))
  (hu:X.A.units+100<aV) (hc:X.calm=a6) (hp:dB (ax X.prog X.w) X.A X.env X.xe) (hN:X.N.Nodup) (hX:X.N[x]?=a3 nx) (hT:X.N[t]?=a3 nt)
  (lx:Loc X.env.scope nx) (lt:Loc X.env.scope nt) (fx:X.fn nx=a6\/X.env.scope.names.lookup nx=a3 .local) (ft:X.fn nt=a6\/X.env.scope.names.lookup nt=a3 .local)
  (dx:(nx==k9h)=a4) (cx:(nx==k9i)=a4) (dt:(nt==k9h)=a4) (ct:(nt==k9i)=a4)
  (s1:aK (.Dict [] [] p2) (a3 (.Name nx p1)) p3.line X.env=pure a4)
  (s3:aK e2 (a3 (.Subscript (.Name nx p10) (.Name nt p11) p12)) p14.line X.env=pure a4) (hf:∀x,aA it X.env x=pure x) :
  DSs X ρ (jc0 nx nt it e2 p1 p2 p3 p4 p10 p11 p12 p14 p16 p17 p18) P:=λσ H E R q=>by
 have vis:∀{z:ah},Loc X.env.scope z->Vis X.env.scope z:=λh=>h.elim .inl λz=>.inr (.inl z);refine(Vm (Uc hN hX lx j3q s1 fx) (Vm (j1d hp hc piS (V4 hN hT lt ft) (Bk (j3n hu (vo hX (vis lx) dx cx) (vo hT (vis lt) dt ct) peS s3)) hf)
  (Bk (Wx (vo hX (vis lx) dx cx))))).to ?_
 intro a ha;have R0:Rep X.K (ρ.set x .un) (σ.set x (a3 (.ref a))) H:=R.set_un;have hxl:x<σ.length:=by rw[R.len];exact rx
 refine Cm (A:=[a]) (R':=λJ F=>j0 H F/\Uw X.K (del F (owns (ρ.set x .un))) J ds) (λb hb=>.inr ⟨[],0,by rw[xr.mp hb];exact j9⟩) (by rw[Do ha];exact hi _ H _ R0 λJ F g ok=>⟨g,ok⟩) λJ F ⟨g,ok⟩ hn=>?_;rw[Km j9];have fa:F a=a9:=hn a (by simp);refine⟨λi m σ' H'=>∃ρ' Fh xs ep ns,H'=upd Fh a (.dI xs ep)/\Fh a=a9/\Rep X.K ρ' σ' Fh/\j0 F Fh/\(∀b∈owns ρ',b∈owns (ρ.set x .un))/\ρ'.length=ρ.length/\σ'[x]?=a3 (a3 (.ref a)) /\
   (∀z∈xs,SqT X.K Fh z.2.1 (z.1.map V.int))/\Vals (ns.map V.int) (xs.map λz=>z.2.2)/\W i ρ' (xs.map λz=>z.1) ns/\m=ds.length-i/\i<=ds.length,
  ⟨ds.length,ρ.set x .un,F,[],0,[],rfl,fa,R0.grow g,j0.refl _,λb hb=>hb,by simp,Ua hxl,λz hz=>(nomatch hz),.nil,h0,rfl,cy _⟩,?_⟩
 rintro i m σ' H' ⟨ρ',Fh,xs,ep,ns,rfl,fha,R',gF,sub,hL,sx,kt,rv,w,rfl,hle⟩;have gU:j0 Fh (upd Fh a (.dI xs ep)):=j7 fha;obtain⟨go,stop,yld⟩:=ok i (upd Fh a (.dI xs ep)) (a::owns ρ') (λb o eb=>by
  obtain⟨nb,eb⟩:=of_del eb
  have nba:b≠a:=λz=>by rw[z,fa]at eb;cases eb
  rw[j6,ji nba]
  .exact gF b o eb
  .intro z
   rcases xn.mp z with z|z
   .exact nba z
   .exact nb (sub b z)) (λb hb=>by
  rcases xn.mp hb with z|z
  .rw[z,j9];simp
  .obtain⟨ys,eb⟩:=R'.owned b z
   rw[gU _ _ eb];simp)
 by_cases hlt:i<ds.length
 .obtain⟨k,n,ed,hE2,nk,hkl,w'⟩:=hs i ds[i] ρ' _ ns (kh hlt) w;refine .inr ⟨go hlt,λσ2 H2=>∃ρ2 Fh2 xs2 ep2 ns2,H2=upd Fh2 a (.dI xs2 ep2)/\Fh2 a=a9/\Rep X.K ρ2 σ2 Fh2/\j0 F Fh2/\(∀b∈owns ρ2,b∈owns (ρ.set x .un))/\ρ2.length=ρ.length/\σ2[x]?=a3 (a3 (.ref a)) /\
   (∀z∈xs2,SqT X.K Fh2 z.2.1 (z.1.map V.int))/\Vals (ns2.map V.int) (xs2.map λz=>z.2.2)/\W (i+1) ρ2 (xs2.map λz=>z.1) ns2,
   λσ2 H2 ⟨ρ2,Fh2,xs2,ep2,ns2,z1,z2,z3,z4,z5,z5',z6,z7,z8,z10⟩=>⟨ds.length-(i+1),by omega,ρ2,Fh2,xs2,ep2,ns2,z1,z2,z3,z4,z5,z5',z6,z7,z8,z10,rfl,hlt⟩,λv H2 yv=>?_⟩
  obtain⟨g2,en⟩:=yld v H2 yv;have en:=en _ (kh hlt);have h2a:H2 a=a3 (.dI xs ep):=g2 _ _ j9;have e2:H2=upd (del H2 [a]) a (.dI xs ep):=j3e h2a;have f2a:del H2 [a] a=a9:=qt (by simp);have gF2:j0 Fh (del H2 [a]):=λb o eb=>by
   have nb:b≠a:=λz=>by rw[z,fha]at eb;cases eb
   rw[j6 (by simpa using nb)];exact g2 b o (gU b o eb)
  have en2:Enc X.K (del (del H2 [a]) (owns ρ')) ds[i] v:=by rw[Z6];exact en
  generalize del H2 [a]=F2 at e2 f2a gF2 en2;subst e2;have R2:Rep X.K (ρ'.set t (.val ds[i])) (σ'.set t (a3 v)) F2:=(R'.grow gF2).set_val en2;have sub2:∀b∈owns (ρ'.set t (.val ds[i])),b∈owns (ρ.set x .un):=λb hb=>sub b ((jf rfl).subset hb);have sx3:(σ'.set t (a3 v))[x]?=a3 (a3 (.ref a)):=by rw[zp (cb hxt)];exact sx
  have lenN:σ'.length=ρ.length:=by rw[R'.len,hL]
  have htl:t<σ'.length:=by rw[lenN];exact rt
  have hL3:(ρ'.set t (.val ds[i])).length=ρ.length:=by rw[T8,hL]
  have st3:(σ'.set t (a3 v))[t]?=a3 (a3 v):=Ua htl;have kt3:∀z∈xs,SqT X.K F2 z.2.1 (z.1.map V.int):=λz hz=>gF2.seqT (kt z hz);rw[ed]at en2;obtain⟨tb,ys,ev,sq,li⟩:=en2;rw[vg li]at sq;subst ev;have sq3:SqT X.K F2 tb (k.map V.int):=jt.seqT sq;show Qu X e2 (σ'.set t (a3 (V.ref tb))) (upd F2 a (.dI xs ep)) _;generalize σ'.set t (a3 (V.ref tb))=σ3 at R2 sx3 st3 ⊢;generalize ρ'.set t (.val ds[i])=ρ3 at R2 sub2 hL3 hE2 w' ⊢;have g4:j0 F2 (upd F2 a (.dI xs ep)):=j7 f2a;have hO:∀b∈owns ρ3,Hd (upd F2 a (.dI xs ep) b):=λb hb=>.inl (let ⟨zs,e⟩:=R2.owned b hb;⟨zs,g4 _ _ e⟩);have na:a∉owns ρ3:=λz=>by obtain⟨zs,e⟩:=R2.owned a z;rw[f2a]at e;cases e
  have R4:Rep X.K (ρ3.set x (.val (.dct (xs.map λz=>z.1) (ns.map D.int)))) σ3 (upd F2 a (.dI xs ep)):=by
   have z:=(R2.grow g4).set_val (i:=x) (d:=.dct (xs.map λz=>z.1) (ns.map D.int)) (v:=.ref a) ⟨a,xs,ep,ns.map V.int,rfl,by rw[j6 na];exact j9,rfl,λz hz=>?_,rv,j25 hO (J7 ns) (j4.ints ns)⟩
   .rw[U9 sx3]at z;exact z
   .have e:Enc X.K (upd F2 a (.dI xs ep)) (.tup (z.1.map D.int)) (.ref z.2.1):=⟨_,_,rfl,g4.seqT (kt3 z hz),j4.ints z.1⟩
    obtain⟨b,zs,e1,e2,e3⟩:=e.hide hO (by rw[Z2];exact J7 z.1);cases e1;rw[vg e3]at e2;exact e2
  refine hE2 σ3 _ _ R4 λv4 H4 g5 en4=>?_;cases(show v4=.int n from en4);have h4a:H4 a=a3 (.dI xs ep):=g5 _ _ j9;have f4a:del H4 [a] a=a9:=qt (by simp);have gF4:j0 F2 (del H4 [a]):=λb o eb=>by
   have nb:b≠a:=λz=>by rw[z,f2a]at eb;cases eb
   rw[j6 (by simpa using nb)];exact g5 b o (g4 b o eb)
  have gU4:j0 (del H4 [a]) H4:=jt;refine⟨.ref a,sx3,.ref tb,st3,a,tb,xs,ep,k,rfl,h4a,λz hz=>gU4.seqT (gF4.seqT (kt3 z hz)),rfl,gU4.seqT (gF4.seqT sq3),nk,by rw[km]at hkl;exact hkl,λu ep' ru=>?_⟩;refine⟨ρ3,del H4 [a],xs++[(k,tb,u)],ep',ns++[n],?_,f4a,R2.grow gF4,gF.trans (gF2.trans gF4),sub2,hL3,sx3,λz hz=>?_,?_,by rw[Xe];exact w'⟩
  .funext b
   by_cases z:b=a
   .subst z;rw[j9,j9]
   .rw[ji z,ji z,j6 (by simpa using z)]
  .rcases Pn.mp hz with hz|hz
   .exact gF4.seqT (kt3 z hz)
   .rw[xr.mp hz];exact gF4.seqT sq3
  .rw[Xe,Xe];exact rv.append (.cons ru .nil)
 .have e:i=ds.length:=by omega
  subst e;refine .inl ⟨stop (xu _),.ref a,sx,?_⟩;refine q.rt (.val (.dct _ (ns.map D.int))) (.ref a) _ (hd ρ' _ ns w) ⟨λb o eb=>gU b o (gF b o (g b o (of_del eb).2)),a,xs,ep,ns.map V.int,rfl,j9,rfl,λz hz=>gU.seqT (kt z hz),rv,j4.ints ns⟩
end
theorem j5f{acc:Array aa}{n:Nat}(h:jA (λi v=>∃t,v=bf (0+(i:Int)*1) t) acc n):Vals ((aq n).map λ(i:Nat)=>V.int (i:Int)) acc.toList:=by
 obtain⟨h1,h2⟩:=h;have key:∀(l:List aa)(k:Nat),(∀i v,l[i]?=a3 v->∃t,v=bf (((k+i:Nat):Int)) t)->Vals ((List.range' k l.length).map λ(i:Nat)=>V.int (i:Int)) l:=by
  intro l;induction l with
  |nil=>intro k _;exact .nil
  |cons v l ih =>intro k hk;obtain⟨t,e⟩:=hk 0 v rfl;rw[X7,List.range'_succ,xm];refine .cons ⟨t,by rw[e];rfl⟩ (ih (k+1) λi v hv=>?_);obtain⟨t,e⟩:=hk (i+1) v hv;exact⟨t,by rw[e,show k+1+i=k+(i+1)by omega]⟩
 have:=key acc.toList 0 λi v hv=>by obtain⟨t,e⟩:=h2 i v (by rw[<-Sh];exact hv);exact⟨t,by rw[e];congr 1;omega⟩
 rw[<-List.range_eq_range',c9,h1]at this;exact this
section
variable{X:Cx}{ρ:Rho}{a:aj}{p p1 p2 pos:aM}
theorem DO.lrange {n:Int} (ha:DT X ρ a (.int n)) (h1:0<=n) (h2:n<=1000000) (hc:X.calm=a6) (hm:X.mg "list" = a9) (hg:Gl X "list") (hmr:X.mg "range" = a9) (hgr:Gl X "range")
  (hs:a8 [.Call (.Name "range" p1) [a] [] p2] X.env=[(a4,ay (.Call (.Name "range" p1) [a] [] p2) X.env)]) (hs2:a8 [a] X.env=[(a4,ay a X.env)]) :
  DO X ρ (.Call (.Name "list" p) [.Call (.Name "range" p1) [a] [] p2] [] pos) ((aq n.toNat).map λ(i:Nat)=>D.int (i:Int)):=λσ H Q R q pins s I=>by
 refine aG (Ql I hg hm boot_list ?_);refine callWith_type1 ?_ hs rfl;rw[hs];show ar _ _ (hJ ((a4,ay _ X.env)::aL pos [])) _ _ s;refine d0 ?_;refine aG (Ql I hgr hmr kB (callWith_type1 (thn ((jg peS jy hs2) p2 pins s σ H (λvs H1=>j0 H H1/\vs=[.int n]) I (ha σ H _ R λv H1 g e=>⟨g,by rw[show v=.int n from e]⟩)) λus s1 ⟨vs,H1,I1,r1,g1,ev⟩=>?_) hs2 rfl));subst ev;cases r1 with
 |cons r rr =>
  cases rr;obtain⟨t,rfl⟩:=r;refine call_range_1 ?_;refine dn ?_;have I2:Inv X pins σ H1 { s1 with heap:=s1.heap.push { cls:=.type "range",data:=.fields #[.int 0 s1.toks,.int n t,.int 1 (s1.toks+1)] },toks:=s1.toks+1+1 }:=I1.kept λb o e=>xj _ e;refine call_list_range (n:=n.toNat) (I2.ok.hd hc) (IsRange.new ..) (small_one nofun nofun nofun nofun) (by rw[mH];split<;>omega) nofun λh' tk acc c' kp e items=>?_;have I3:Inv X pins σ H1 { s1 with heap:=h',toks:=tk }:=I2.kept (t':=tk) (h':=h') kp;have vs:=j5f items;have hf:H1 (s1.heap.push { cls:=.type "range",data:=.fields #[.int 0 s1.toks,.int n t,.int 1 (s1.toks+1)] }).objs.size=a9:=I2.hok.fresh (xu _);have hz:((aq n.toNat).map λ(i:Nat)=>V.int (i:Int)).length<=ak:=by rw[km,Xh];rw[fE];omega
  have I4:=I2.laid (t':=tk) (o:=.lst ((aq n.toNat).map λ(i:Nat)=>V.int (i:Int))) kp (xu _) ⟨hz,acc.toList,c',vs,e⟩;refine⟨.ref (s1.heap.push { cls:=.type "range",data:=.fields #[.int 0 s1.toks,.int n t,.int 1 (s1.toks+1)] }).objs.size,_,I4,rfl,q _ _ _ (g1.trans (j7 hf)) (g1.free hf) j9 ?_⟩;have:=j4.ints (K:=X.K) (H:=(del (upd H1 (s1.heap.push { cls:=.type "range",data:=.fields #[.int 0 s1.toks,.int n t,.int 1 (s1.toks+1)] }).objs.size (.lst ((aq n.toNat).map λ(i:Nat)=>V.int (i:Int)))) ((s1.heap.push { cls:=.type "range",data:=.fields #[.int 0 s1.toks,.int n t,.int 1 (s1.toks+1)] }).objs.size::owns ρ))) ((aq n.toNat).map λ(i:Nat)=>(i:Int));rw[Xj,Xj]at this;exact this
end
noncomputable def jnw(kvs:List (ah×Int))(k:ah):Option Int:=(kvs.find? λp=>decide (p.1=k)).map λp=>p.2
noncomputable def jnz(kvs:List (ah×Int))(k:ah):Bool:=kvs.any λp=>decide (p.1=k)
noncomputable def dput(kvs:List (ah×Int))(k:ah)(n:Int):List (ah×Int):=if jnz kvs k=a6 then kvs.map λp=>if p.1=k then(p.1,n)else p else kvs++[(k,n)]
section
variable{X:Cx}{ρ:Rho}{a b e k:aj}{rest:List aX}{P:Po}{kvs:List (ah×Int)}{z:ah}{n:Int}{i j:Nat}{nx ny:ah}{pos pos' p p1 p2 p3 p4 p5 p6 p7 p8:aM}{td ty tv:TE}{o value:aj}
end
section
variable{prog:av}{w:az}{A:aB}{E:k9e}{s:af}
end
section
variable{prog:av}{w:az}{A:aB}{E:k9e}{s:af}{l1 l2:Bool}{z TI TO i1 i2 t1 t2 p:ae}{f:Bool}{op:dw}{k:Nat}{us vs:Array aa}{x y a b:aa}
end
section
variable{X:Cx}{pins:k9f}{σ:St}{z TI TO i1 i2 t1 t2 d:ae}{l1 l2:Bool}{ks:List ah}{ns:List Int}{A:aB}{R:fO->af->Prop}
end
section
variable{X:Cx}{ρ:Rho}{a b:aj}{ks:List ah}{ns:List Int}{p p2 p3 p4:aM}
end
section
variable{X:Cx}{ρ:Rho}{a e:aj}{es:List aj}{x:ah}{d:D}{p p1 p2 pos:aM}{y:ah}{ds:List D}
theorem Iu.grow{σ:St}{H H':Hp}(k:Iu X σ H x)(g:j0 H H'):Iu X σ H' x:=λpins H2 s' e C I g2 hC Fe=>k pins H2 s' e C I (g.trans g2) hC Fe
theorem DXA.head(ha:DX X ρ a x)(hs:a8 (a::es) X.env=(a4,ay a X.env)::a8 es X.env):DXA X ρ (a::es) x:=λσ H Q R k =>(jg peS paS hs).to (ha σ H _ R k)
theorem DXA.tail(ha:DT X ρ a d)(h:DXA X ρ es x)(hs:a8 (a::es) X.env=(a4,ay a X.env)::a8 es X.env):DXA X ρ (a::es) x:=λσ H Q R k =>(jg peS paS hs).to (ha σ H _ R λv H1 g _=>h σ H1 _ (R.grow g) (k.grow g))
theorem DX.args {f:ah} (ha:DXA X ρ (e::es) x) (hg:Gl X f) (hdb:(f==k9h)=a4) {fa:ae} (hfa:X.mg f=a3 (.ref fa)) (hk:W.keepIn X.K (.ref fa)=a6)
  (he:a8 (e::es) X.env=(a4,ay e X.env)::a8 es X.env) (hpl:(aL pos (a8 es X.env)).any (·.1)=a4):DX X ρ (.Call (.Name f p) (e::es) [] pos) x:=λσ H Q R k pins s I=>by
 refine aG (U4 I hg hfa ?_ hdb);exact W.callWith_K (h₀:=X.base) I.ok.mod.kin hk (thn (ha σ H (λ_ _=>False) R k pos pins s I) λus s1 ⟨vs,H1,I1,r,z⟩=>z.elim) he hpl
end
noncomputable def Ob:List Int->Int
 |[]=>0
 |a::r=>r.foldl max a
theorem j9y:∀(r:List Int)(a:Int),a<=r.foldl max a
 |[],a=>t8 a
 |b::r,a=>by rw[Tt];have:=j9y r (max a b);omega
theorem Ek:∀(r:List Int)(a:Int),r.foldl max a∈a::r/\∀b∈a::r,b<=r.foldl max a
 |[],a=>⟨xr.mpr rfl,λb hb=>by rw[xr.mp hb];exact t8 _⟩
 |c::r,a=>by
  rw[Tt];obtain⟨h1,h2⟩:=Ek r (max a c);refine⟨?_,λb hb=>?_⟩
  .rcases xn.mp h1 with z|z
   .rw[z];by_cases q:a<=c
    .rw[Int.max_eq_right q];exact xf _ xq
    .rw[Int.max_eq_left nofun];exact xq
   .exact xf _ (xf _ z)
  .have l:=h2 (max a c) xq;rcases xn.mp hb with z|z
   .rw[z];omega
   .rcases xn.mp z with z|z
    .rw[z];omega
    .exact h2 b (xf _ z)
theorem j1q{ns:List Int}(h:ns≠[]):Ob ns∈ns/\∀b∈ns,b<=Ob ns:=by
 cases ns with
 |nil=>exact absurd rfl h
 |cons a r=>exact Ek r a
theorem jee{ns:List Int}{M:Int}(h1:M∈ns)(h2:∀a∈ns,a<=M):Ob ns=M:=by
 have hn:ns≠[]:=λe=>by rw[e]at h1;exact nomatch h1
 obtain⟨a,b⟩:=j1q hn;have:=h2 _ a;have:=b _ h1;omega
noncomputable def Qn(ns:List Int):Int:=-Ob (ns.map λn=>-n)
theorem Fw{ns:List Int}(h:ns≠[]):Qn ns∈ns/\∀b∈ns,Qn ns<=b:=by
 obtain⟨h1,h2⟩:=j1q (ns:=ns.map λn=>-n) (by simpa using h);obtain⟨a,ha,e⟩:=Xm.mp h1;unfold Qn;refine⟨?_,λb hb=>?_⟩
 .rw[<-e,Int.neg_neg];exact ha
 .have:=h2 _ (Xm.mpr ⟨b,hb,rfl⟩);omega
theorem j3w{ns:List Int}{M:Int}(h1:M∈ns)(h2:∀a∈ns,M<=a):Qn ns=M:=by
 obtain⟨a,b⟩:=Fw (ns:=ns) λe=>by rw[e]at h1;exact nomatch h1
 have:=h2 _ a;have:=b _ h1;omega
section
variable{X:Cx}{ρ:Rho}{a b e:aj}{es:List aj}{x y:ah}{d:D}{i j:Int}{p p1 p2 p3 p4 pk pos:aM}{ds:List D}
theorem jbz{pins:k9f}{s:af}{σ:St}{H:Hp}{l:ae}{ns:List Int}(I:Inv X pins σ H s)(sq:SqL X.K H l (ns.map V.int))(hne:ns≠[]):∃zs,s.heap.IsList l (f7 zs)/\0<zs.size/\zs.size=ns.length/\∀i,i<zs.size->gL zs i=ns.getD i 0:=by
 obtain⟨its,rv,pl,_⟩:=I.list sq;have hl:its.length=ns.length:=by rw[<-rv.length,km]
 have val:∀(i:Nat)(v:aa),its[i]?=a3 v->∃t,v=bf (ns.getD i 0) t:=by
  intro i v hv;have hi:i<its.length:=(X8.mp hv).1;have hi':i<ns.length:=by omega
  obtain⟨w1,hw,rw1⟩:=rv.get (x:=.int (ns.getD i 0)) (i:=i) (by rw[xx,kh hi',kj,kh hi'];rfl);rw[hw]at hv;cases hv;exact rw1
 have hall:AllInts its.toArray:=by intro v hv;obtain⟨i,hi,e⟩:=Tu.mp (show v∈its by simpa using hv);obtain⟨t,e'⟩:=val i v (by rw[kh hi,e]);exact⟨_,t,e'⟩
 obtain⟨zs,hz⟩:=hall.items;have pl':=pl.isList;rw[hz]at pl';have hsz:0<zs.size:=by
  have:its.toArray.size=(f7 zs).size:=by rw[hz]
  have h1:0<ns.length:=List.length_pos_iff.mpr hne;simp[f7]at this;omega
 have hns:∀i,i<zs.size->gL zs i=ns.getD i 0:=by
  intro i hi;obtain⟨v1,e1⟩:∃v,(f7 zs)[i]?=a3 v:=⟨_,c7 (by simpa [f7]using hi)⟩
  obtain⟨t,ht⟩:=jU e1;rw[<-hz]at e1;obtain⟨t',ht'⟩:=val i _ (by simpa using e1);rw[ht]at ht';exact(Value.int.inj ht').1
 have len:zs.size=ns.length:=by
  have:its.toArray.size=(f7 zs).size:=by rw[hz]
  simp[f7]at this;omega
 exact⟨zs,pl',hsz,len,hns⟩
theorem j8h (hc:X.calm=a6):Ju X (.builtin "max") (λxs H Q=>∃(l:ae)(ns:List Int),xs=[.ref l]/\SqL X.K H l (ns.map V.int)/\ns≠[]/\Q (.int (Ob ns)) H):=by
 rintro pins s σ H xs us Q I r ⟨l,ns,e,sq,hne,q⟩;subst e;obtain⟨u,eu,ru⟩:=vals1 r;subst eu;cases ru;obtain⟨zs,pl',hsz,len,hns⟩:=jbz I sq hne;refine max_intList (I.ok.hd hc) pl' hsz λv h' tk hv hk=>?_;obtain⟨t,rfl⟩:=jU hv;obtain⟨h1,h2⟩:=argBest_gt (gL zs) (zs.size-1);have hM:Ob ns=gL zs (aZ (λi j=>decide (gL zs i>gL zs j)) (zs.size-1)):=by
  refine jee ?_ λc hc=>?_
  .rw[hns _ nofun];rw[kj,kh nofun];exact pq _
  .obtain⟨k,hk,rfl⟩:=Tu.mp hc;have:=h2 k nofun
   rw[hns k nofun,kj,kh hk]at this;exact this
 rw[hM]at q;exact⟨.int _,H,I.kept hk,⟨t,rfl⟩,q⟩
theorem j8f (hc:X.calm=a6):Ju X (.builtin "min") (λxs H Q=>∃(l:ae)(ns:List Int),xs=[.ref l]/\SqL X.K H l (ns.map V.int)/\ns≠[]/\Q (.int (Qn ns)) H):=by
 rintro pins s σ H xs us Q I r ⟨l,ns,e,sq,hne,q⟩;subst e;obtain⟨u,eu,ru⟩:=vals1 r;subst eu;cases ru;obtain⟨zs,pl',hsz,len,hns⟩:=jbz I sq hne;refine min_intList (I.ok.hd hc) pl' hsz λv h' tk hv hk=>?_;obtain⟨t,rfl⟩:=jU hv;obtain⟨h1,h2⟩:=argBest_lt (gL zs) (zs.size-1);have hM:Qn ns=gL zs (aZ (λi j=>decide (gL zs i<gL zs j)) (zs.size-1)):=by
  refine j3w ?_ λc hc=>?_
  .rw[hns _ nofun];rw[kj,kh nofun];exact pq _
  .obtain⟨k,hk,rfl⟩:=Tu.mp hc;have:=h2 k nofun
   rw[hns k nofun,kj,kh hk]at this;exact this
 rw[hM]at q;exact⟨.int _,H,I.kept hk,⟨t,rfl⟩,q⟩
theorem DE.max2 (ha:DT X ρ a (.int i)) (hb:DT X ρ b (.int j)) (hm:X.mg "max" = a9) (hc:X.calm=a6) (hg:Gl X "max") (hs:a8 [a,b] X.env=(a4,ay a X.env)::a8 [b] X.env) (hs2:a8 [b] X.env=(a4,ay b X.env)::a8 [] X.env)
  (hpl:(aL pos (a8 [b] X.env)).any (·.1)=a4):DE X ρ (.Call (.Name "max" p) [a,b] [] pos) (.int (if j>i then j else i)):=λσ H Q R q =>
 (J0 (j8i hc) hg hm boot_max (jg peS (jg peS jy hs2) hs) (by decide) (by decide) hs hpl).to (ha σ H _ R λv H1 g1 e1=>hb σ H1 _ (R.grow g1) λu H2 g2 e2=>⟨i,j,by rw[show v=.int i from e1,show u=.int j from e2],q _ H2 (g1.trans g2) rfl⟩)
theorem DE.maxL {ns:List Int} (ha:DT X ρ a (.lst (ns.map D.int))) (hn:ns≠[]) (hm:X.mg "max" = a9) (hc:X.calm=a6) (hg:Gl X "max") (hs:a8 [a] X.env=[(a4,ay a X.env)]):DE X ρ (.Call (.Name "max" p) [a] [] pos) (.int (Ob ns)):=λσ H Q R q =>(J0 (j8h hc) hg hm boot_max (jg peS jy hs) (by decide) (by decide) hs).to (ha σ H _ R λv H1 g1 ⟨l,xs,e,sq,en⟩=>⟨l,ns,by rw[e],by rw[vg en]at sq;exact sq,hn,q _ H1 g1 rfl⟩)
theorem DE.minL {ns:List Int} (ha:DT X ρ a (.lst (ns.map D.int))) (hn:ns≠[]) (hm:X.mg "min" = a9) (hc:X.calm=a6) (hg:Gl X "min") (hs:a8 [a] X.env=[(a4,ay a X.env)]):DE X ρ (.Call (.Name "min" p) [a] [] pos) (.int (Qn ns)):=λσ H Q R q =>(J0 (j8f hc) hg hm mD (jg peS jy hs) (by decide) (by decide) hs).to (ha σ H _ R λv H1 g1 ⟨l,xs,e,sq,en⟩=>⟨l,ns,by rw[e],by rw[vg en]at sq;exact sq,hn,q _ H1 g1 rfl⟩)
theorem jls {K:k9d} {fd:aN} {ps:List ah} (hn:0<ps.length) (h:∀(s:af)(us:List aa)(w:aa),K.In s.heap->us.length+1=ps.length->dy s fd ⟨us,[("prices",w)]⟩ (ps.zip (us++[w]))):KBinds K fd ps ["prices"] kG kGV :=
 ⟨λs us ws hK hl=>by
  match ws,hl with
  |[w],hl=>exact h s us w hK (by simpa [kG]using hl)
  |[],hl=>exact absurd hl (Xc hn)
  |_::_::_,hl=>exact absurd hl (Xc hn),λ{vs us zs ws} r1 r2=>by
  cases r2 with
  |nil=>exact .nil
  |cons a b =>
   cases b with
   |nil=>exact r1.append (.cons a .nil)
   |cons _ _=>exact .nil⟩
theorem DE.callD {S:List D->D->Prop} (c:Cal X x (spP X.K S)) (hx:x∈Ii) (ha:DA X ρ (e::es) ds) (hS:S (ds++[.non]) d) (hg:Gl X x) (hdb:(x==k9h)=a4)
  (he:a8 (e::es) X.env=(a4,ay e X.env)::a8 es X.env) (hpl:(aL pos (a8 es X.env)).any (·.1)=a4):DE X ρ (.Call (.Name x p) (e::es) [] pos) d:=λσ H Q R q=>by
 obtain⟨k,f,fd,ps,F,hr,hm,hk,hb,hd⟩:=c.ex;refine(Bo (dvs:=[.non]) F (hr.mono (Pr _)) hg hm hk (hd hx).1 (.cons rfl .nil) Cv paS hdb he hpl).to (ha σ H _ R λvs H1 g1 e1=>?_);show spP X.K S (vs++[.non]) H1 Q E0;exact⟨owns ρ,ds++[.non],d,R.tb.mono g1,(R.grow g1).owned,e1.append (show j4 X.K _ [D.non] [V.non] from⟨.non,[],rfl,rfl,rfl⟩),hS,λv H2 g2 z=>q v H2 (g1.trans g2) z⟩
theorem DE.callK {S:List D->D->Prop} {d':D} (c:Cal X x (spP X.K S)) (hx:x∈Ii) (ha:DA X ρ (e::es) ds) (hb':DE X ρ a d') (hS:S (ds++[d']) d) (hg:Gl X x) (hdb:(x==k9h)=a4)
  (hall:(aT pos (aD [⟨a3 "prices",a,pk⟩] X.env)).all (·.1.isSome)=a6) (hks:(aT pos (aD [⟨a3 "prices",a,pk⟩] X.env)).filterMap (·.1)=(["prices"]:List ah))
  (he:a8 (e::es) X.env=(a4,ay e X.env)::a8 es X.env) (hpl:((aL pos (a8 (e::es) X.env)).any (·.1) || (aT pos (aD [⟨a3 "prices",a,pk⟩] X.env)).any (·.1.isNone))=a4) :
  DE X ρ (.Call (.Name x p) (e::es) [⟨a3 "prices",a,pk⟩] pos) d:=λσ H Q R q=>by
 obtain⟨k,f,fd,ps,F,hr,hm,hk,hb,hd⟩:=c.ex;refine(j9p (E:=E0) F (hr.mono (Pr _)) hg hm hk (hd hx).2 Cv paS (Vn peS jh9) hall hks hdb he hpl).to (ha σ H _ R λvs H1 g1 e1=>hb' σ H1 _ (R.grow g1) λu H2 g2 e2=>?_);show spP X.K S (vs++[u]) H2 Q E0;exact⟨owns ρ,ds++[d'],d,R.tb.mono (g1.trans g2),(R.grow (g1.trans g2)).owned,(e1.mono (jh g2)).append (show j4 X.K _ [d'] [u] from⟨u,[],rfl,e2,rfl⟩),hS,λv H3 g3 z=>q v H3 ((g1.trans g2).trans g3) z⟩
theorem DG.three{i j k:Nat}{x y z:ah}{n:Nat}{q1:aM}{d d' d'':D}(hN:X.N.Nodup)(hi:X.N[i]?=a3 x)(hj:X.N[j]?=a3 y)(hk:X.N[k]?=a3 z)(hx:Loc X.env.scope x)(hy:Loc X.env.scope y)(hz:Loc X.env.scope z)
  (fx:X.fn x=a6\/X.env.scope.names.lookup x=a3 .local) (fy:X.fn y=a6\/X.env.scope.names.lookup y=a3 .local) (fz:X.fn z=a6\/X.env.scope.names.lookup z=a3 .local) (hc:X.calm=a6) :
  DG X ρ (.Tuple [.Name x p1,.Name y p2,.Name z p3] n q1) (.tup [d,d',d'']) (((ρ.set i (.val d)).set j (.val d')).set k (.val d'')):=by
 refine⟨λb hb=>(jf rfl).subset ((jf rfl).subset ((jf rfl).subset hb)),λσ H v Q R en q=>?_⟩;obtain⟨t,xs,ev,sq,u,r,e,eu,u',r',e',eu',u'',r'',e'',eu'',er⟩:=en;subst e e' e'' ev er;refine(j6w hc (Ug (V4 hN hi hx fx) (Ug (V4 hN hj hy fy) (Ug (V4 hN hk hz fz) j3p rfl) rfl) rfl) rfl rfl).to ⟨t,[u,u',u''],rfl,jt.seqT sq,rfl,u,[u',u''],rfl,u',[u''],rfl,u'',[],rfl,rfl,q _ ?_⟩;have R1:Rep X.K (ρ.set i (.val d)) (σ.set i (a3 u)) H:=R.set_val eu;have R2:Rep X.K ((ρ.set i (.val d)).set j (.val d')) ((σ.set i (a3 u)).set j (a3 u')) H:=R1.set_val (eu'.mono (v8 λb hb=>(jf rfl).subset hb));exact R2.set_val (eu''.mono (v8 λb hb=>(jf rfl).subset ((jf rfl).subset hb)))
end
theorem j4.last{K:k9d}{H:Hp}{d:D}{ds:List D}:∀{xs:List V},j4 K H (ds++[d]) xs->∃ys y,xs=ys++[y]/\j4 K H ds ys/\Enc K H d y:=by
 induction ds with
 |nil =>intro xs h;obtain⟨v,r,e,ev,er⟩:=h;exact⟨[],v,by rw[e,er];rfl,rfl,ev⟩
 |cons c ds ih =>intro xs h;obtain⟨v,r,e,ev,l⟩:=h;obtain⟨ys,y,e2,l2,en⟩:=ih l;exact⟨v::ys,y,by rw[e,e2];rfl,⟨v,ys,rfl,ev,l2⟩,en⟩
theorem ja1{α:Type}{l:List α}{a:α}(h:l.getLast?=a3 a):l=l.dropLast++[a]:=by
 have hn:l≠[]:=λe=>by rw[e]at h;cases h
 rw[List.getLast?_eq_some_getLast hn]at h;cases h;exact(List.dropLast_concat_getLast hn).symm
theorem j4.getE{K:k9d}{H:Hp}:∀{ds:List D}{xs:List V}{k:Nat}{d:D},j4 K H ds xs->ds[k]?=a3 d->∃y,xs[k]?=a3 y/\Enc K H d y/\j4 K H (ds.eraseIdx k) (xs.eraseIdx k)
 |[],_,_,_,_,h=>by simp at h
 |c::ds,xs,0,d,⟨v,r,e,ev,l⟩,h=>by rw[cu]at h;cases h;subst e;exact⟨v,rfl,ev,l⟩
 |c::ds,xs,k+1,d,⟨v,r,e,ev,l⟩,h=>by rw[tu]at h;subst e;obtain⟨y,h1,h2,h3⟩:=j4.getE l h;exact⟨y,by rw[tu];exact h1,h2,⟨v,r.eraseIdx k,rfl,ev,h3⟩⟩
section
variable{X:Cx}{ρ:Rho}{p1 p2 p3 p4 p5 p6 q1 pos:aM}
theorem DS.apop{i w k:Nat}{x u:ah}{l l2:ae}{ds es:List D}{z:Int}{d:D}{e:aj}{P:Po}(hk:ρ[i]?=a3 (.own l ds))(hk2:ρ[w]?=a3 (.own l2 es))(ne:i≠w)(he:DE X ρ e (.int z))(hz:ixN es.length z=a3 k)(hd':es[k]?=a3 d)(hl:ds.length<ak)(hes:es.length<=1000000)
  (h:P.nx ((ρ.set w (.own l2 (es.eraseIdx k))).set i (.own l (ds++[d]))))
  (hN:X.N[i]?=a3 x) (hv:Vis X.env.scope x) (hd:(x==k9h)=a4) (hcd:(x==k9i)=a4) (hN2:X.N[w]?=a3 u) (hv2:Vis X.env.scope u) (hd2:(u==k9h)=a4) (hcd2:(u==k9i)=a4)
  (hst:a8 [e] X.env=[(a4,ay e X.env)]) (hst1:a8 [.Call (.Attribute (.Name u p4) "pop" p5) [e] [] p6] X.env=[(a4,ay (.Call (.Attribute (.Name u p4) "pop" p5) [e] [] p6) X.env)])
  (hline:(p2.endLine==p3.line)=a6) (hline2:(p5.endLine==p6.line)=a6)
  (hbase:aI (.Name x p1) "append" X.env (ay (.Name x p1) X.env)=ay (.Name x p1) X.env) (hbase2:aI (.Name u p4) "pop" X.env (ay (.Name u p4) X.env)=ay (.Name u p4) X.env)
  (hfew:((aL p3 (a8 [.Call (.Attribute (.Name u p4) "pop" p5) [e] [] p6] X.env)).all (λx=>!x.1)&&(aT p3 (aD [] X.env)).all (λx=>x.1.isSome)
   && decide (([.Call (.Attribute (.Name u p4) "pop" p5) [e] [] p6]:List aj).length+([]:List aS).length+(if ([]:List aS).isEmpty then 0 else 1)<30))=a6)
  (hfew2:((aL p6 (a8 [e] X.env)).all (λx=>!x.1)&&(aT p6 (aD [] X.env)).all (λx=>x.1.isSome)
   && decide (([e]:List aj).length+([]:List aS).length+(if ([]:List aS).isEmpty then 0 else 1)<30))=a6)
  (hs:aK (.Call (.Attribute (.Name x p1) "append" p2) [.Call (.Attribute (.Name u p4) "pop" p5) [e] [] p6] [] p3) a9 pos.line X.env=pure a4) :
  DS X ρ (.Expr (.Call (.Attribute (.Name x p1) "append" p2) [.Call (.Attribute (.Name u p4) "pop" p5) [e] [] p6] [] p3) pos) P:=λσ H E R q=>by
 obtain⟨hσ,xs,m,en⟩:=R.own i l ds hk;obtain⟨hσ2,ys,m2,en2⟩:=R.own w l2 es hk2;have hp:=Rn (X:=X) (apos:=p5) (cpos:=p6) Td d7 gG j9t (vo (pos:=p4) hN2 hv2 hd2 hcd2) (jg (peS (e:=e)) jy hst) hbase2 hfew2 hline2 hst rfl;refine(Wy (Rn Td dQ fV Oa (vo hN hv hd hcd) (jg hp jy hst1) hbase hfew hline hst1 rfl) hs).to ?_;refine⟨_,hσ,.inl ⟨rfl,xs,.inl (.inl m)⟩,⟨_,hσ2,.inl ⟨rfl,ys,.inl (.inl m2)⟩,he σ H _ R λv H1 g1 e1=>?_⟩⟩;have e1:v=.int z:=e1;subst e1;obtain⟨s1,s2,s3,s4⟩:=Ks hz;obtain⟨y,gy,ey,el⟩:=(en2.mono (jh g1)).getE hd';have R1:=(R.grow g1).upd_own hk2 el;have hi:(ρ.set w (.own l2 (es.eraseIdx k)))[i]?=a3 (.own l ds):=by rw[cQ (cb ne)];exact hk
 obtain⟨_,xs',m',en'⟩:=R1.own i l ds hi;have p63:(2:Int)^63=9223372036854775808:=by decide
 refine⟨l2,ys,z,k,y,rfl,rfl,g1 _ _ m2,by rw[p63];omega,by rw[p63];omega,by rw[en2.length];exact s1,gy,?_⟩;refine⟨l,xs',y,rfl,rfl,m',by rw[en'.length];exact hl,?_⟩;exact q.nx _ σ _ h (R1.upd_own hi (en'.append (.one (by rw[Qk hk2,Vt (Jo hk2)];exact ey)))) (j0.trans (Ra (σ:=σ) hk2 g1) (Ra (σ:=σ) hi (j0.refl _)))
end
section
variable{X:Cx}{ρ:Rho}{p1 p2 p3 p4 p5 p6 q1 pos:aM}
theorem DS.pop3{i j k w n:Nat}{x y z u:ah}{l:ae}{ds:List D}{d1 d2 d3:D}{P:Po}(hk:ρ[w]?=a3 (.own l (ds++[.tup [d1,d2,d3]])))(h:P.nx ((((ρ.set w (.own l ds)).set i (.val d1)).set j (.val d2)).set k (.val d3)))(hc:X.calm=a6)(nd:X.N.Nodup)
  (hi:X.N[i]?=a3 x) (hj:X.N[j]?=a3 y) (hk':X.N[k]?=a3 z) (hN:X.N[w]?=a3 u) (hx:Loc X.env.scope x) (hy:Loc X.env.scope y) (hz:Loc X.env.scope z) (fx:X.fn x=a6\/X.env.scope.names.lookup x=a3 .local) (fy:X.fn y=a6\/X.env.scope.names.lookup y=a3 .local) (fz:X.fn z=a6\/X.env.scope.names.lookup z=a3 .local)
  (hv:Vis X.env.scope u) (hd:(u==k9h)=a4) (hcd:(u==k9i)=a4) (hline:(p5.endLine==p6.line)=a6) (hbase:aI (.Name u p4) "pop" X.env (ay (.Name u p4) X.env)=ay (.Name u p4) X.env)
  (hs:bQ [.Tuple [.Name x p1,.Name y p2,.Name z p3] n q1] (.Call (.Attribute (.Name u p4) "pop" p5) [] [] p6) pos.line X.env=pure a4) (hw:bR [.Tuple [.Name x p1,.Name y p2,.Name z p3] n q1] (.Call (.Attribute (.Name u p4) "pop" p5) [] [] p6) X.env=pure a9) :
  DS X ρ (.Assign [.Tuple [.Name x p1,.Name y p2,.Name z p3] n q1] (.Call (.Attribute (.Name u p4) "pop" p5) [] [] p6) pos) P:=λσ H E R q=>by
 obtain⟨hσ,xs,m,en⟩:=R.own w l _ hk;obtain⟨ys,v,ex,el,ev⟩:=en.last;subst ex;refine(j6p (jhf Td d7 gG jhw (vo hN hv hd hcd) hbase hline) pgS hs hw).to ?_;obtain⟨sub,hG⟩:=DG.three (ρ:=ρ.set w (.own l ds)) (p1:=p1) (p2:=p2) (p3:=p3) (n:=n) (q1:=q1) (d:=d1) (d':=d2) (d'':=d3) nd hi hj hk' hx hy hz fx fy fz hc;have R1:=R.upd_own hk el;refine⟨_,hσ,.inl ⟨rfl,_,.inl (.inl m)⟩,l,ys++[v],v,rfl,rfl,m,by simp,?_⟩;rw[iF];exact hG σ _ v _ R1 (by rw[Qk hk,Vt (Jo hk)];exact ev) λσ' R'=>q.nx _ σ' _ h R' (j0.trans (Ra (σ:=σ) hk (j0.refl H)) (Fr0.drop sub))
end
noncomputable def ch1(c:Nat):ah:=⟨#[c]⟩
noncomputable def chs(y:ah):List D:=y.cps.toList.map λc=>D.str (ch1 c)
noncomputable def ascii(y:ah):Bool:=y.cps.all (· < 128)
noncomputable def Its(y:ah):It:=⟨λi _=>i<y.cps.size,λi H x H'=>H'=H/\∃c,y.cps[i]?=a3 c/\x=.str (ch1 c),λi _=>y.cps.size<=i⟩
theorem j8v {P:av} {w:az} {K:k9d} {tg:aj} (it:ae) (y:ah) (t:hV):Turn P w K tg (Its y) [it] it (λi h=>h.IsStrIter it "str_ascii_iterator" y t i) where
 mem:=by simp
 obj:=λi h st b hb=>by
  have e:b=it:=by simpa using hb
  subst e;obtain⟨o,e,c,d⟩:=st;exact⟨o,e,λv z=>by rw[d]at z;cases z⟩
 keep:=λi h h' st k=>let ⟨o,e,r⟩:=st;⟨o,k it (by simp) o e,r⟩
 item:=by intro X hP hw hK hc i pins s σ H E I hf st hg;subst hP hw hK;obtain⟨f0,f1,f2,f3,f4,f5⟩:=hf it (by simp);have W:=Walks.strAscii (prog:=X.prog) (w:=X.w) (I.ok.hd hc) it y t;refine W.item i s _ _ hg st λv h' tk hv st' kk=>?_;obtain⟨c,u,hcu,rfl⟩:=hv;have I1:Inv X pins σ H { s with heap:=h',toks:=tk }:=I.turned (λb o hb e=>kk b o (by simpa using hb) e) f0 f1 f3 f4 f5;obtain⟨o,e,oc,d⟩:=id st';exact⟨_,rfl,j0g (s:={ s with heap:=h',toks:=tk }) e oc d (by decide) ⟨.str (ch1 c),H,I1,⟨u,rfl⟩,⟨rfl,c,hcu,rfl⟩,st',λb hb=>(hf b hb).1⟩⟩
 done:=by intro X hP hw hK hc i pins s σ H E I hf st hg;subst hP hw hK;obtain⟨f0,f1,f2,f3,f4,f5⟩:=hf it (by simp);exact wpAny_pyNext_ascii_end (I.ok.hd hc) st (by have:y.cps.size<=i:=hg;simp;omega) λh' eb=>⟨rfl,I.turned (t':=s.toks) (λb o hb e=>eb b o hb e) f0 f1 f3 f4 f5⟩
 self:=λ_ _ _ _ _ st h=>wpAny_pyIter_striter_ascii st h
section
variable{X:Cx}{ρ:Rho}{a b c e tg it:aj}{y z:ah}{i j k:Int}{p p2 pos:aM}
theorem ja5{K:k9d}{F:Hp}(y:ah):Uw K F (Its y) (chs y):=λi H A g hA=>by
 have hl:(chs y).length=y.cps.size:=by unfold chs;rw[km,c9]
 rw[hl];refine⟨λh=>h,λh=>h,λx H' ⟨e,c,hc,ex⟩=>?_⟩;subst e ex;refine⟨j0.refl _,λd hd=>?_⟩;unfold chs at hd;rw[xx,Sh,hc]at hd;cases hd;rfl
theorem DI.str(h:DT X ρ it (.str y))(ha:ascii y=a6):DI X ρ tg it (chs y):=λσ H R r q pins s I=>by
 refine thn (h σ H (λv H1=>v=.str y/\j0 H H1) r (λv H1 g e=>⟨e,g⟩) pins s I) λv s1 ⟨x,H1,I1,r1,ex,g1⟩=>?_;subst ex;obtain⟨t,rfl⟩:=(show ∃t,v=bG y t from r1)
 refine wpAny_pyIter_ascii ha ?_;refine⟨s1.heap.objs.size,[s1.heap.objs.size],_,_,H1,rfl,I1.kept (t':=s1.toks) λb o e=>xj _ e,j8v _ y t,⟨_,X5 _ rfl,rfl,rfl⟩,λb hb=>?_,q _ H1 g1 (ja5 y)⟩;have e:b=s1.heap.objs.size:=by simpa using hb
 subst e;exact I1.fpOk (xu _) (I1.hok.fresh (xu _))
noncomputable def inS(y z:ah):Bool:=!(fD z y 0 z.length 1).isEmpty
theorem Eg:OpR X (aO .Gt) (λx y H Q=>∃i j,x=.str i/\y=.str j/\Q (.bl (decide (j.cps.toList<i.cps.toList))) H):=by intro pins s σ H x y v u Q I rx ry h;obtain⟨i,j,rfl,rfl,q⟩:=h;obtain⟨t,rfl⟩:=rx;obtain⟨t',rfl⟩:=ry;exact P.gt_str (ju I q rfl)
theorem DE.ltS(ha:DT X ρ a (.str y))(hb:DT X ρ b (.str z)):DE X ρ (.Compare a [.Lt] [b] pos) (.bl (decide (y.cps.toList<z.cps.toList))):=λσ H Q R q =>(Jw Ed peS peS (zf _)).to (ha σ H _ R λv H1 g1 e1=>hb σ H1 _ (R.grow g1) λu H2 g2 e2=>⟨y,z,e1,e2,q _ H2 (g1.trans g2) rfl⟩)
theorem DB.ltS(ha:DT X ρ a (.str y))(hb:DT X ρ b (.str z)):DB X ρ (.Compare a [.Lt] [b] pos) (decide (y.cps.toList<z.cps.toList)):=λσ H Q R q =>(Jv Ed peS peS (zf _)).to (ha σ H _ R λv H1 g1 e1=>hb σ H1 _ (R.grow g1) λu H2 g2 e2=>⟨y,z,e1,e2,_,rfl,q H2 (g1.trans g2)⟩)
theorem DE.gtS(ha:DT X ρ a (.str y))(hb:DT X ρ b (.str z)):DE X ρ (.Compare a [.Gt] [b] pos) (.bl (decide (z.cps.toList<y.cps.toList))):=λσ H Q R q =>(Jw Eg peS peS (zf _)).to (ha σ H _ R λv H1 g1 e1=>hb σ H1 _ (R.grow g1) λu H2 g2 e2=>⟨y,z,e1,e2,q _ H2 (g1.trans g2) rfl⟩)
theorem DB.gtS(ha:DT X ρ a (.str y))(hb:DT X ρ b (.str z)):DB X ρ (.Compare a [.Gt] [b] pos) (decide (z.cps.toList<y.cps.toList)):=λσ H Q R q =>(Jv Eg peS peS (zf _)).to (ha σ H _ R λv H1 g1 e1=>hb σ H1 _ (R.grow g1) λu H2 g2 e2=>⟨y,z,e1,e2,_,rfl,q H2 (g1.trans g2)⟩)
theorem DE.inS(ha:DT X ρ a (.str y))(hb:DT X ρ b (.str z))(hm:aH .In b=a4):DE X ρ (.Compare a [.In] [b] pos) (.bl (inS y z)):=λσ H Q R q =>(Jw Ef peS peS hm).to (ha σ H _ R λv H1 g1 e1=>hb σ H1 _ (R.grow g1) λu H2 g2 e2=>⟨y,z,e1,e2,q _ H2 (g1.trans g2) rfl⟩)
theorem DB.inS(ha:DT X ρ a (.str y))(hb:DT X ρ b (.str z))(hm:aH .In b=a4):DB X ρ (.Compare a [.In] [b] pos) (inS y z):=λσ H Q R q =>(Jv Ef peS peS hm).to (ha σ H _ R λv H1 g1 e1=>hb σ H1 _ (R.grow g1) λu H2 g2 e2=>⟨y,z,e1,e2,_,rfl,q H2 (g1.trans g2)⟩)
theorem mulOk_of(h1:1<=k/\k<=1000)(h2:y.length<=1000):MulOk y k:=by
 refine⟨?_,λ_ _=>?_,λ_ _=>?_⟩
 .simp;omega
 .have:(1000:Int)<=(2^63-1)/k:=Int.le_ediv_of_mul_le nofun nofun
  omega
 .have hk:k.toNat<=1000:=by omega
  have:y.length*k.toNat<=1000000:=Nat.mul_le_mul h2 hk;unfold cK;rw[fE];simp;omega
theorem j53:OpR X (b8 .Mult) (λx y H Q=>∃i k,x=.str i/\y=.int k/\MulOk i k/\Q (.str (j2 i k)) H):=by intro pins s σ H x y v u Q I rx ry h;obtain⟨i,k,rfl,rfl,hm,q⟩:=h;obtain⟨t,rfl⟩:=rx;obtain⟨t',rfl⟩:=ry;exact SB.mul hm λt' tk=>⟨.str _,H,I.un (t':=tk) Un.refl I.hok,⟨_,rfl⟩,q⟩
theorem DE.mulS(ha:DT X ρ a (.str y))(hb:DT X ρ b (.int k))(h1:1<=k/\k<=1000)(h2:y.length<=1000):DE X ρ (.BinOp a .Mult b pos) (.str (j2 y k)):=λσ H Q R q =>(W5 j53 peS peS).to (ha σ H _ R λv H1 g1 e1=>hb σ H1 _ (R.grow g1) λu H2 g2 e2=>⟨y,k,e1,e2,mulOk_of h1 h2,q _ H2 (g1.trans g2) rfl⟩)
theorem DE.chn(ha:DT X ρ a (.int i))(hb:DT X ρ b (.int j))(hc:DT X ρ c (.int k))(hm:lz [.Lt,.Lt] [b,c]=a4):DE X ρ (.Compare a [.Lt,.Lt] [b,c] pos) (.bl (decide (i<j)&&decide (j<k))):=λσ H Q R q =>
 (j9o j0d j0d peS peS peS hm).to (ha σ H _ R λv H1 g1 e1=>hb σ H1 _ (R.grow g1) λu H2 g2 e2=>⟨i,j,e1,e2,_,rfl,by
  by_cases h:i<j
  .rw[decide_eq_true h,if_pos rfl]
   exact hc σ H2 _ (R.grow (g1.trans g2)) λw H3 g3 e3=>⟨j,k,e2,e3,q _ H3 ((g1.trans g2).trans g3) (by rw[decide_eq_true h,dF];rfl)⟩
  .rw[decide_eq_false h,if_neg xg]
   exact q _ H2 (g1.trans g2) (by rw[decide_eq_false h,gn];rfl)⟩)
end
end L2
end
section
namespace L2
noncomputable def Ze(t:Int):List Int:=if t=2 then[0,1] else[t]
noncomputable def step(acc:List (List Int))(f:List Int):List (List Int):=acc.flatMap λa=>f.map λx=>a++[x]
noncomputable def qw(fs:List (List Int)):List (List Int):=fs.foldl step [[]]
noncomputable def Jc:List (List Int)->List (List Int)
 |[]=>[[]]
 |f::fs=>f.flatMap λx=>(Jc fs).map (x :: ·)
theorem Lh:∀(fs:List (List Int)) (acc:List (List Int)),fs.foldl step acc=acc.flatMap λa=>(Jc fs).map (a ++ ·)
 |[],acc=>by simp[Jc]
 |f::fs,acc=>by
  rw[Tt,Lh fs,step,List.flatMap_assoc];congr 1
  funext a
  rw[Jc,List.map_flatMap,List.flatMap_map];congr 1
  funext x
  rw[Xj];congr 1
  funext r
  simp
theorem Z7(fs:List (List Int)):qw fs=Jc fs:=by rw[qw,Lh];simp
noncomputable def Vz:Nat->List (List Int)
 |0=>[[]]
 |m+1=>(Vz m).map (0 :: ·)++(Vz m).map (1 :: ·)
theorem j19:∀m,(Vz m).length=2^m
 |0=>rfl
 |m+1=>by rw[Vz,Xa,km,km,j19 m,T4];omega
theorem Dl{b:Int}(hb:0<b)(n c:Int):∀{i m:Nat},i<=m->j5 b i (n+b^m*c)=j5 b i n
 |0,m,_=>rfl
 |i+1,m,h=>by
  rw[j5,j5,Dl hb n c nofun];congr 1;obtain⟨k,rfl⟩:∃k,m=i+(k+1):=⟨m-i-1,by omega⟩
  have hp:b^i≠0:=ir (cA hb);rw[Int.pow_add,kR,eE _ _ hp,iq,d6 (b^k) b,kR,Int.add_mul_emod_self_left]
theorem j1a:∀m:Nat,(aq (2^m)).map (λn=>j5 2 m ((n:Nat):Int))=Vz m
 |0=>rfl
 |m+1=>by
  have e:2^(m+1)=2^m+2^m:=by rw[T4];omega
  rw[e,List.range_add,Xe,Vz,<-j1a m,Xj,Xj,Xj];have pc:((2^m:Nat):Int)=(2:Int)^m:=by simp
  congr 1
  .apply S6;intro n hn;have hn':n<2^m:=Xb.mp hn;show j5 2 (m+1) (n:Int)=0::j5 2 m (n:Int);rw[j5];congr 1;have h0:(n:Int)/2^m=0:=S9 nofun (by rw[<-pc];omega)
   rw[h0];rfl
  .apply S6;intro n hn;have hn':n<2^m:=Xb.mp hn;show j5 2 (m+1) ((2^m+n:Nat):Int)=1::j5 2 m (n:Int);have e1:((2^m+n:Nat):Int)=(n:Int)+2^m*1:=by rw[ko,pc,ma,iu]
   rw[e1,j5,Dl (by decide) _ _ (xu m)];congr 1;have hp:(2:Int)^m≠0:=ir (cA (by decide));have h0:(n:Int)/2^m=0:=S9 nofun (by rw[<-pc];omega)
   rw[eE _ _ hp,h0];rfl
noncomputable def fits:List Int->List Int->Bool
 |t::ts,x::xs=>(t==2 || t==x)&&fits ts xs
 |_,_=>a6
theorem Oh:∀{p:List Int},(∀t∈p,0<=t/\t<3)->(Vz p.length).filter (fits p)=Jc (p.map Ze)
 |[],_=>rfl
 |t::ts,h=>by
  have ih:=Oh (p:=ts) λu hu=>h u (xf _ hu);rw[X7,Vz,ck,xm,Jc,<-ih];have key:∀x:Int,((Vz ts.length).map (x :: ·)).filter (fits (t::ts))=if (t==2 || t==x)=a6 then((Vz ts.length).filter (fits ts)).map (x :: ·) else[]:=λx=>by
   rw[k8];by_cases c:(t==2 || t==x)=a6
   .rw[if_pos c];congr 1;apply jH;intro r _;show((t==2 || t==x)&&fits ts r)=fits ts r;rw[c,dF]
   .rw[if_neg c];have:(fits (t::ts) ∘ λr=>x::r)=λ_=>a4:=by
     funext r
     show((t==2 || t==x)&&fits ts r)=a4;rw[Bool.eq_false_iff.mpr c,gn]
    rw[this];simp
  rw[key 0,key 1];have ht:=h t (xq ..);have:t=0\/t=1\/t=2:=by omega
  rcases this with e|e|e<;>subst e<;>simp[Ze]
theorem Ud:∀p:List Int,(Jc (p.map Ze)).length=2^(p.countP λt=>t==2)
 |[]=>rfl
 |t::ts=>by
  have ih:=Ud ts;rw[xm,Jc,Pu];by_cases c:t=2
  .subst c;simp[Ze,ih,T4];omega
  .have e1:Ze t=[t]:=if_neg c;have e2:(t==2)=a4:=by simpa using c
   rw[e1,e2];simp[ih]
end L2
end
section
namespace L2
open PySem
inductive Sv where
 |un
 |val (d:D)
 |own (l:List D)
 |exc (x:ah)
noncomputable abbrev En:=List Sv
set_option genInjectivity true in
inductive Rk where
 |e (d:D)
 |o (l:List D)
 |w (l:List D)
 |t (d:D)
noncomputable def Rk.d:Rk->D
 |.e d=>d
 |.o l=>.lst l
 |.w l=>.lst l
 |.t d=>d
noncomputable def Rk.st:Rk->Option D
 |.e d=>a3 d
 |.o l=>a3 (.lst l)
 |.w l=>a9
 |.t d=>if Z2 d=a6 then a3 d else a9
noncomputable def Rk.sq:Rk->Option (Bool×List D)
 |.e (.lst l)=>a3 (a6,l)
 |.e (.tup l)=>a3 (a4,l)
 |.o l=>a3 (a6,l)
 |.w l=>a3 (a6,l)
 |_=>a9
noncomputable def Rk.lw:Rk->Option (List D)
 |.o l=>a3 l
 |.w l=>a3 l
 |_=>a9
inductive Rc where
 |val (d:D)
 |fresh (l:List D)
 |err (x:ah)
 |lval (d:D)
 |no
noncomputable def Rc.rk:Rc->Option Rk
 |.val d=>a3 (.e d)
 |.fresh l=>a3 (.o l)
 |_=>a9
inductive Bop where
 |add|sub|mul|fdiv|mod|pow|shl|shr|band|bxor
inductive Cop where
 |lt|le|gt|ge|eq|ne|isin|notin
inductive Bf where
 |len|min|max|all|tuple|list|sum|int|any|sorted
inductive Mf where
 |count
inductive Ex where
 |lit (d:D)
 |var (i:Nat)
 |glob (x:ah)
 |bin (op:Bop) (a b:Ex)
 |neg (a:Ex)
 |cmp (op:Cop) (a b:Ex)
 |isN (a:Ex)
 |and (a b:Ex)
 |or (a b:Ex)
 |not (a:Ex)
 |ite (c a b:Ex)
 |nil
 |cons (a b:Ex)
 |tup (es:Ex)
 |lst (es:Ex)
 |ix (a b:Ex)
 |sl (a lo hi:Ex)
 |call (f:ah) (es:Ex)
 |blt (f:Bf) (es:Ex)
 |meth (m:Mf) (a es:Ex)
 |isi (a:Ex) (ts:List String)
 |comp (is:List Nat) (elt it cond:Ex)
 |seq (a:Ex)
 |range (es:Ex)
 |join (sep:ah) (a:Ex)
 |enum (a:Ex)
 |lset (a:Ex)
 |lrng (a:Ex)
 |dzip (a b:Ex)
 |callD (f:ah) (es:Ex)
 |chn (a b c:Ex)
 |callK (f:ah) (es a:Ex)
 |dix (a b:Ex)
 |dnil
 |rpr (a:Ex)
 |upr (a:Ex)
 |din (a b:Ex)
 |items (a:Ex)
 |callV (i:Nat) (es:Ex)
 |dget (a b:Ex)
 |dvals (a:Ex)
 |minT (a:Ex)
set_option genInjectivity true in
inductive W where
 |v (r:Rk)
 |a (rs:List Rk)
 |i (ds:List D)
noncomputable def jo(n:Nat):Bool:=decide (n<=ak)
noncomputable def binI:Bop->Int->Int->Option Int
 |.add,i,j=>a3 (i+j)
 |.sub,i,j=>a3 (i-j)
 |.mul,i,j=>if (-(2^64)<i/\i<2^64)\/(-(2^64)<j/\j<2^64)then a3 (i*j)else a9
 |.fdiv,i,j=>if 0<j/\j<18446744073709551616 then a3 (i/j)else a9
 |.mod,i,j=>if 0<j then a3 (i%j)else a9
 |.pow,i,j=>if 0<=j/\j<=1000000/\i.natAbs<2^64 then a3 (i^j.toNat)else a9
 |.shl,i,j=>if 0<=j/\j<=1000000/\i.natAbs<2^64 then a3 (i*2^j.toNat)else a9
 |.shr,i,j=>if 0<=j then a3 (i/2^j.toNat)else a9
 |.band,i,j=>a3 (Builtin.bitAnd i j)
 |.bxor,i,j=>a3 (Builtin.bitXor i j)
noncomputable def Ut(op:Bop)(a b:Rk):Option Rk :=
 match a.d,b.d with
 |.int i,.int j=>(binI op i j).map λk=>.e (.int k)
 |.str y,.str z=>match op with
  |.add=>if jo (y.length+z.length)=a6 then a3 (.e (.str (y++z)))else a9
  |_=>a9
 |.str y,.int k=>match op with
  |.mul=>if (1<=k/\k<=1000)/\y.length<=1000 then a3 (.e (.str (j2 y k)))else a9
  |_=>a9
 |_,_=>match op,a.sq,b.sq,b.d with
  |.add,a3 (a6,l),a3 (a6,m),_=>if jo (l.length+m.length)=a6 then a3 (.o (l++m))else a9
  |.add,a3 (a4,l),a3 (a4,m),_=>if jo (l.length+m.length)=a6 then a3 (.e (.tup (l++m)))else a9
  |.mul,a3 (a4,l),_,.int k=>if 1<=k/\k<2^63/\l.isEmpty=a4/\jo (l.length*k.toNat)=a6 then a3 (.e (.tup (a5 k.toNat l).flatten))else a9
  |.mul,_,_,.int k=>match a.lw with
   |some l=>if -(2^63)<=k/\k<2^63/\jo (l.length*k.toNat)=a6 then a3 (.o (a5 k.toNat l).flatten)else a9
   |none=>a9
  |_,_,_,_=>a9
noncomputable def cmpI:Cop->Int->Int->Option Bool
 |.lt,i,j=>a3 (decide (i<j))
 |.le,i,j=>a3 (decide (i<=j))
 |.gt,i,j=>a3 (decide (j<i))
 |.ge,i,j=>a3 (decide (j<=i))
 |.eq,i,j=>a3 (decide (i=j))
 |.ne,i,j=>a3 (!decide (i=j))
 |_,_,_=>a9
noncomputable def D.sqv:D->Option (Bool×List D)
 |.lst l=>a3 (a6,l)
 |.tup l=>a3 (a4,l)
 |_=>a9
noncomputable def V2(op:Cop)(a b:D):Option Bool :=
 match op,a,b with
 |op,.int i,.int j=>cmpI op i j
 |.eq,a,b=>if a.dep<=90/\b.dep<=90 then a3 (deq a b)else a9
 |.ne,.bl a,.bl b=>a3 (a != b)
 |.ne,.str a,.str b=>a3 (!decide (a=b))
 |.ne,.non,.non=>a3 a4
 |.ne,.lst l,.lst m=>if D.depL l<=90/\D.depL m<=90 then a3 (!vp l m)else a9
 |.ne,.tup l,.tup m=>if D.depL l<=90/\D.depL m<=90 then a3 (!vp l m)else a9
 |.isin,.str a,.str b=>a3 (inS a b)
 |.lt,.str a,.str b=>a3 (decide (a.cps.toList<b.cps.toList))
 |.gt,.str a,.str b=>a3 (decide (b.cps.toList<a.cps.toList))
 |.isin,a,b=>match b.sqv with
  |some (_,l)=>if D.depL l<=90/\a.dep<=90 then a3 (l.any λe=>deq e a)else a9
  |none=>a9
 |.notin,a,b=>match b.sqv with
  |some (_,l)=>if D.depL l<=90/\a.dep<=90 then a3 (!l.any λe=>deq e a)else a9
  |none=>a9
 |_,_,_=>a9
noncomputable def boolsOf:List D->Option (List Bool)
 |[]=>a3 []
 |.bl b::r=>(boolsOf r).map (b :: ·)
 |_::_=>a9
noncomputable def intsOf:List D->Option (List Int)
 |[]=>a3 []
 |.int b::r=>(intsOf r).map (b :: ·)
 |_::_=>a9
noncomputable def strsOf:List D->Option (List ah)
 |[]=>a3 []
 |.str b::r=>(strsOf r).map (b :: ·)
 |_::_=>a9
noncomputable def Zi:Bf->List Rk->Option Rk
 |.len,[a]=>match a.d with
  |.lst l=>a3 (.e (.int l.length))
  |.tup l=>a3 (.e (.int l.length))
  |.str y=>if jo y.length=a6 then a3 (.e (.int y.length))else a9
  |_=>a9
 |.min,[a,b]=>match a.d,b.d with
  |.int i,.int j=>a3 (.e (.int (if j<i then j else i)))
  |_,_=>a9
 |.max,[a,b]=>match a.d,b.d with
  |.int i,.int j=>a3 (.e (.int (if j>i then j else i)))
  |_,_=>a9
 |.max,[a]=>match a.d with
  |.lst l=>match intsOf l with
   |some ns=>if ns.isEmpty=a4 then a3 (.e (.int (Ob ns)))else a9
   |none=>a9
  |_=>a9
 |.min,[a]=>match a.d with
  |.lst l=>match intsOf l with
   |some ns=>if ns.isEmpty=a4 then a3 (.e (.int (Qn ns)))else a9
   |none=>a9
  |_=>a9
 |.all,[a]=>match a.d with
  |.lst l=>(boolsOf l).map λbs=>.e (.bl (bs.all id))
  |_=>a9
 |.any,[a]=>match a.d with
  |.lst l=>(boolsOf l).map λbs=>.e (.bl (bs.any id))
  |_=>a9
 |.tuple,[a]=>match a.sq with
  |some (_,l)=>a3 (.e (.tup l))
  |none=>a9
 |.list,[a]=>match a.sq with
  |some (_,l)=>a3 (.o l)
  |none=>a9
 |.sum,[a]=>match a.d with
  |.lst l=>(intsOf l).map λns=>.e (.int ns.sum)
  |.tup l=>(intsOf l).map λns=>.e (.int ns.sum)
  |_=>a9
 |.int,[a]=>match a.d with
  |.bl k=>a3 (.e (.int (if k then 1 else 0)))
  |_=>a9
 |_,_=>a9
noncomputable def j59:Mf->Rk->List Rk->Option Rk
 |.count,a,[b]=>match a.d with
  |.tup l=>if D.depL l<=90/\b.d.dep<=90 then a3 (.e (.int (l.countP λe=>deq e b.d)))else a9
  |.lst l=>if D.depL l<=90/\b.d.dep<=90 then a3 (.e (.int (l.countP λe=>deq e b.d)))else a9
  |_=>a9
 |_,_,_=>a9
noncomputable def qy(t c:String):Option Bool :=
 if t = "function" then a9 else
 if c = "int" then a3 (t == "int" || t == "bool") else
 if c = "bool" then a3 (t == "bool") else
 if c = "str" then a3 (t == "str") else
 if c = "list" then a3 (t == "list") else
 if c = "tuple" then a3 (t == "tuple")else a9
noncomputable def qe(d:D):List String->Option Bool
 |[]=>a3 a4
 |c::cs=>match qy d.ty c,qe d cs with
  |some a,a3 b=>a3 (a || b)
  |_,_=>a9
noncomputable def za:List Nat->D->En->Option En
 |[i],d,ρ=>a3 (ρ.set i (.val d))
 |[i,j],d,ρ=>match d with
  |.tup [a,b]=>a3 ((ρ.set i (.val a)).set j (.val b))
  |_=>a9
 |[i,j,k],d,ρ=>match d with
  |.tup [a,.tup [b,c]]=>a3 (((ρ.set i (.val a)).set j (.val b)).set k (.val c))
  |_=>a9
 |[i,j,k,_],d,ρ=>match d with
  |.tup [a,b,c]=>a3 (((ρ.set i (.val a)).set j (.val b)).set k (.val c))
  |_=>a9
 |_,_,_=>a9
noncomputable def j0h(is:List Nat)(ρ:En):Bool:=is.all λi=>match ρ[i]? with
 |some .un=>a6
 |_=>a4
noncomputable def J4(f:D->Option (Option D)):List D->Option (List D)
 |[]=>a3 []
 |d::ds=>match f d,J4 f ds with
  |some (a3 x),a3 xs=>a3 (x::xs)
  |some a9,a3 xs=>a3 xs
  |_,_=>a9
noncomputable def zq:List Rk->Option (List D)
 |[]=>a3 []
 |r::rs=>match r.st,zq rs with
  |some d,a3 ds=>a3 (d::ds)
  |_,_=>a9
noncomputable def W.one:W->Option Rk
 |.v r=>a3 r
 |_=>a9
noncomputable def W.args:W->Option (List Rk)
 |.a rs=>a3 rs
 |_=>a9
noncomputable def W.it:W->Option (List D)
 |.i ds=>a3 ds
 |_=>a9
noncomputable def Qz:Option W->Option (Option Int)
 |some (.a [])=>a3 a9
 |some (.a [r])=>match r.d with
  |.int i=>a3 (a3 i)
  |_=>a9
 |_=>a9
noncomputable def truth:Option W->Option Bool
 |some (.v r)=>match r.d with
  |.bl k=>a3 k
  |_=>a9
 |_=>a9
noncomputable def jap:Ex->Option Nat
 |.seq (.var i)=>a3 i
 |.enum (.var i)=>a3 i
 |_=>a9
noncomputable def frz(t:Ex)(ρ:En):En:=match jap t with
 |some i=>match ρ[i]? with
  |some (.own l)=>ρ.set i (.val (.lst l))
  |_=>ρ
 |none=>ρ
noncomputable def Jj(t:Ex)(ρ:En):Bool:=match jap t with
 |some i=>match ρ[i]? with
  |some (.own _)=>a6
  |_=>a4
 |none=>a4
noncomputable def jc6:D->Option ah
 |.int i=>if -18446744073709551616<i/\i<18446744073709551616 then a3 (cY (toString i))else a9
 |.str y=>if y.length<=2000 then a3 y else a9
 |_=>a9
noncomputable def j3l:List Rk->Option (List ah)
 |[]=>a3 []
 |r::rs=>match jc6 r.d,j3l rs with
  |some y,a3 ys=>a3 (y::ys)
  |_,_=>a9
noncomputable def bang(x:ah):ah:=("!":ah)++x
noncomputable def qm(f:ah):ah:=("??":ah)++f
noncomputable def tupI:D->Option (List Int)
 |.tup l=>intsOf l
 |_=>a9
noncomputable def j58(kf:D->Option Int):D->Int->List D->Option D
 |b,_,[]=>a3 b
 |b,kb,d::ds=>match kf d with
  |some k=>if k<kb then j58 kf d k ds else j58 kf b kb ds
  |none=>a9
noncomputable def Be:List D->Option (List (List Int))
 |[]=>a3 []
 |d::ds=>match tupI d,Be ds with
  |some k,a3 ks=>a3 (k::ks)
  |_,_=>a9
noncomputable def Rc.lv:Rc->Option W
 |.lval d=>a3 (.v (.e d))
 |_=>a9
noncomputable def jmy(w:Option W):Option W:=match w with
 |some (.v x)=>match x.d with
  |.str y=>if y.length<=1000 then a3 (.v (.e (.str (PySem.Txt.upper y))))else a9
  |_=>a9
 |_=>a9
noncomputable def K1(s:Option Sv):Option W:=match s with
 |some (.val d)=>a3 (.v (.e d))
 |some (.own l)=>a3 (.v (.w l))
 |_=>a9
noncomputable def blW(i:Option Bool):Option W:=i.map λk=>.v (.e (.bl k))
noncomputable def rkW(r:Option Rk):Option W:=r.map .v
noncomputable def Qo(op:Bop)(a b:Option W):Option W:=match a,b with
 |some (.v x),a3 (.v y)=>rkW (Ut op x y)
 |_,_=>a9
noncomputable def j1o(a:Option W):Option W:=match a with
 |some (.v x)=>match x.d with
  |.int i=>a3 (.v (.e (.int (-i))))
  |_=>a9
 |_=>a9
noncomputable def Ij(op:Cop)(a b:Option W):Option W:=match a,b with
 |some (.v x),a3 (.v y)=>blW (V2 op x.d y.d)
 |_,_=>a9
noncomputable def consW(a b:Option W):Option W:=match a,b with
 |some (.v x),a3 (.a xs)=>a3 (.a (x::xs))
 |_,_=>a9
noncomputable def Yj(a:Option W):Option W:=match a with
 |some (.a rs)=>match zq rs with
  |some ds=>if jo ds.length=a6 then a3 (.v (.e (.tup ds)))else a9
  |none=>a9
 |_=>a9
noncomputable def Zd(a:Option W):Option W:=match a with
 |some (.a rs)=>match zq rs with
  |some ds=>if jo ds.length=a6 then a3 (.v (.o ds))else a9
  |none=>a9
 |_=>a9
noncomputable def ixW(a b:Option W):Option W:=match a,b with
 |some (.v x),a3 (.v y)=>match x.sq,y.d with
  |some (_,l),.int i=>(atI l i).map λd=>.v (.e d)
  |none,.int i=>match x.d with
   |.str z=>if jo z.length=a6 then(atI z.cps.toList i).map λc=>.v (.e (.str ⟨#[c]⟩))else a9
   |_=>a9
  |_,_=>a9
 |_,_=>a9
noncomputable def Bu(sep:ah)(a:Option W):Option W:=match a with
 |some (.v x)=>match x.d with
  |.lst l=>match strsOf l with
   |some ts=>if fc sep ts=a6 then a3 (.v (.e (.str (eJ sep ts))))else a9
   |none=>a9
  |_=>a9
 |_=>a9
noncomputable def Cw(a:Option W):Option W:=match a with
 |some (.v y)=>match y.d with
  |.int n=>if 0<=n/\n<=1000000 then a3 (.v (.o ((aq n.toNat).map λ(i:Nat)=>D.int (i:Int))))else a9
  |_=>a9
 |_=>a9
noncomputable def Br(a:Option W):Option W:=match a with
 |some (.v x)=>match x.d with
  |.lst l=>match strsOf l with
   |some ts=>if ts.length<4000 then a3 (.v (.e (.int (dd ts).length)))else a9
   |none=>a9
  |_=>a9
 |_=>a9
noncomputable def M8(a:Option W):Option W:=match a with
 |some (.v x)=>match x.st with
  |some (.lst l)=>a3 (.i (Jl l))
  |some (.tup l)=>a3 (.i (Jl l))
  |_=>a9
 |_=>a9
noncomputable def Z8(Γ:ah->List D->Rc)(f:ah)(a:Option W):Option W:=match a with
 |some (.a rs)=>match zq rs with
  |some ds=>rkW (Γ f ds).rk
  |none=>match Γ f (rs.map Rk.d) with
   |.val d=>a3 (.v (.t d))
   |_=>a9
 |_=>a9
noncomputable def zr(f:Bf)(a:Option W):Option W:=match a with
 |some (.a rs)=>rkW (Zi f rs)
 |_=>a9
noncomputable def Bq(m:Mf)(a b:Option W):Option W:=match a,b with
 |some (.v x),a3 (.a rs)=>rkW (j59 m x rs)
 |_,_=>a9
noncomputable def Kw(a:Option W)(ts:List String):Option W:=match a with
 |some (.v x)=>blW (qe x.d ts)
 |_=>a9
noncomputable def Fo(a:Option W):Option W:=match a with
 |some (.v (.e (.lst l)))=>a3 (.i l)
 |some (.v (.e (.tup l)))=>a3 (.i l)
 |some (.v (.o l))=>a3 (.i l)
 |some (.v (.e (.str y)))=>if ascii y=a6 then a3 (.i (chs y))else a9
 |_=>a9
noncomputable def O5(a:Option W):Option W:=match a with
 |some (.a [x])=>match x.d with
  |.int n=>if -(2^62)<=n/\n<2^62 then a3 (.i (upto 0 n.toNat))else a9
  |_=>a9
 |some (.a [x,y])=>match x.d,y.d with
  |.int m,.int n=>if -(2^62)<=m/\m<2^62/\-(2^62)<=n/\n<2^62 then a3 (.i (upto m (n-m).toNat))else a9
  |_,_=>a9
 |_=>a9
noncomputable def jny(a b:Option W):Option W:=match a,b with
 |some (.v x),a3 (.v y)=>match x.d,y.d with
  |.tup l,.dct ks _=>(intsOf l).map λk=>.v (.e (.bl (ks.contains k)))
  |_,_=>a9
 |_,_=>a9
noncomputable def jij(a:Option W):Option W:=match a with
 |some (.v (.e (.dct ks ds)))=>a3 (.i (jik ks ds))
 |_=>a9
noncomputable def jm8(a b:Option W):Option W:=match a,b with
 |some (.v x),a3 (.v y)=>match x.st.bind D.sqv,y.st.bind D.sqv with
  |some (_,l),a3 (_,m)=>match strsOf l,intsOf m with
   |some ks,a3 ns=>if ks.Nodup/\ks.length=ns.length/\jo ks.length=a6 then a3 (.v (.e (.sct (ks.zip ns))))else a9
   |_,_=>a9
  |_,_=>a9
 |_,_=>a9
noncomputable def j2f(a b c:Option W):Option W:=match a,b,c with
 |some (.v x),a3 (.v y),a3 (.v z)=>match x.d,y.d,z.d with
  |.int i,.int j,.int k=>a3 (.v (.e (.bl (decide (i<j)&&decide (j<k)))))
  |_,_,_=>a9
 |_,_,_=>a9
noncomputable def Rb(Γ:ah->List D->Rc)(s:Option Sv)(a:Option W):Option W:=match s,a with
 |some (.val (.fn x cs)),a3 (.a rs)=>match zq rs with
  |some ds=>if Jg ds=a6 then(Γ (jx x) (cs++ds)).lv else a9
  |none=>a9
 |_,_=>a9
noncomputable def Bw(a b:Option W):Option W:=match a,b with
 |some (.v (.e (.dct ks ds))),a3 (.v y)=>match tupI y.d with
  |some k=>(zg ks ds k).map λd=>.v (.e d)
  |none=>a9
 |_,_=>a9
noncomputable def Oq(a:Option W):Option W:=match a with
 |some (.v (.e (.dct _ ds)))=>a3 (.v (.e (.tup ds)))
 |_=>a9
noncomputable def Bp(a:Option W):Option W:=match a with
 |some (.v x)=>match x.d with
  |.lst l=>match Be l with
   |some ks=>(ks[aZ (Jq ks) (ks.length-1)]?).map λk=>.v (.t (.tup (k.map D.int)))
   |none=>a9
  |_=>a9
 |_=>a9
noncomputable def jnx(a b:Option W):Option W:=match a,b with
 |some (.v x),a3 (.v y)=>match x.d,y.d with
  |.sct kvs,.str k=>(jnw kvs k).map λn=>.v (.e (.int n))
  |_,_=>a9
 |_,_=>a9
noncomputable def ev(Γ:ah->List D->Rc)(G:ah->Option D):Ex->En->Option W
 |.lit d,_=>a3 (.v (.e d))
 |.var i,ρ=>K1 ρ[i]?
 |.glob x,_=>(G x).map λd=>.v (.e d)
 |.bin op a b,ρ=>Qo op (ev Γ G a ρ) (ev Γ G b ρ)
 |.neg a,ρ=>j1o (ev Γ G a ρ)
 |.cmp op a b,ρ=>Ij op (ev Γ G a ρ) (ev Γ G b ρ)
 |.isN a,ρ=>match ev Γ G a ρ with
  |some (.v x)=>a3 (.v (.e (.bl x.d.isNon)))
  |_=>a9
 |.and a b,ρ=>match truth (ev Γ G a ρ) with
  |some a4=>a3 (.v (.e (.bl a4)))
  |some a6=>(truth (ev Γ G b ρ)).map λk=>.v (.e (.bl k))
  |none=>a9
 |.or a b,ρ=>match truth (ev Γ G a ρ) with
  |some a6=>a3 (.v (.e (.bl a6)))
  |some a4=>(truth (ev Γ G b ρ)).map λk=>.v (.e (.bl k))
  |none=>a9
 |.not a,ρ=>(truth (ev Γ G a ρ)).map λk=>.v (.e (.bl (!k)))
 |.ite c a b,ρ=>match truth (ev Γ G c ρ) with
  |some a6=>match ev Γ G a ρ with
   |some (.v x)=>x.st.map λd=>.v (.e d)
   |_=>a9
  |some a4=>match ev Γ G b ρ with
   |some (.v x)=>x.st.map λd=>.v (.e d)
   |_=>a9
  |none=>a9
 |.nil,_=>a3 (.a [])
 |.cons a b,ρ=>consW (ev Γ G a ρ) (ev Γ G b ρ)
 |.tup es,ρ=>Yj (ev Γ G es ρ)
 |.lst es,ρ=>Zd (ev Γ G es ρ)
 |.ix a b,ρ=>ixW (ev Γ G a ρ) (ev Γ G b ρ)
 |.sl a lo hi,ρ=>match ev Γ G a ρ,Qz (ev Γ G lo ρ),Qz (ev Γ G hi ρ) with
  |some (.v x),a3 l,a3 h=>match x.sq with
   |some (a6,ds)=>a3 (.v (.o (cutD ds l h)))
   |some (a4,ds)=>if HT.sIx ds.length 0 l=0/\HT.sIx ds.length ds.length h=ds.length then a9 else a3 (.v (.e (.tup (cutD ds l h))))
   |none=>match x.d with
    |.str z=>if jo z.length=a6 then a3 (.v (.e (.str (bM z l h))))else a9
    |_=>a9
  |_,_,_=>a9
 |.call f es,ρ=>Z8 Γ f (ev Γ G es ρ)
 |.blt f es,ρ=>zr f (ev Γ G es ρ)
 |.meth m a es,ρ=>Bq m (ev Γ G a ρ) (ev Γ G es ρ)
 |.isi a ts,ρ=>Kw (ev Γ G a ρ) ts
 |.comp is elt it cond,ρ=>match ev Γ G it (frz it ρ) with
  |some (.i ds)=>if j0h is (frz it ρ)=a6/\jo ds.length=a6 then
    (J4 (λd=>match za is d (frz it ρ) with
     |none=>a9
     |some ρ2=>match ev Γ G cond ρ2 with
      |some (.a [])=>match ev Γ G elt ρ2 with
       |some (.v x)=>x.st.map a3
       |_=>a9
      |some (.a [y])=>match y.d with
       |.bl a6=>match ev Γ G elt ρ2 with
        |some (.v x)=>x.st.map a3
        |_=>a9
       |.bl a4=>a3 a9
       |_=>a9
      |_=>a9) ds).bind λl=>if (Jj it ρ && !v5 l)=a6 then a9 else a3 (.v (.o l))
   else a9
  |_=>a9
 |.seq a,ρ=>Fo (ev Γ G a ρ)
 |.chn a b c,ρ=>j2f (ev Γ G a ρ) (ev Γ G b ρ) (ev Γ G c ρ)
 |.range es,ρ=>O5 (ev Γ G es ρ)
 |.join sep a,ρ=>Bu sep (ev Γ G a ρ)
 |.enum a,ρ=>M8 (ev Γ G a ρ)
 |.dzip a b,ρ=>jm8 (ev Γ G a ρ) (ev Γ G b ρ)
 |.callD f es,ρ=>match ev Γ G es ρ with
  |some (.a rs)=>match zq rs with
   |some ds=>match Γ f (ds++[.non]) with
    |.val d=>a3 (.v (.e d))
    |_=>a9
   |none=>a9
  |_=>a9
 |.callK f es a,ρ=>match ev Γ G es ρ,ev Γ G a ρ with
  |some (.a rs),a3 (.v x)=>match zq rs,x.st with
   |some ds,a3 d'=>match Γ f (ds++[d']) with
    |.val d=>a3 (.v (.e d))
    |_=>a9
   |_,_=>a9
  |_,_=>a9
 |.dix a b,ρ=>jnx (ev Γ G a ρ) (ev Γ G b ρ)
 |.dnil,_=>a3 (.v (.e (.sct [])))
 |.rpr a,ρ=>match ev Γ G a ρ with
  |some (.v x)=>match x.d with
   |.str y=>if (reprText y).length<=2000 then a3 (.v (.e (.str (reprText y))))else a9
   |_=>a9
  |_=>a9
 |.upr a,ρ=>jmy (ev Γ G a ρ)
 |.lrng a,ρ=>Cw (ev Γ G a ρ)
 |.lset a,ρ=>Br (ev Γ G a ρ)
 |.din a b,ρ=>jny (ev Γ G a ρ) (ev Γ G b ρ)
 |.items a,ρ=>jij (ev Γ G a ρ)
 |.callV i es,ρ=>Rb Γ ρ[i]? (ev Γ G es ρ)
 |.dget a b,ρ=>Bw (ev Γ G a ρ) (ev Γ G b ρ)
 |.dvals a,ρ=>Oq (ev Γ G a ρ)
 |.minT a,ρ=>Bp (ev Γ G a ρ)
section
variable{Γ:ah->List D->Rc}{G:ah->Option D}{ρ:En}
theorem j0k{d}:ev Γ G (.lit d) ρ=(a3 (.v (.e d))):=(rfl)
theorem jmf{i}:ev Γ G (.var i) ρ=(K1 ρ[i]?):=(rfl)
theorem jkd{x}:ev Γ G (.glob x) ρ=((G x).map λd=>.v (.e d)):=(rfl)
theorem jmm{op a b}:ev Γ G (.bin op a b) ρ=(Qo op (ev Γ G a ρ) (ev Γ G b ρ)):=(rfl)
theorem jmi{a}:ev Γ G (.neg a) ρ=(j1o (ev Γ G a ρ)):=(rfl)
theorem jcq{op a b}:ev Γ G (.cmp op a b) ρ=(Ij op (ev Γ G a ρ) (ev Γ G b ρ)):=(rfl)
theorem j0l{a}:ev Γ G (.isN a) ρ=(match ev Γ G a ρ with
  |some (.v x)=>a3 (.v (.e (.bl x.d.isNon)))
  |_=>a9):=(rfl)
theorem jcr{a b}:ev Γ G (.and a b) ρ=(match truth (ev Γ G a ρ) with
  |some a4=>a3 (.v (.e (.bl a4)))
  |some a6=>(truth (ev Γ G b ρ)).map λk=>.v (.e (.bl k))
  |none=>a9):=(rfl)
theorem jo7{a b}:ev Γ G (.or a b) ρ=(match truth (ev Γ G a ρ) with
  |some a6=>a3 (.v (.e (.bl a6)))
  |some a4=>(truth (ev Γ G b ρ)).map λk=>.v (.e (.bl k))
  |none=>a9):=(rfl)
theorem j5w{a}:ev Γ G (.not a) ρ=((truth (ev Γ G a ρ)).map λk=>.v (.e (.bl (!k)))):=(rfl)
theorem jmk{c a b}:ev Γ G (.ite c a b) ρ=(match truth (ev Γ G c ρ) with
  |some a6=>match ev Γ G a ρ with
   |some (.v x)=>x.st.map λd=>.v (.e d)
   |_=>a9
  |some a4=>match ev Γ G b ρ with
   |some (.v x)=>x.st.map λd=>.v (.e d)
   |_=>a9
  |none=>a9):=(rfl)
theorem Nf:ev Γ G (.nil) ρ=(a3 (.a [])):=(rfl)
theorem Ly{a b}:ev Γ G (.cons a b) ρ=(consW (ev Γ G a ρ) (ev Γ G b ρ)):=(rfl)
theorem jmg{es}:ev Γ G (.tup es) ρ=(Yj (ev Γ G es ρ)):=(rfl)
theorem jmj{es}:ev Γ G (.lst es) ρ=(Zd (ev Γ G es ρ)):=(rfl)
theorem jo8{a b}:ev Γ G (.ix a b) ρ=(ixW (ev Γ G a ρ) (ev Γ G b ρ)):=(rfl)
theorem jo6{a lo hi}:ev Γ G (.sl a lo hi) ρ=(match ev Γ G a ρ,Qz (ev Γ G lo ρ),Qz (ev Γ G hi ρ) with
  |some (.v x),a3 l,a3 h=>match x.sq with
   |some (a6,ds)=>a3 (.v (.o (cutD ds l h)))
   |some (a4,ds)=>if HT.sIx ds.length 0 l=0/\HT.sIx ds.length ds.length h=ds.length then a9 else a3 (.v (.e (.tup (cutD ds l h))))
   |none=>match x.d with
    |.str z=>if jo z.length=a6 then a3 (.v (.e (.str (bM z l h))))else a9
    |_=>a9
  |_,_,_=>a9):=(rfl)
theorem jkh{f es}:ev Γ G (.call f es) ρ=(Z8 Γ f (ev Γ G es ρ)):=(rfl)
theorem Wf{f es}:ev Γ G (.blt f es) ρ=(zr f (ev Γ G es ρ)):=(rfl)
theorem jk9{m a es}:ev Γ G (.meth m a es) ρ=(Bq m (ev Γ G a ρ) (ev Γ G es ρ)):=(rfl)
theorem jcp{a ts}:ev Γ G (.isi a ts) ρ=(Kw (ev Γ G a ρ) ts):=(rfl)
theorem jkg{is elt it cond}:ev Γ G (.comp is elt it cond) ρ=(match ev Γ G it (frz it ρ) with
  |some (.i ds)=>if j0h is (frz it ρ)=a6/\jo ds.length=a6 then
    (J4 (λd=>match za is d (frz it ρ) with
     |none=>a9
     |some ρ2=>match ev Γ G cond ρ2 with
      |some (.a [])=>match ev Γ G elt ρ2 with
       |some (.v x)=>x.st.map a3
       |_=>a9
      |some (.a [y])=>match y.d with
       |.bl a6=>match ev Γ G elt ρ2 with
        |some (.v x)=>x.st.map a3
        |_=>a9
       |.bl a4=>a3 a9
       |_=>a9
      |_=>a9) ds).bind λl=>if (Jj it ρ && !v5 l)=a6 then a9 else a3 (.v (.o l))
   else a9
  |_=>a9):=(rfl)
theorem jmh{a}:ev Γ G (.seq a) ρ=(Fo (ev Γ G a ρ)):=(rfl)
theorem jml{a b c}:ev Γ G (.chn a b c) ρ=(j2f (ev Γ G a ρ) (ev Γ G b ρ) (ev Γ G c ρ)):=(rfl)
theorem jfz{es}:ev Γ G (.range es) ρ=(O5 (ev Γ G es ρ)):=(rfl)
theorem jkc{sep a}:ev Γ G (.join sep a) ρ=(Bu sep (ev Γ G a ρ)):=(rfl)
theorem jke{a}:ev Γ G (.enum a) ρ=(M8 (ev Γ G a ρ)):=(rfl)
theorem jg3{f es}:ev Γ G (.callD f es) ρ=(match ev Γ G es ρ with
  |some (.a rs)=>match zq rs with
   |some ds=>match Γ f (ds++[.non]) with
    |.val d=>a3 (.v (.e d))
    |_=>a9
   |none=>a9
  |_=>a9):=(rfl)
theorem jg2{f es a}:ev Γ G (.callK f es a) ρ=(match ev Γ G es ρ,ev Γ G a ρ with
  |some (.a rs),a3 (.v x)=>match zq rs,x.st with
   |some ds,a3 d'=>match Γ f (ds++[d']) with
    |.val d=>a3 (.v (.e d))
    |_=>a9
   |_,_=>a9
  |_,_=>a9):=(rfl)
theorem jkb{a}:ev Γ G (.lrng a) ρ=(Cw (ev Γ G a ρ)):=(rfl)
theorem jka{a}:ev Γ G (.lset a) ρ=(Br (ev Γ G a ρ)):=(rfl)
theorem jg1{i es}:ev Γ G (.callV i es) ρ=(Rb Γ ρ[i]? (ev Γ G es ρ)):=(rfl)
theorem jkf{a b}:ev Γ G (.dget a b) ρ=(Bw (ev Γ G a ρ) (ev Γ G b ρ)):=(rfl)
theorem jg0{a}:ev Γ G (.dvals a) ρ=(Oq (ev Γ G a ρ)):=(rfl)
theorem jk8{a}:ev Γ G (.minT a) ρ=(Bp (ev Γ G a ρ)):=(rfl)
end
noncomputable def er(Γ:ah->List D->Rc)(G:ah->Option D):Ex->En->Option ah
 |.call f es,ρ=>match er Γ G es ρ with
  |some x=>if (G (qm f)).isSome=a6 then a3 x else a9
  |none=>match ev Γ G es ρ with
   |some (.a rs)=>match Γ f (rs.map Rk.d) with
    |.err x=>if (G (bang x)).isSome=a6 then a3 x else a9
    |_=>a9
   |_=>a9
 |.cons a b,ρ=>match er Γ G a ρ with
  |some x=>a3 x
  |none=>match ev Γ G a ρ with
   |some (.v _)=>er Γ G b ρ
   |_=>a9
 |.ix a _,ρ=>er Γ G a ρ
 |.dzip a b,ρ=>match er Γ G a ρ with
  |some x=>a3 x
  |none=>match ev Γ G a ρ with
   |some (.v _)=>er Γ G b ρ
   |_=>a9
 |_,_=>a9
end L2
end
section
namespace L2
open PySem PySem.Spec PyProof.Rows
def DM(X:Cx)(ρ:Rho)(e:aj)(s:Bool)(ds:List D):Prop:=∀σ H Q,Rep X.K ρ σ H->(∀a xs H',j0 H H'->SqB X.K s H' a xs->j4 X.K (del H' (owns ρ)) ds xs->Q (.ref a) H')->Qu X e σ H Q
section
variable{X:Cx}{ρ:Rho}{e a b c:aj}{es:List aj}{d:D}{ds ds':List D}{i j:Int}{pos p p2:aM}{k:Nat}{x:ah}{s:Bool}
theorem jl5{K:k9d}{H:Hp}{a:ae}{xs:List V}(h:SqL K H a xs):SqB K a6 H a xs:=by unfold SqB;rw[if_pos rfl];exact h
theorem Wu{K:k9d}{H:Hp}{a:ae}{xs:List V}(h:SqB K a6 H a xs):SqL K H a xs:=by unfold SqB at h;rw[if_pos rfl]at h;exact h
theorem Qt{K:k9d}{H:Hp}{a:ae}{xs:List V}(h:SqB K a4 H a xs):SqT K H a xs:=by unfold SqB at h;rw[if_neg xg]at h;exact h
theorem DE.toM(h:DE X ρ e (D.seq s ds)):DM X ρ e s ds:=λσ H Q R q=>h σ H Q R λv H1 g1 e1=>by obtain⟨t,xs,ev,sq,en⟩:=Vs e1;subst ev;exact q t xs H1 g1 (jt.seqB sq) en
theorem DL.toM(h:DL X ρ e ds):DM X ρ e a6 ds:=λσ H Q R q=>h σ H Q R λt xs H1 g1 m en=>q t xs H1 g1 (jl5 (.inl (.inl m))) en
theorem DO.toM(h:DO X ρ e ds):DM X ρ e a6 ds:=h.toL.toM
def Has(X:Cx)(ρ:Rho)(e:aj):Rk->Prop
 |.e d=>DE X ρ e d
 |.o l=>DO X ρ e l
 |.w l=>DL X ρ e l
 |.t d=>DT X ρ e d
theorem Has.toT:∀{r:Rk},Has X ρ e r->DT X ρ e r.d
 |.e _,h=>DE.toT h
 |.o _,h=>DL.toT (DO.toL h)
 |.w _,h=>DL.toT h
 |.t _,h=>h
theorem Has.toE:∀{r:Rk}{d:D},Has X ρ e r->r.st=a3 d->DE X ρ e d
 |.e _,_,h,q=>by cases q;exact h
 |.o _,_,h,q=>by cases q;exact DO.toE h
 |.w _,_,h,q=>by cases q
 |.t d',d,h,q=>by
  have q:(if Z2 d'=a6 then a3 d' else a9)=a3 d:=q;by_cases z:Z2 d'=a6
  .rw[if_pos z]at q;cases q;exact DT.toE h z
  .rw[if_neg z]at q;cases q
theorem Has.toM:∀{r:Rk}{s:Bool}{l:List D},Has X ρ e r->r.sq=a3 (s,l)->DM X ρ e s l
 |.e (.lst l),_,_,h,q=>by cases q;exact DE.toM (s:=a6) h
 |.e (.tup l),_,_,h,q=>by cases q;exact DE.toM (s:=a4) h
 |.e .non,_,_,_,q=>by cases q
 |.e (.bl _),_,_,_,q=>by cases q
 |.e (.int _),_,_,_,q=>by cases q
 |.e (.str _),_,_,_,q=>by cases q
 |.o l,_,_,h,q=>by cases q;exact DO.toM h
 |.w l,_,_,h,q=>by cases q;exact DL.toM h
 |.t _,_,_,_,q=>by cases q
theorem je5:OpR X (b8 .Add) (λx y H Q=>∃l b xs zs,x=.ref l/\y=.ref b/\SqL X.K H l xs/\SqL X.K H b zs/\xs.length+zs.length<=ak/\∀p,H p=a9->Q (.ref p) (upd H p (.lst (xs++zs)))):=by
 intro pins s σ H x y v u Q I rx ry h;obtain⟨l,b,xs,zs,e1,e2,hH,hB,hz,q⟩:=h;subst e1 e2;cases rx;cases ry;obtain⟨us,ru,⟨⟨c1,d1,f1,g1⟩,n1,h1,k1,w1,m1⟩,_⟩:=I.list hH;obtain⟨vs,rv,⟨⟨c2,d2,f2,g2⟩,n2,h2,k2,w2,m2⟩,_⟩:=I.list hB;have k1:c1=.type "list":=k1;have m1:f1=.seq us.toArray n1:=m1;have k2:c2=.type "list":=k2;have m2:f2=.seq vs.toArray n2:=m2;subst k1 m1 k2 m2;have l1:=ru.length;have l2:=rv.length;have ea:us.toArray++vs.toArray=(us++vs).toArray:=by simp
 refine fZ ⟨_,h1,rfl⟩ ⟨_,h2,rfl⟩ noFill_list_add seq_list_add PySem.F.slot_list_add PySem.F.entry_list_add (PySem.F.args_list_add_2 _ _)
  (list_addW l b us.toArray vs.toArray n1 n2 d1 d2 g1 g2 (by rw[X4,X4,<-l1,<-l2];exact hz)) ⟨h1,h2,?_⟩
 rw[ea];exact⟨.ref _,_,I.lnew (t':=s.toks) (ru.append rv) (by rw[Xa];exact hz),rfl,q _ I.fresh⟩
theorem DO.catM(ha:DM X ρ a a6 ds)(hb:DM X ρ b a6 ds')(hl:ds.length+ds'.length<=ak):DO X ρ (.BinOp a .Add b pos) (ds++ds'):=λσ H Q R q =>
 (W5 je5 peS peS).to (ha σ H _ R λl xs H1 g1 s1 e1=>hb σ H1 _ (R.grow g1) λl' ys H2 g2 s2 e2 =>
  ⟨l,l',xs,ys,rfl,rfl,g2.seq (Wu s1),Wu s2,by rw[e1.length,e2.length];exact hl,λp hp=>q p _ _ ((g1.trans g2).trans (j7 hp)) ((g1.trans g2).free hp) j9 (M9 hp ((e1.mono (jh g2)).append e2))⟩)
theorem DE.catTM(ha:DM X ρ a a4 ds)(hb:DM X ρ b a4 ds')(hl:ds.length+ds'.length<=ak):DE X ρ (.BinOp a .Add b pos) (.tup (ds++ds')):=λσ H Q R q =>
 (W5 j9s peS peS).to (ha σ H _ R λt xs H1 g1 sq l=>hb σ H1 _ (R.grow g1) λt' ys H2 g2 sq' l'=>by
  have l2:=l.mono (jh g2)
  have enT:∀{t:ae}{xs:List V}{ds:List D},SqT X.K H2 t xs->j4 X.K (del H2 (owns ρ)) ds xs->Enc X.K (del H2 (owns ρ)) (.tup ds) (.ref t):=λ{t xs ds} sq l=>by
   refine⟨t,xs,rfl,?_,l⟩
   have ow:=(R.grow (g1.trans g2)).owned
   have out:∀{o:HO},H2 t=a3 o->(∀zs,o≠.lst zs)->del H2 (owns ρ) t=a3 o:=λ{o} h z=>by
    rw[j6];exact h
    intro y;obtain⟨zs,e'⟩:=ow t y;rw[h]at e';cases e';exact z zs rfl
   rcases sq with (h|⟨o,h⟩)|h
   .exact .inl (.inl (out h λ_ z=>by cases z))
   .exact .inl (.inr ⟨o,out h λ_ z=>by cases z⟩)
   .exact .inr h
  refine⟨t,t',xs,ys,rfl,rfl,g2.seqT (Qt sq),Qt sq',by rw[l.length,l'.length];exact hl,λh=>?_,λh h'=>?_,λh h' p hp=>?_⟩
  .subst h
   cases ds with
   |nil=>exact q _ H2 (g1.trans g2) (enT (Qt sq') l')
   |cons _ _=>have:=l.length;cases this
  .subst h'
   cases ds' with
   |nil=>exact q _ H2 (g1.trans g2) (by rw[Xx];exact enT (g2.seqT (Qt sq)) l2)
   |cons _ _=>have:=l'.length;cases this
  .have np:p∉owns ρ:=(R.grow (g1.trans g2)).fresh hp
   exact q _ _ ((g1.trans g2).trans (j7 hp)) ⟨p,xs++ys,rfl,.inl (.inl (by rw[j6 np];exact j9)),(l2.append l').mono (jh (j7 hp))⟩)
theorem DE.ixM(ha:DM X ρ a s ds)(hb:DT X ρ b (.int i))(h:L2.atI ds i=a3 d)(hs:U7 b):DE X ρ (.Subscript a b pos) d:=by
 cases s with
 |true=>exact λσ H Q R q=>(Cu jen peS peS hs).to (ha σ H _ R λl xs H1 g1 sq en=>hb σ H1 _ (R.grow g1) λu H2 g2 e2=>by
   obtain⟨y,hy,ey⟩:=en.atI h
   exact⟨l,xs,i,y,rfl,e2,g2.seq (Wu sq),hy,q y H2 (g1.trans g2) (ey.mono (jh g2))⟩)
 |false=>exact λσ H Q R q=>(Cu j7g peS peS hs).to (ha σ H _ R λl xs H1 g1 sq en=>hb σ H1 _ (R.grow g1) λu H2 g2 e2=>by
   obtain⟨y,hy,ey⟩:=en.atI h
   exact⟨l,xs,i,y,rfl,e2,g2.seqT (Qt sq),hy,q y H2 (g1.trans g2) (ey.mono (jh g2))⟩)
variable{lo hi:Option aj}{l u:Option Int}
theorem DO.sliceM(ha:DM X ρ a a6 ds)(hl:DP X ρ lo l)(hu:DP X ρ hi u):DO X ρ (.Subscript a (.Slice lo hi a9 p2) pos) (cutD ds l u):=λσ H Q R q =>
 (Ft jd7 peS poS poS).to (ha σ H _ R λt xs H1 g1 sq en=>hl σ H1 _ (R.grow g1) λH2 g2=>hu σ H2 _ (R.grow (g1.trans g2)) λH3 g3=>⟨t,xs,rfl,(g2.trans g3).seq (Wu sq),λp hp =>
  q p _ _ ((g1.trans (g2.trans g3)).trans (j7 hp)) ((g1.trans (g2.trans g3)).free hp) j9 (M9 hp ((en.mono (jh (g2.trans g3))).cut l u))⟩)
theorem DE.sliceM(ha:DM X ρ a a4 ds)(hl:DP X ρ lo l)(hu:DP X ρ hi u)(hw:¬(HT.sIx ds.length 0 l=0/\HT.sIx ds.length ds.length u=ds.length)):DE X ρ (.Subscript a (.Slice lo hi a9 p2) pos) (.tup (cutD ds l u)):=λσ H Q R q =>
 (Ft jgk peS poS poS).to (ha σ H _ R λt xs H1 g1 sq en=>hl σ H1 _ (R.grow g1) λH2 g2=>hu σ H2 _ (R.grow (g1.trans g2)) λH3 g3=>⟨t,xs,rfl,(g2.trans g3).seqT (Qt sq),by rw[en.length];exact hw,λp hp =>
  q _ _ ((g1.trans (g2.trans g3)).trans (j7 hp)) ⟨p,_,rfl,.inl (.inl (by rw[j6 ((R.grow (g1.trans (g2.trans g3))).fresh hp)];exact j9)),((en.mono (jh (g2.trans g3))).cut l u).mono (jh (j7 hp))⟩⟩)
theorem DE.tupM (ha:DM X ρ a s ds) (hm:X.mg "tuple" = a9) (hg:Gl X "tuple") (hs:a8 [a] X.env=[(a4,ay a X.env)]):DE X ρ (.Call (.Name "tuple" p) [a] [] pos) (.tup ds):=λσ H Q R q =>
 (O9 j08 hg hm boot_tuple (jg peS jy hs) (by decide) (by decide) hs).to (ha σ H _ R λl xs H1 g1 sq en=>by
  cases s with
  |true =>
   refine⟨l,xs,rfl,.inl ⟨Wu sq,λt ht=>?_⟩⟩
   have nt:t∉owns ρ:=(R.grow g1).fresh ht
   exact q _ _ (g1.trans (j7 ht)) ⟨t,xs,rfl,.inl (.inl (by rw[j6 nt];exact j9)),en.mono (jh (j7 ht))⟩
  |false =>
   refine⟨l,xs,rfl,.inr ⟨Qt sq,?_⟩⟩
   refine q _ _ g1 ⟨l,xs,rfl,?_,en⟩
   have ow:=(R.grow g1).owned
   have out:∀{o:HO},H1 l=a3 o->(∀zs,o≠.lst zs)->del H1 (owns ρ) l=a3 o:=λ{o} h z=>by
    rw[j6];exact h
    intro y;obtain⟨zs,e'⟩:=ow l y;rw[h]at e';cases e';exact z zs rfl
   rcases Qt sq with (h|⟨o,h⟩)|h
   .exact .inl (.inl (out h λ_ z=>by cases z))
   .exact .inl (.inr ⟨o,out h λ_ z=>by cases z⟩)
   .exact .inr h)
theorem DO.listM (ha:DM X ρ a s ds) (hm:X.mg "list" = a9) (hg:Gl X "list") (hs:a8 [a] X.env=[(a4,ay a X.env)]):DO X ρ (.Call (.Name "list" p) [a] [] pos) ds:=λσ H Q R q =>
 (O9 j2h hg hm boot_list (jg peS jy hs) (by decide) (by decide) hs).to (ha σ H _ R λl xs H1 g1 sq en =>
  ⟨l,xs,rfl,(by cases s with|true=>exact .inl (Wu sq)|false=>exact .inr (Qt sq)),λp hp=>q p _ _ (g1.trans (j7 hp)) (g1.free hp) j9 (M9 hp en)⟩)
end
theorem Kl:fillsNumberSlot (.type "tuple") "mul" = pure a4 :=
 PySem.fillsNumberSlot_seq (id:="tuple.__mul__") (r:=a3 (.builtin "tuple.__rmul__")) PySem.F.slot_tuple_mul.lookup (by decide +kernel) PySem.F.slot_tuple_rmul.lookup (by decide +kernel)
theorem jdq:seqRepeat? (.type "tuple")=pure (a3 (.builtin "tuple.__mul__")):=by
 unfold seqRepeat?;rw[ja (T:="tuple") (name:="__mul__") (id:="tuple.__mul__") PySem.F.slot_tuple_mul.lookup (by decide +kernel),
  ja (T:="tuple") (name:="__rmul__") (id:="tuple.__rmul__") PySem.F.slot_tuple_rmul.lookup (by decide +kernel)]
 rfl
section
variable(a:Int)(t:hV)(l:ae)(its:Array aa)(n:Nat)(d1:Option ae)(sl:Array (Option aa))
theorem j1w:mz (eN.«int.__rmul__» ⟨[.int a t,.ref l],[]⟩) (λ_ R s=>s.heap.get? l=a3 ⟨.type "tuple",d1,.seq its n,sl⟩/\R (.ok (.ret i6)) s) :=
 .of_wp λ_ _ _ _ s h=>by
  obtain⟨_,_,_,_,_⟩:=s;obtain⟨hl,h⟩:=h
  wp_walk
  exact⟨_,rfl,h⟩
theorem j8y:mz (eN.«tuple.__mul__» ⟨[.ref l,.int 1 t],[]⟩) (λ_ R s=>s.heap.get? l=a3 ⟨.type "tuple",d1,.seq its n,sl⟩/\R (.ok (.ret (.ref l))) s) :=
 .of_wp λ_ _ _ _ s h=>by
  obtain⟨_,_,_,_,_⟩:=s;obtain⟨hl,h⟩:=h
  wp_walk
  exact⟨_,rfl,h⟩
theorem j8x(h0:its.isEmpty=a4)(h1:1<a)(h2:a<2^63)(hz:its.size*a.toNat<=ak) :
  mz (eN.«tuple.__mul__» ⟨[.ref l,.int a t],[]⟩) (λ_ R s=>s.heap.get? l=a3 ⟨.type "tuple",d1,.seq its n,sl⟩ /\
   R (.ok (.ret (.ref s.heap.objs.size))) { s with heap:=s.heap.push { cls:=.type "tuple",data:=.seq (de (λx y=>x++y) #[] (a5 a.toNat its)) } }) :=
 .of_wp λ_ _ _ _ s h=>by
  obtain⟨_,_,_,_,_⟩:=s;obtain⟨hl,h⟩:=h;have c1:(decide (a < -2^63) || decide (a>=2^63))=a4:=by rw[decide_eq_false nofun,decide_eq_false nofun];rfl
  have c2:(its.isEmpty || a==1)=a4:=by rw[h0,beq_eq_false_iff_ne.mpr nofun];rfl
  have c3:(decide (a<=0) || its.isEmpty)=a4:=by rw[h0,decide_eq_false nofun];rfl
  have ea:((its.size*a.toNat:Nat):Int)=(its.size:Int)*a:=by rw[cW,Tj nofun]
  have hz':(its.size:Int)*a<=(ak:Int):=by rw[<-ea];exact Int.ofNat_le.mpr hz
  have c4:¬(its.size:Int)*a>(2^63-1)/8:=by
   have:(ak:Int)<=(2^63-1)/8:=by decide
   omega
  have c5:eU ((its.size:Int)*a)=a4:=by unfold eU;exact decide_eq_false nofun
  have c6:(de (λx y=>x++y) #[] (a5 a.toNat its)).size<=ak:=by rw[AutoListH.size_joined,Array.size_empty,Pj,fB];exact hz
  wp_walk
  rw[c1]
  wp_walk
  rw[c2]
  wp_walk
  rw[c3]
  wp_walk
  rw[if_neg c4]
  wp_walk
  exact⟨_,rfl,h⟩
end
theorem je3{X:Cx}:OpR X (b8 .Mult) (λx y H Q=>∃a k xs,x=.ref a/\y=.int k/\SqT X.K H a xs/\xs≠[]/\1<=k/\k<2^63/\xs.length*k.toNat<=ak /\
  (k=1->Q (.ref a) H)/\(1<k->∀p,H p=a9->Q (.ref p) (upd H p (.tup (a5 k.toNat xs).flatten)))):=by
 intro pins s σ H x y v u Q I rx ry h;obtain⟨a,k,xs,e1,e2,sq,hne,h1,h2,hz,q1,q2⟩:=h;subst e1 e2;cases rx;obtain⟨t,e⟩:=ry;subst e;obtain⟨us,ru,⟨⟨c1,d1,f1,g1⟩,p1,k1,n1,m1⟩,_⟩:=I.tuple sq;have k1:c1=.type "tuple":=k1;have m1:f1=.seq us.toArray n1:=m1;subst k1 m1;have lu:=ru.length;have hne':us.toArray.isEmpty=a4:=by
  cases us with
  |nil=>cases ru;exact absurd rfl hne
  |cons _ _=>simp
 refine iA (T:="tuple") (U:="int") (by decide) ⟨_,p1,rfl⟩ (λs'=>fL s' k t) Kl kI eG jdq F.slot_int_index.lookup
  (bA eG (fL s k t) ku (ki _ _) (j1w k t a us.toArray n1 d1 g1) ⟨p1,rfl,⟨_,p1,rfl⟩,?_⟩)
 by_cases hk:k=1
 .subst hk;exact bA kq ⟨_,p1,rfl⟩ kg (jQ _ _) (j8y t a us.toArray n1 d1 g1) ⟨p1,⟨.ref a,H,I,rfl,q1 rfl⟩⟩
 .have hz':us.toArray.size*k.toNat<=ak:=by rw[X4,<-lu];exact hz
  refine bA kq ⟨_,p1,rfl⟩ kg (jQ _ _) (j8x k t a us.toArray n1 d1 g1 hne' nofun h2 hz') ⟨p1,?_⟩;have hnew:de (λx1 x2=>x1++x2) #[] (a5 k.toNat us.toArray)=(a5 k.toNat us).flatten.toArray:=by have:=foldl_rep us k.toNat [];rw[Sq]at this;exact this
  rw[hnew];refine⟨.ref _,_,I.laid (t':=s.toks) (λb o e=>xj _ e) (xu _) ?_,rfl,q2 nofun _ I.fresh⟩;exact⟨by rw[len_rep,fB];exact hz,_,ru.rep k.toNat,IsTup.new _ _,Vg.new _ _⟩
theorem DE.repT{X:Cx}{ρ:Rho}{a b:aj}{ds:List D}{k:Int}{pos:aM}(ha:DM X ρ a a4 ds)(hb:DT X ρ b (.int k))(hne:ds≠[])(h1:1<=k)(h2:k<2^63)(hl:ds.length*k.toNat<=ak) :
  DE X ρ (.BinOp a .Mult b pos) (.tup (a5 k.toNat ds).flatten):=λσ H Q R q =>
 (W5 je3 peS peS).to (ha σ H _ R λt xs H1 g1 sq l=>hb σ H1 _ (R.grow g1) λu H2 g2 e2=>by
  have l2:=l.mono (jh g2)
  refine⟨t,k,xs,rfl,e2,g2.seqT (Qt sq),?_,h1,h2,by rw[l.length];exact hl,λh=>?_,λh p hp=>?_⟩
  .intro z;subst z
   cases ds with
   |nil=>exact hne rfl
   |cons _ _=>have:=l.length;cases this
  .subst h
   have e:(a5 (1:Int).toNat ds).flatten=ds:=by simp
   rw[e]at q
   refine q _ H2 (g1.trans g2) ⟨t,xs,rfl,?_,l2⟩
   have ow:=(R.grow (g1.trans g2)).owned
   have out:∀{o:HO},H2 t=a3 o->(∀zs,o≠.lst zs)->del H2 (owns ρ) t=a3 o:=λ{o} h z=>by
    rw[j6];exact h
    intro y;obtain⟨zs,e'⟩:=ow t y;rw[h]at e';cases e';exact z zs rfl
   rcases g2.seqT (Qt sq)with (h|⟨o,h⟩)|h
   .exact .inl (.inl (out h λ_ z=>by cases z))
   .exact .inl (.inr ⟨o,out h λ_ z=>by cases z⟩)
   .exact .inr h
  .have np:p∉owns ρ:=(R.grow (g1.trans g2)).fresh hp
   exact q _ _ ((g1.trans g2).trans (j7 hp)) ⟨p,_,rfl,.inl (.inl (by rw[j6 np];exact j9)),(l2.rep k.toNat).mono (jh (j7 hp))⟩)
section
variable{X:Cx}{ρ:Rho}{a:aj}{m k:Bool}{d:D}{n:Nat}{pos p2:aM}
theorem DE.isNotN(ha:DT X ρ a d):DE X ρ (.Compare a [.IsNot] [.Constant .none n p2] pos) (.bl (!d.isNon)):=λσ H Q R q =>(Jw j3t peS j1g (zf _)).to (ha σ H _ R λx H1 g1 e1=>⟨rfl,q _ H1 g1 (by rw[W8 e1];rfl)⟩)
theorem DB.isNotN(ha:DT X ρ a d):DB X ρ (.Compare a [.IsNot] [.Constant .none n p2] pos) (!d.isNon):=λσ H Q R q =>(Jv j3t peS j1g (zf _)).to (ha σ H _ R λx H1 g1 e1=>⟨rfl,_,rfl,by rw[W8 e1];exact q H1 g1⟩)
end
end L2
end
section
namespace PySem
open Sem (wp)
namespace F
end F
section
variable{prog:av}{w:az}{A:aB}{E:k9e}{s:af}{I:ae}{fp wr:List ae}{G:Array ff->Array ff->Prop}{n:Nat}{P:Nat->aa->Prop}{St:Nat->af->Prop}
end
end PySem
namespace L2
open PySem PySem.Spec PyProof.Rows
section
variable{X:Cx}{ρ:Rho}{a:aj}{ds:List D}{p p1 p2 p3 pos:aM}
end
noncomputable def Sl.abs:Sl->Sv
 |.un=>.un
 |.val d=>.val d
 |.own _ l=>.own l
 |.raw _ _ x=>.exc x
noncomputable def j8(ρ:Rho):En:=ρ.map Sl.abs
theorem Dr{ρ:Rho}{i:Nat}:(j8 ρ)[i]?=(ρ[i]?).map Sl.abs:=xx ..
theorem Uv{ρ:Rho}{i:Nat}{d:D}(h:(j8 ρ)[i]?=a3 (.val d)):ρ[i]?=a3 (.val d):=by
 rw[Dr]at h;cases e:ρ[i]? with
 |none=>rw[e]at h;cases h
 |some s=>rw[e]at h;cases s<;>cases h;rfl
theorem jfy{ρ:Rho}{i:Nat}(h:(j8 ρ)[i]?=a3 .un):ρ[i]?=a3 .un:=by
 rw[Dr]at h;cases e:ρ[i]? with
 |none=>rw[e]at h;cases h
 |some s=>rw[e]at h;cases s<;>cases h;rfl
theorem J2{ρ:Rho}{i:Nat}{l:List D}(h:(j8 ρ)[i]?=a3 (.own l)):∃a,ρ[i]?=a3 (.own a l):=by
 rw[Dr]at h;cases e:ρ[i]? with
 |none=>rw[e]at h;cases h
 |some s=>rw[e]at h;cases s<;>cases h;exact⟨_,rfl⟩
theorem jb{ρ:Rho}{i:Nat}{s:Sl}:j8 (ρ.set i s)=(j8 ρ).set i s.abs:=kP ..
noncomputable def Bop.op:Bop->jX
 |.add=>.Add
 |.sub=>.Sub
 |.mul=>.Mult
 |.fdiv=>.FloorDiv
 |.mod=>.Mod
 |.pow=>.Pow
 |.shl=>.LShift
 |.shr=>.RShift
 |.band=>.BitAnd
 |.bxor=>.BitXor
noncomputable def Cop.op:Cop->g9
 |.lt=>.Lt
 |.le=>.LtE
 |.gt=>.Gt
 |.ge=>.GtE
 |.eq=>.Eq
 |.ne=>.NotEq
 |.isin=>.In
 |.notin=>.NotIn
noncomputable def Bf.name:Bf->ah
 |.len=>"len"
 |.min=>"min"
 |.max=>"max"
 |.all=>"all"
 |.tuple=>"tuple"
 |.list=>"list"
 |.sum=>"sum"
 |.int=>"int"
 |.any=>"any"
 |.sorted=>"sorted"
noncomputable def Yi:List ah:=["len","min","max","all","tuple","list","sum","int","any","sorted","isinstance","bool","str","range","zip","enumerate","reversed","ValueError","set","dict"]
noncomputable def Yh(x:ah):Bool:=x.cps.toList.head?==a3 33 || x.cps.toList.head?==a3 63
inductive Nd where
 |e (x:aj)
 |b (x:aj)
 |w (x:aj)
 |a (xs:List aj)
 |i (tg it:aj)
 |o (x:Option aj)
 |c (xs:List aj)
 |p (xs:List aj)
structure Cok(X:Cx)(G:ah->Option D):Prop where
 un':X.A.units+100<aV
 un:X.calm=a6->X.A.units+150<aV
 dp:X.calm=a6->X.A.depth+4<f6
 bt:∀x∈Yi,X.mg x=a9
 gl:∀x d,Yh x=a4->G x=a3 d->∃u v,X.mg x=a3 u/\RelV v u/\∀H,Enc X.K H d v
 nd:X.N.Nodup
 po:dB (ax X.prog X.w) X.A X.env X.xe
 ea:j0i X.K=a6
 ec:∀x d,G (bang x)=a3 d->x∈Q0/\∃o,W.nsIn X.K au x=a3 (a3 o)
 el:G "?" = a3 (.bl a6)->∀c∈Q0,∃v,W.nsIn X.K au c=a3 (a3 v)
 kin:X.K.In X.base
 ns:X.base.Ns au X.mg
 kd:∀x l,G (bang x)=a3 (.lst l)->Kinds X "_law_kinds" x l
 fn:∀f d,G (qm f)=a3 d->∃fa,X.mg f=a3 (.ref fa)/\W.keepIn X.K (.ref fa)=a6
 pl:∀d,G (qm "_law_plan")=a3 d->Cal X "_law_plan" (jgj X.K jc7)
 lm:∀x∈V9,X.env.qual=x ++ ".<locals>."->∃c P,X.env.code=.ref c/\W.codeHdIn X.K c P=a6/\W.tabIn X.K x=a3 (c,P)
def Gok(X:Cx)(Γ:ah->List D->Rc):Prop:=∀f ds,match Γ f ds with
 |.val d=>Cal X f (spP X.K λds' d'=>ds'=ds/\d'=d)
 |.fresh l=>Cal X f (spF X.K λds' l'=>ds'=ds/\l'=l)
 |.err x=>CalX X f (spX X.K X.mg λds' y=>ds'=ds/\y=x)
 |.lval d=>∀x,f=jx x->∃k,Room k X.A/\j0m X.prog X.w X.K X.mg X.base k x λds' d'=>ds'=ds/\d'=d
 |.no=>True
theorem Cok.comp{X:Cx}{G:ah->Option D}{scope:b9}{C:ae}{s:af}{H:Hp}{fp:List ae}{pn:k9f}(h:Cok X G):Cok (cCx X scope C s H fp pn) G:=⟨h.un',h.un,h.dp,h.bt,h.gl,h.nd,bW,h.ea,h.ec,h.el,h.kin,h.ns,h.kd,h.fn,λd e=>Cal.comp (h.pl d e),h.lm⟩
theorem Gok.comp{X:Cx}{Γ:ah->List D->Rc}{scope:b9}{C:ae}{s:af}{H:Hp}{fp:List ae}{pn:k9f}(h:Gok X Γ):Gok (cCx X scope C s H fp pn) Γ:=λf ds=>by
 have q:=h f ds;cases e:Γ f ds with
 |val d=>rw[e]at q;exact Cal.comp q
 |fresh l=>rw[e]at q;exact Cal.comp q
 |err x=>rw[e]at q;exact⟨q.ex⟩
 |lval d=>rw[e]at q;exact q
 |no=>trivial
inductive HasA(X:Cx)(ρ:Rho):List aj->List Rk->Prop where
 |nil:HasA X ρ [] []
 |cons {a:aj} {es:List aj} {r:Rk} {rs:List Rk} (hs:a8 (a::es) X.env=(a4,ay a X.env)::a8 es X.env):Has X ρ a r->HasA X ρ es rs->HasA X ρ (a::es) (r::rs)
section
variable{X:Cx}{ρ:Rho}{es:List aj}{rs:List Rk}
theorem HasA.toA:∀{es:List aj}{rs:List Rk}{ds:List D},HasA X ρ es rs->zq rs=a3 ds->DA X ρ es ds
 |_,_,_,.nil,q=>by cases q;exact DA.nil
 |_,_,ds,.cons (r:=r) (rs:=rs) hs h t,q=>by
  unfold zq at q;cases e1:r.st with
  |none=>rw[e1]at q;cases q
  |some d =>
   cases e2:zq rs with
   |none=>rw[e1,e2]at q;cases q
   |some ds'=>rw[e1,e2]at q;cases q;exact DA.cons (h.toE e1) (t.toA e2) hs
theorem HasA.toT:∀{es:List aj}{rs:List Rk},HasA X ρ es rs->DTA X ρ es (rs.map Rk.d)
 |_,_,.nil=>DTA.nil
 |_,_,.cons hs h t=>DTA.cons h.toT t.toT hs
theorem HasA.one{e:aj}(h:HasA X ρ [e] rs):∃r,rs=[r]/\Has X ρ e r/\a8 [e] X.env=[(a4,ay e X.env)]:=by cases h with|cons hs h t=>cases t;exact⟨_,rfl,h,hs⟩
theorem DO.unfrz{e:aj}{i:Nat}{a:ae}{l ds:List D}(hk:ρ[i]?=a3 (.own a l))(h:DO X (ρ.set i (.val (.lst l))) e ds)(hn:v5 ds=a6):DO X ρ e ds:=λσ H Q R q =>
 h σ H Q (R.freeze hk) λb xs H' g n m en=>q b xs H' g n m ((en.mono jt).hide (λc hc=>by
  rcases xn.mp hc with z|z
  .rw[z];exact .inl ⟨xs,m⟩
  .exact .inl ((R.grow g).owned c z)) hn)
end
theorem Lp{f:D->Option (Option D)}:∀{ds l:List D},J4 f ds=a3 l ->
  l=(ds.filter (λd=>(f d).join.isSome)).map (λd=>(f d).join.getD .non)/\∀d∈ds,∃o,f d=a3 o
 |[],l,h=>by cases h;exact⟨rfl,λd hd=>nomatch hd⟩
 |d::ds,l,h=>by
  unfold J4 at h;cases e1:f d with
  |none=>rw[e1]at h;cases h
  |some o =>
   cases e2:J4 f ds with
   |none=>rw[e1,e2]at h;cases o<;>cases h
   |some xs =>
    rw[e1,e2]at h;obtain⟨q1,q2⟩:=Lp e2;have mem:∀d'∈d::ds,∃o,f d'=a3 o:=λd' hd=>by
     rcases xn.mp hd with z|z
     .subst z;exact⟨o,e1⟩
     .exact q2 d' z
    cases o with
    |none=>cases h;exact⟨by rw[Pa (by rw[e1];simp)];exact q1,mem⟩
    |some x=>cases h;exact⟨by rw[Pk (by rw[e1];rfl),xm,<-q1,e1];rfl,mem⟩
section
variable{X:Cx}{ρ:Rho}{a b:aj}{d da db:D}{ds ds':List D}{pos:aM}{k:Bool}
theorem j7j {t c:String} (h:qy t c=a3 k):t ≠ "function":=λz=>by unfold qy at h;rw[if_pos z]at h;cases h
theorem j3x{K:k9d}{c:String}(h:qy d.ty c=a3 k):W.kitOne K (.type d.ty) (.type c)=a3 k:=by
 have nf:d.ty ≠ "function":=j7j h;unfold qy at h;rw[if_neg nf]at h;by_cases h1:c = "int"
 .subst h1;cases d<;>first|exact absurd rfl nf|(simp[D.ty]at h;subst h;kernel_rfl)
 rw[if_neg h1]at h;by_cases h2:c = "bool"
 .subst h2;cases d<;>first|exact absurd rfl nf|(simp[D.ty]at h;subst h;kernel_rfl)
 rw[if_neg h2]at h;by_cases h3:c = "str"
 .subst h3;cases d<;>first|exact absurd rfl nf|(simp[D.ty]at h;subst h;kernel_rfl)
 rw[if_neg h3]at h;by_cases h4:c = "list"
 .subst h4;cases d<;>first|exact absurd rfl nf|(simp[D.ty]at h;subst h;kernel_rfl)
 rw[if_neg h4]at h;by_cases h5:c = "tuple"
 .subst h5;cases d<;>first|exact absurd rfl nf|(simp[D.ty]at h;subst h;kernel_rfl)
 rw[if_neg h5]at h;cases h
theorem j41 {c:String} {cs:List String} (h:qe d (c::cs)=a3 k):d.ty ≠ "function":=by
 unfold qe at h;split at h
 .rename_i e _;exact j7j e
 .cases h
theorem j1u{K:k9d}:∀{cs:List String}{k:Bool},qe d cs=a3 k->W.kitAny K (.type d.ty) (cs.map bO)=a3 k
 |[],k,h=>by cases h;rfl
 |c::cs,k,h=>by
  unfold qe at h;cases e1:qy d.ty c with
  |none=>rw[e1]at h;cases h
  |some x =>
   cases e2:qe d cs with
   |none=>rw[e1,e2]at h;cases h
   |some y =>
    rw[e1,e2]at h;cases h;rw[xm,W.kitAny,j3x e1];cases x with
    |true=>simp
    |false=>simp;exact j1u e2
theorem DE.neD(s:Bool)(hu:X.A.units+100<aV)(ha:DT X ρ a (D.seq s ds))(hb:DT X ρ b (D.seq s ds'))(hd:D.depL ds<=98)(nd:D.depL ds'<10000):DE X ρ (.Compare a [.NotEq] [b] pos) (.bl (!vp ds ds')):=λσ H Q R q =>(Jw (j72 hu) peS peS (zf _)).to (ha σ H _ R λv H1 g1 e1=>hb σ H1 _ (R.grow g1) λu H2 g2 e2=>⟨ds,ds',s,e1.mono g2,e2,hd,nd,q _ H2 (g1.trans g2) rfl⟩)
theorem DE.notIn(s:Bool)(hu:X.A.units+100<aV)(ha:DT X ρ a d)(hb:DT X ρ b (D.seq s ds))(hd:D.depL ds<=98)(nd:d.dep<10000)(hm:aH .NotIn b=a4):DE X ρ (.Compare a [.NotIn] [b] pos) (.bl (!ds.any λe=>deq e d)):=λσ H Q R q =>(Jw (Ec hu) peS peS hm).to (ha σ H _ R λv H1 g1 e1=>hb σ H1 _ (R.grow g1) λu H2 g2 e2=>⟨d,ds,s,e1.mono g2,e2,hd,nd,q _ H2 (g1.trans g2) rfl⟩)
theorem DE.in(s:Bool)(hu:X.A.units+100<aV)(ha:DT X ρ a d)(hb:DT X ρ b (D.seq s ds))(hd:D.depL ds<=98)(nd:d.dep<10000)(hm:aH .In b=a4):DE X ρ (.Compare a [.In] [b] pos) (.bl (ds.any λe=>deq e d)):=λσ H Q R q =>(Jw (j73 hu) peS peS hm).to (ha σ H _ R λv H1 g1 e1=>hb σ H1 _ (R.grow g1) λu H2 g2 e2=>⟨d,ds,s,e1.mono g2,e2,hd,nd,q _ H2 (g1.trans g2) rfl⟩)
theorem jd6:∀{b:D}{s:Bool}{l:List D},b.sqv=a3 (s,l)->b=D.seq s l
 |.lst _,_,_,h=>by cases h;rfl
 |.dct _ _,_,_,h=>by cases h
 |.sct _,_,_,h=>by cases h
 |.fn _ _,_,_,h=>by cases h
 |.tup _,_,_,h=>by cases h;rfl
 |.non,_,_,h=>by cases h
 |.bl _,_,_,h=>by cases h
 |.int _,_,_,h=>by cases h
 |.str _,_,_,h=>by cases h
theorem j5p{op:Cop}{i j:Int}(h:cmpI op i j=a3 k)(ha:DT X ρ a (.int i))(hb:DT X ρ b (.int j)):DE X ρ (.Compare a [op.op] [b] pos) (.bl k)/\DB X ρ (.Compare a [op.op] [b] pos) k:=by
 cases op<;>(first|(cases h;done)|skip)
 .cases h;exact⟨DE.lt ha hb,DB.lt ha hb⟩
 .cases h;exact⟨DE.le ha hb,DB.le ha hb⟩
 .cases h;exact⟨DE.gt ha hb,DB.gt ha hb⟩
 .cases h;exact⟨DE.ge ha hb,DB.ge ha hb⟩
 .cases h;exact⟨DE.eqI ha hb,DB.eqI ha hb⟩
 .cases h;exact⟨DE.neI ha hb,DB.neI ha hb⟩
theorem Ep{op:Cop}(hu:X.A.units+100<aV)(h:V2 op da db=a3 k)(ha:DT X ρ a da)(hb:DT X ρ b db)(hm:aH op.op b=a4) :
  DE X ρ (.Compare a [op.op] [b] pos) (.bl k)/\DB X ρ (.Compare a [op.op] [b] pos) k:=by
 have inn:∀{r:Bool->Bool},(match db.sqv with|some (_,l)=>if D.depL l<=90/\da.dep<=90 then a3 (r (l.any λe=>deq e da))else a9|none=>a9)=a3 k->∃s l,DT X ρ b (D.seq s l)/\D.depL l<=98/\da.dep<10000/\k=r (l.any λe=>deq e da):=λ{r} h=>by
  cases e:db.sqv with
  |none=>rw[e]at h;cases h
  |some p =>
   obtain⟨s,l⟩:=p;rw[e]at h;have h:(if D.depL l<=90/\da.dep<=90 then a3 (r (l.any λe=>deq e da))else a9)=a3 k:=h;by_cases z:D.depL l<=90/\da.dep<=90
   .rw[if_pos z]at h;cases h;exact⟨s,l,jd6 e▸hb,by omega,by omega,rfl⟩
   .rw[if_neg z]at h;cases h
 unfold V2 at h;split at h
 .exact j5p h ha hb
 .by_cases z:da.dep<=90/\db.dep<=90
  .rw[if_pos z]at h;cases h;exact⟨DE.eqD hu ha hb nofun nofun,DB.eqD hu ha hb nofun nofun⟩
  .rw[if_neg z]at h;cases h
 .cases h;exact⟨DE.neB ha hb,DB.neB ha hb⟩
 .cases h;exact⟨(DE.neS ha hb).eq (by rw[j29]),(DB.neS ha hb).eq (by rw[j29])⟩
 .cases h;exact⟨(DE.neS ha hb).eq (by simp),(DB.neS ha hb).eq (by simp)⟩
 .rename_i l m;by_cases z:D.depL l<=90/\D.depL m<=90
  .rw[if_pos z]at h;cases h;exact⟨DE.neD a6 hu ha hb nofun nofun,DB.neD a6 hu ha hb nofun nofun⟩
  .rw[if_neg z]at h;cases h
 .rename_i l m;by_cases z:D.depL l<=90/\D.depL m<=90
  .rw[if_pos z]at h;cases h;exact⟨DE.neD a4 hu ha hb nofun nofun,DB.neD a4 hu ha hb nofun nofun⟩
  .rw[if_neg z]at h;cases h
 .cases h;exact⟨DE.inS ha hb hm,DB.inS ha hb hm⟩
 .cases h;exact⟨DE.ltS ha hb,DB.ltS ha hb⟩
 .cases h;exact⟨DE.gtS ha hb,DB.gtS ha hb⟩
 .obtain⟨s,l,hb,hd,nd,e⟩:=inn (r:=id) h;subst e;exact⟨DE.in s hu ha hb hd nd hm,DB.in s hu ha hb hd nd hm⟩
 .obtain⟨s,l,hb,hd,nd,e⟩:=inn (r:=(!·)) h;subst e;exact⟨DE.notIn s hu ha hb hd nd hm,DB.notIn s hu ha hb hd nd hm⟩
 .cases h
theorem DE.shr{i j:Int}(ha:DT X ρ a (.int i))(hb:DT X ρ b (.int j))(h:0<=j):DE X ρ (.BinOp a .RShift b pos) (.int (i/2^j.toNat)):=DE.arI (g:=λi j=>i/2^j.toNat) jhk ha hb h
theorem q8{α:Type}{c:Prop}[Decidable c]{x y:α}(h:(if c then a3 x else a9)=a3 y):c/\x=y:=by
 by_cases z:c
 .rw[if_pos z]at h;exact⟨z,aw h⟩
 .rw[if_neg z]at h;cases h
theorem j5s{op:Bop}{i j n:Int}(h:binI op i j=a3 n)(ha:DT X ρ a (.int i))(hb:DT X ρ b (.int j)):DE X ρ (.BinOp a op.op b pos) (.int n):=by
 cases op
 .cases h;exact DE.add ha hb
 .cases h;exact DE.sub ha hb
 .obtain⟨z,e⟩:=q8 h;subst e;exact DE.mul ha hb z
 .obtain⟨z,e⟩:=q8 h;subst e;exact DE.fdivB ha hb z
 .obtain⟨z,e⟩:=q8 h;subst e;exact DE.mod ha hb z
 .obtain⟨z,e⟩:=q8 h;subst e;exact DE.pow ha hb z
 .obtain⟨z,e⟩:=q8 h;subst e;exact DE.shl ha hb z
 .obtain⟨z,e⟩:=q8 h;subst e;exact DE.shr ha hb z
 .cases h;exact DE.arI0 jhq ha hb
 .cases h;exact DE.arI0 jhi ha hb
theorem zm{n:Nat}(h:jo n=a6):n<=ak:=of_decide_eq_true h
end
section
variable{X:Cx}{ρ:Rho}{a b e:aj}{es:List aj}{d:D}{pos p:aM}
theorem Has.lw:∀{r:Rk}{l:List D},Has X ρ a r->r.lw=a3 l->DL X ρ a l
 |.o l,_,h,q=>by cases q;exact DO.toL h
 |.w l,_,h,q=>by cases q;exact h
 |.e _,_,_,q=>by cases q
 |.t _,_,_,q=>by cases q
theorem j8o{op:Bop}{x y r:Rk}(h:Ut op x y=a3 r)(ha:Has X ρ a x)(hb:Has X ρ b y):Has X ρ (.BinOp a op.op b pos) r:=by
 unfold Ut at h;split at h
 .rename_i i j e1 e2;cases z:binI op i j with
  |none=>rw[z]at h;cases h
  |some n=>rw[z]at h;cases h;exact j5s z (e1▸ha.toT) (e2▸hb.toT)
 .rename_i y z e1 e2;split at h
  .obtain⟨q,e⟩:=q8 h;subst e;exact DE.catS (e1▸ha.toT) (e2▸hb.toT) (zm q)
  .cases h
 .rename_i y k e1 e2;split at h
  .obtain⟨q,e⟩:=q8 h;subst e;exact DE.mulS (e1▸ha.toT) (e2▸hb.toT) q.1 q.2
  .cases h
 .split at h
  .rename_i l m _ e1 e2;obtain⟨z,q⟩:=q8 h;subst q;exact DO.catM (ha.toM e1) (hb.toM e2) (zm z)
  .rename_i l m _ e1 e2;obtain⟨z,q⟩:=q8 h;subst q;exact DE.catTM (ha.toM e1) (hb.toM e2) (zm z)
  .rename_i l k _ _ e1 e3;obtain⟨z,q⟩:=q8 h;subst q;exact DE.repT (ha.toM e1) (e3▸hb.toT) (λe=>by subst e;exact absurd z.2.2.1 (by simp)) z.1 z.2.1 (zm z.2.2.2)
  .rename_i k _ _ _ e3 _;cases e:x.lw with
   |none=>rw[e]at h;cases h
   |some l =>rw[e]at h;obtain⟨z,q⟩:=q8 h;subst q;exact DO.rep (ha.lw e) (e3▸hb.toT) z.1 z.2.1 (zm z.2.2)
  .cases h
theorem Mj:∀{l:List D}{bs:List Bool},boolsOf l=a3 bs->l=bs.map D.bl
 |[],_,h=>by cases h;rfl
 |.bl b::r,bs,h=>by
  unfold boolsOf at h;cases e:boolsOf r with
  |none=>rw[e]at h;cases h
  |some q=>rw[e]at h;cases h;rw[Mj e];rfl
 |.non::_,_,h=>by cases h
 |.int _::_,_,h=>by cases h
 |.str _::_,_,h=>by cases h
 |.tup _::_,_,h=>by cases h
 |.lst _::_,_,h=>by cases h
 |.dct _ _::_,_,h=>by cases h
 |.sct _::_,_,h=>by cases h
 |.fn _ _::_,_,h=>by cases h
theorem Q7:∀{l:List D}{bs:List Int},intsOf l=a3 bs->l=bs.map D.int
 |[],_,h=>by cases h;rfl
 |.int b::r,bs,h=>by
  unfold intsOf at h;cases e:intsOf r with
  |none=>rw[e]at h;cases h
  |some q=>rw[e]at h;cases h;rw[Q7 e];rfl
 |.non::_,_,h=>by cases h
 |.bl _::_,_,h=>by cases h
 |.str _::_,_,h=>by cases h
 |.tup _::_,_,h=>by cases h
 |.lst _::_,_,h=>by cases h
 |.dct _ _::_,_,h=>by cases h
 |.sct _::_,_,h=>by cases h
 |.fn _ _::_,_,h=>by cases h
theorem Mz:∀{l:List D}{bs:List ah},strsOf l=a3 bs->l=bs.map D.str
 |[],_,h=>by cases h;rfl
 |.str b::r,bs,h=>by
  unfold strsOf at h;cases e:strsOf r with
  |none=>rw[e]at h;cases h
  |some q=>rw[e]at h;cases h;rw[Mz e];rfl
 |.non::_,_,h=>by cases h
 |.bl _::_,_,h=>by cases h
 |.int _::_,_,h=>by cases h
 |.tup _::_,_,h=>by cases h
 |.lst _::_,_,h=>by cases h
 |.dct _ _::_,_,h=>by cases h
 |.sct _::_,_,h=>by cases h
 |.fn _ _::_,_,h=>by cases h
theorem vz{w:Option W}{k:Bool}(h:truth w=a3 k):∃r,w=a3 (.v r)/\r.d=.bl k:=by
 unfold truth at h;split at h
 .rename_i r;split at h
  .rename_i q e;cases h;exact⟨r,rfl,e⟩
  .cases h
 .cases h
def jkt(X:Cx)(ρ:Rho):List aj->List Rk->Prop
 |[],[]=>True
 |e::es,r::rs=>(∀y,jc6 r.d=a3 y->DE X ρ e (.str y))/\jkt X ρ es rs
 |_,_=>False
def jkr(Γ:ah->List D->Rc)(G:ah->Option D)(X:Cx)(t:Ex):Nd->Prop
 |.e e=>∀ρ r,ev Γ G t (j8 ρ)=a3 (.v r)->Has X ρ e r
 |.b e=>∀ρ k,truth (ev Γ G t (j8 ρ))=a3 k->DB X ρ e k
 |.w e=>∀ρ k,truth (ev Γ G t (j8 ρ))=a3 k->DW X ρ e k
 |.a es=>∀ρ rs,ev Γ G t (j8 ρ)=a3 (.a rs)->HasA X ρ es rs
 |.i tg it=>∀ρ ds,ev Γ G t (j8 ρ)=a3 (.i ds)->DI X ρ tg it ds
 |.o e=>∀ρ o,Qz (ev Γ G t (j8 ρ))=a3 o->DP X ρ e o
 |.p es=>∀ρ rs,ev Γ G t (j8 ρ)=a3 (.a rs)->jkt X ρ es rs
 |.c ifs=>∀ρ,(ev Γ G t (j8 ρ)=a3 (.a [])->DTs X ρ ifs a6)/\∀y k,ev Γ G t (j8 ρ)=a3 (.a [y])->y.d=.bl k->DTs X ρ ifs k
end
section
variable{Γ:ah->List D->Rc}{G:ah->Option D}{X:Cx}
theorem Nx{is:List Nat}{elt' it' c':Ex}{elt it tg:aj}{ifs:List aj}{scope:b9}{ρ:Rho}{r:Rk}
  (hit:∀ρ ds,ev Γ G it' (j8 ρ)=a3 (.i ds)->DI X ρ tg it ds)
  (hb:∀ρ d ρ2,za is d (j8 ρ)=a3 ρ2->(∀j∈is,ρ[j]?=a3 .un)->∃ρ',j8 ρ'=ρ2/\Wk ρ' ρ/\owns ρ'=owns ρ/\∀C s H fp pn,DG (cCx X scope C s H fp pn) ρ tg d ρ')
  (he:∀C s H fp pn ρ r,ev Γ G elt' (j8 ρ)=a3 (.v r)->Has (cCx X scope C s H fp pn) ρ elt r)
  (hc:∀C s H fp pn ρ,(ev Γ G c' (j8 ρ)=a3 (.a [])->DTs (cCx X scope C s H fp pn) ρ ifs a6)/\∀y k,ev Γ G c' (j8 ρ)=a3 (.a [y])->y.d=.bl k->DTs (cCx X scope C s H fp pn) ρ ifs k)
  (h:ev Γ G (.comp is elt' it' c') (j8 ρ)=a3 (.v r)):∃(l:List D)(ρf:Rho)(ds:List D)(pr:D->Bool)(g:D->D),r=.o l/\l=(ds.filter pr).map g /\
   (ρf=ρ\/(v5 l=a6/\∃(i:Nat)(a:ae)(l':List D),ρ[i]?=a3 (.own a l')/\ρf=ρ.set i (.val (.lst l'))))/\DI X ρf tg it ds/\(∀j∈is,ρf[j]?=a3 .un)/\ds.length<=ak /\
   (∀C s H fp pn,∀d∈ds,∃ρ2,DG (cCx X scope C s H fp pn) ρf tg d ρ2/\Wk ρ2 ρf/\owns ρ2=owns ρf/\DTs (cCx X scope C s H fp pn) ρ2 ifs (pr d)/\(pr d=a6->DE (cCx X scope C s H fp pn) ρ2 elt (g d))):=by
 have fr:∃ρf,j8 ρf=frz it' (j8 ρ)/\((Jj it' (j8 ρ)=a4/\ρf=ρ)\/(Jj it' (j8 ρ)=a6/\∃i a l,ρ[i]?=a3 (.own a l)/\ρf=ρ.set i (.val (.lst l)))):=by
  by_cases z:Jj it' (j8 ρ)=a6
  .unfold Jj at z;split at z
   .rename_i i ei;split at z
    .rename_i l e;obtain⟨a,q⟩:=J2 e;refine⟨ρ.set i (.val (.lst l)),?_,.inr ⟨?_,i,a,l,q,rfl⟩⟩
     .rw[jb];simp only[frz,ei,e,Sl.abs]
     .simp only[Jj,ei,e]
    .cases z
   .cases z
  .have z':Jj it' (j8 ρ)=a4:=by simpa using z
   refine⟨ρ,?_,.inl ⟨z',rfl⟩⟩;unfold frz;split
   .rename_i i ei;split
    .rename_i l e;simp only[Jj,ei,e]at z';cases z'
    .rfl
   .rfl
 obtain⟨ρf,ef,fr⟩:=fr;rw[jkg]at h;rw[<-ef]at h;split at h
 .rename_i ds hds;split at h
  .rename_i hz;obtain⟨hfree,hlen⟩:=hz;generalize hf:(λd=>_:D->Option (Option D))=f at h;cases hl:J4 f ds with
   |none=>rw[hl]at h;cases h
   |some l =>
    rw[hl]at h;have h:(if (Jj it' (j8 ρ) && !v5 l)=a6 then a9 else a3 (W.v (.o l)))=a3 (.v r):=h;by_cases zz:(Jj it' (j8 ρ) && !v5 l)=a6
    .rw[if_pos zz]at h;cases h
    .rw[if_neg zz]at h;cases h;obtain⟨el,hmem⟩:=Lp hl;have hun:∀j∈is,ρf[j]?=a3 .un:=λj hj=>by
      have:=Xy.mp hfree j hj;split at this
      .rename_i e;exact jfy e
      .cases this
     refine⟨l,ρf,ds,_,_,rfl,el,?_,hit ρf ds hds,hun,zm hlen,λC s H fp pn d hd=>?_⟩
     .rcases fr with ⟨_,e⟩|⟨e1,i,a,l',hk,e⟩
      .exact .inl e
      .exact .inr ⟨by rw[e1]at zz;simpa using zz,i,a,l',hk,e⟩
     ·
      obtain⟨o,ho⟩:=hmem d hd;rw[<-hf]at ho ⊢;dsimp only at ho ⊢;cases hb2:za is d (j8 ρf) with
      |none=>rw[hb2]at ho;cases ho
      |some ρ2 =>
       obtain⟨ρ',e',wk,ow,dg⟩:=hb ρf d ρ2 hb2 hun;subst e';refine⟨ρ',dg C s H fp pn,wk,ow,?_⟩;rw[hb2]at ho;dsimp only at ho ⊢;cases hcv:ev Γ G c' (j8 ρ') with
       |none=>rw[hcv]at ho;cases ho
       |some w =>
        rw[hcv]at ho;split at ho
        .rename_i hw;cases hw;cases hev:ev Γ G elt' (j8 ρ') with
         |none=>rw[hev]at ho;cases ho
         |some w =>
          rw[hev]at ho;cases w with
          |i _=>cases ho
          |a _=>cases ho
          |v x =>
           dsimp only at ho ⊢;cases hst:x.st with
           |none=>rw[hst]at ho;cases ho
           |some y =>simp only[hst,jC,iT,eQ,dE];exact⟨((hc C s H fp pn ρ').1 hcv),λ_=>(he C s H fp pn ρ' x hev).toE hst⟩
        .rename_i y hw;cases hw;split at ho
         .rename_i e1;cases hev:ev Γ G elt' (j8 ρ') with
          |none=>rw[hev]at ho;cases ho
          |some w =>
           rw[hev]at ho;cases w with
           |i _=>cases ho
           |a _=>cases ho
           |v x =>
            dsimp only at ho ⊢;cases hst:x.st with
            |none=>rw[hst]at ho;cases ho
            |some z =>simp only[e1,hst,jC,iT,eQ,dE];exact⟨(hc C s H fp pn ρ').2 y a6 hcv e1,λ_=>(he C s H fp pn ρ' x hev).toE hst⟩
         .rename_i e1;simp only[e1,Option.join,kC];exact⟨(hc C s H fp pn ρ').2 y a4 hcv e1,λz=>by cases z⟩
         .cases ho
        .cases ho
  .cases h
 .cases h
theorem Ln{is:List Nat}{elt' it' c':Ex}{elt it tg:aj}{ifs:List aj}{scope:b9}{p:aM}{ρ:Rho}{r:Rk}(hq:X.calm=a6)(hX:Cok X G)
  (hit:∀ρ ds,ev Γ G it' (j8 ρ)=a3 (.i ds)->DI X ρ tg it ds) (hkind:scope.kind=.function) (hok:Q4 scope X.env X.N is=a6) (hs:∀x,aA it X.env x=pure x)
  (hb:∀ρ d ρ2,za is d (j8 ρ)=a3 ρ2->(∀j∈is,ρ[j]?=a3 .un)->∃ρ',j8 ρ'=ρ2/\Wk ρ' ρ/\owns ρ'=owns ρ/\∀C s H fp pn,DG (cCx X scope C s H fp pn) ρ tg d ρ')
  (he:∀C s H fp pn ρ r,ev Γ G elt' (j8 ρ)=a3 (.v r)->Has (cCx X scope C s H fp pn) ρ elt r)
  (hc:∀C s H fp pn ρ,(ev Γ G c' (j8 ρ)=a3 (.a [])->DTs (cCx X scope C s H fp pn) ρ ifs a6)/\∀y k,ev Γ G c' (j8 ρ)=a3 (.a [y])->y.d=.bl k->DTs (cCx X scope C s H fp pn) ρ ifs k)
  (h:ev Γ G (.comp is elt' it' c') (j8 ρ)=a3 (.v r)):∃l,r=.o l/\DO X ρ (.ListComp elt [⟨tg,it,ifs,0⟩] scope p) l:=by
 obtain⟨l,ρf,ds,pr,g,er,el,hf,hi,hun,hz,hb'⟩:=Nx hit hb he hc h;refine⟨l,er,?_⟩;have main:DO X ρf (.ListComp elt [⟨tg,it,ifs,0⟩] scope p) ((ds.filter pr).map g):=DO.comp is _ _ hi hb' hun hz hq hkind hok hs;rw[<-el]at main;rcases hf with e|⟨hn,i,a,l',hk,e⟩
 .subst e;exact main
 .subst e;exact DO.unfrz hk main hn
end
section
variable{X:Cx}{ρ:Rho}{a b e:aj}{es:List aj}{d:D}{pos p:aM}
theorem Has.map(h:∀σ H Q,Qu X a σ H Q->Qu X e σ H Q):∀{r:Rk},Has X ρ a r->Has X ρ e r
 |.e _,q=>λσ H Q R z=>h σ H Q (q σ H Q R z)
 |.o _,q=>λσ H Q R z=>h σ H Q (q σ H Q R z)
 |.w _,q=>λσ H Q R z=>h σ H Q (q σ H Q R z)
 |.t _,q=>λσ H Q R z=>h σ H Q (q σ H Q R z)
theorem Has.bl{r:Rk}{k:Bool}(h:Has X ρ a r)(e:r.d=.bl k):DE X ρ a (.bl k):=DT.toE (e▸h.toT)
theorem Q9{f:Bf}{rs:List Rk}{r:Rk}{p2:aM}{G:ah->Option D}(c:Cok X G)(hq:f=.min\/f=.all\/f=.sum\/f=.any\/f=.max->X.calm=a6)(hg:Gl X f.name)(h:Zi f rs=a3 r)(ha:HasA X ρ es rs):Has X ρ (.Call (.Name f.name p) es [] p2) r:=by
 have one:∀{x:Rk},HasA X ρ es [x]->∃e,es=[e]/\Has X ρ e x/\a8 [e] X.env=[(a4,ay e X.env)]:=λ{x} h=>by cases h with|cons hs h t=>cases t;exact⟨_,rfl,h,hs⟩
 have two:∀{x y:Rk},HasA X ρ es [x,y]->∃e f,es=[e,f]/\Has X ρ e x/\Has X ρ f y/\a8 [e,f] X.env=(a4,ay e X.env)::a8 [f] X.env/\a8 [f] X.env=[(a4,ay f X.env)]:=λ{x y} h=>by cases h with|cons hs h t=>cases t with|cons hs2 h2 t2=>cases t2;exact⟨_,_,rfl,h,h2,hs,hs2⟩
 unfold Zi at h;split at h
 .rename_i x;obtain⟨e,ee,hx,hs⟩:=one ha;subst ee;split at h
  .rename_i l el;cases h;exact DE.lenL (el▸hx.toT) (c.bt _ (by decide)) hg hs
  .rename_i l el;cases h;exact DE.lenT (el▸hx.toT) (c.bt _ (by decide)) hg hs
  .rename_i y el;obtain⟨z,q⟩:=q8 h;subst q;exact DE.lenS (el▸hx.toT) (zm z) (c.bt _ (by decide)) hg hs
  .cases h
 .rename_i x y;obtain⟨e,f,ee,hx,hy,hs,hs2⟩:=two ha;subst ee;split at h
  .rename_i i j ei ej;cases h;exact DE.min (ei▸hx.toT) (ej▸hy.toT) (c.bt _ (by decide)) (hq (.inl rfl)) hg hs hs2 (by rw[hs2];rfl)
  .cases h
 .rename_i x y;obtain⟨e,f,ee,hx,hy,hs,hs2⟩:=two ha;subst ee;split at h
  .rename_i i j ei ej;cases h;exact DE.max2 (ei▸hx.toT) (ej▸hy.toT) (c.bt _ (by decide)) (hq (.inr (.inr (.inr (.inr rfl))))) hg hs hs2 (by rw[hs2];rfl)
  .cases h
 .rename_i x;obtain⟨e,ee,hx,hs⟩:=one ha;subst ee;split at h
  .rename_i l el;split at h
   .rename_i ns en;obtain⟨z,q⟩:=q8 h;cases q;have:=Q7 en;subst this;exact DE.maxL (el▸hx.toT) (λz'=>by subst z';simp at z) (c.bt _ (by decide)) (hq (.inr (.inr (.inr (.inr rfl))))) hg hs
   .cases h
  .cases h
 .rename_i x;obtain⟨e,ee,hx,hs⟩:=one ha;subst ee;split at h
  .rename_i l el;split at h
   .rename_i ns en;obtain⟨z,q⟩:=q8 h;cases q;have:=Q7 en;subst this;exact DE.minL (el▸hx.toT) (λz'=>by subst z';simp at z) (c.bt _ (by decide)) (hq (.inl rfl)) hg hs
   .cases h
  .cases h
 .rename_i x;obtain⟨e,ee,hx,hs⟩:=one ha;subst ee;split at h
  .rename_i l el;cases q:boolsOf l with
   |none=>rw[q]at h;cases h
   |some bs =>rw[q]at h;cases h;have:=Mj q;subst this;exact DE.all (el▸hx.toT) (c.bt _ (by decide)) (hq (.inr (.inl rfl))) hg hs
  .cases h
 .rename_i x;obtain⟨e,ee,hx,hs⟩:=one ha;subst ee;split at h
  .rename_i l el;cases q:boolsOf l with
   |none=>rw[q]at h;cases h
   |some bs =>rw[q]at h;cases h;have:=Mj q;subst this;exact DE.any (el▸hx.toT) (c.bt _ (by decide)) (hq (.inr (.inr (.inr (.inl rfl))))) hg hs
  .cases h
 .rename_i x;obtain⟨e,ee,hx,hs⟩:=one ha;subst ee;split at h
  .rename_i s l el;cases h;exact DE.tupM (hx.toM el) (c.bt _ (by decide)) hg hs
  .cases h
 .rename_i x;obtain⟨e,ee,hx,hs⟩:=one ha;subst ee;split at h
  .rename_i s l el;cases h;exact DO.listM (hx.toM el) (c.bt _ (by decide)) hg hs
  .cases h
 .rename_i x;obtain⟨e,ee,hx,hs⟩:=one ha;subst ee;split at h
  .rename_i l el;cases q:intsOf l with
   |none=>rw[q]at h;cases h
   |some ns =>rw[q]at h;cases h;have:=Q7 q;subst this;exact DE.sum a6 (show DT X ρ e (.lst (ns.map D.int))from el▸hx.toT) (c.bt _ (by decide)) (hq (.inr (.inr (.inl rfl)))) hg hs
  .rename_i l el;cases q:intsOf l with
   |none=>rw[q]at h;cases h
   |some ns =>rw[q]at h;cases h;have:=Q7 q;subst this;exact DE.sum a4 (show DT X ρ e (.tup (ns.map D.int))from el▸hx.toT) (c.bt _ (by decide)) (hq (.inr (.inr (.inl rfl)))) hg hs
  .cases h
 .rename_i x;obtain⟨e,ee,hx,hs⟩:=one ha;subst ee;split at h
  .rename_i k el;cases h;exact DE.int1 (el▸hx.toT) (c.bt _ (by decide)) hg hs
  .cases h
 .cases h
end
section
variable{Γ:ah->List D->Rc}{G:ah->Option D}{X:Cx}
theorem j3g{d:D}{ns:List Int}(h:tupI d=a3 ns):d=.tup (ns.map D.int):=by
 unfold tupI at h;split at h
 .rw[Q7 h]
 .cases h
theorem j0p:∀{l:List D}{ks:List (List Int)},Be l=a3 ks->l=ks.map λk=>D.tup (k.map D.int)
 |[],ks,h=>by cases h;rfl
 |d::l,ks,h=>by
  unfold Be at h;split at h
  .rename_i k ks' e1 e2;cases h;rw[j3g e1,j0p e2];rfl
  .cases h
theorem j5q {ρ:Rho} {f:ah} {e:aj} {es:List aj} {rs:List Rk} {r:Rk} {p p2:aM} (g:Gok X Γ) (hg:Gl X f) (hdb:(f==k9h)=a4) (he:a8 (e::es) X.env=(a4,ay e X.env)::a8 es X.env)
  (hpl:(aL p2 (a8 es X.env)).any (·.1)=a4) (ha:HasA X ρ (e::es) rs)
  (h:(match zq rs with|some ds=>(Γ f ds).rk.map W.v|none=>match Γ f (rs.map Rk.d)with|.val d=>a3 (.v (.t d))|_=>a9)=a3 (.v r)):Has X ρ (.Call (.Name f p) (e::es) [] p2) r:=by
 split at h
 .rename_i ds hds;have q:=g f ds;cases z:Γ f ds with
  |val d=>rw[z]at h q;cases h;exact DE.call q (ha.toA hds) ⟨rfl,rfl⟩ hg hdb he hpl
  |fresh l=>rw[z]at h q;cases h;exact DO.call q (ha.toA hds) ⟨rfl,rfl⟩ hg hdb he hpl
  |err x=>rw[z]at h;cases h
  |lval d=>rw[z]at h;cases h
  |no=>rw[z]at h;cases h
 .have q:=g f (rs.map Rk.d);split at h
  .rename_i d z;rw[z]at q;cases h;exact DT.call q ha.toT ⟨rfl,rfl⟩ hg hdb he hpl
  .cases h
end
def XM(X:Cx)(ρ:Rho)(y:ah):Nd->Prop
 |.e e=>DX X ρ e y
 |.a es=>DXA X ρ es y
 |_=>True
structure Tr(X:Cx)(t:Ex)(nd:Nd):Prop where
 m:∀(Γ:ah->List D->Rc)(G:ah->Option D),Cok X G->Gok X Γ->jkr Γ G X t nd
 x:∀(Γ:ah->List D->Rc)(G:ah->Option D),Cok X G->Gok X Γ->∀ρ y,er Γ G t (j8 ρ)=a3 y->XM X ρ y nd
theorem Tr.int:∀{X:Cx}{i:Int}{n:Nat}{p:aM},Tr X (.lit (.int i)) (.e (.Constant (.int i) n p)):=by intro _ _ _ _;refine⟨λΓ G=>?_,λ_ _ _ _ _ _ h=>nomatch h⟩;intro _ _ ρ r h;simp only[j0k]at h;cases h;exact DE.int
theorem Tr.bl:∀{X:Cx}{b:Bool}{n:Nat}{p:aM},Tr X (.lit (.bl b)) (.e (.Constant (.bool b) n p)):=by intro _ _ _ _;refine⟨λΓ G=>?_,λ_ _ _ _ _ _ h=>nomatch h⟩;intro _ _ ρ r h;simp only[j0k]at h;cases h;exact DE.bl
theorem Tr.non:∀{X:Cx}{n:Nat}{p:aM},Tr X (.lit .non) (.e (.Constant .none n p)):=by intro _ _ _;refine⟨λΓ G=>?_,λ_ _ _ _ _ _ h=>nomatch h⟩;intro _ _ ρ r h;simp only[j0k]at h;cases h;exact DE.non
theorem Tr.str:∀{X:Cx}{y:ah}{n:Nat}{p:aM},Tr X (.lit (.str y)) (.e (.Constant (.str y) n p)):=by intro _ _ _ _;refine⟨λΓ G=>?_,λ_ _ _ _ _ _ h=>nomatch h⟩;intro _ _ ρ r h;simp only[j0k]at h;cases h;exact DE.str
theorem Tr.var:∀{X:Cx}{k:Nat}{x:ah}{p:aM}(hN:X.N[k]?=a3 x) (hv:Vis X.env.scope x) (hd:(x==k9h)=a4) (hcd:(x==k9i)=a4),Tr X (.var k) (.e (.Name x p)):=by
 intro _ _ _ _ hN hv hd hcd;refine⟨λΓ G=>?_,λ_ _ _ _ _ _ h=>nomatch h⟩;intro _ _ ρ r h;simp only[jmf,K1]at h;split at h
 .rename_i e;cases h;exact DE.var _ (Uv e) hN hv hd hcd
 .rename_i e;cases h;obtain⟨a,q⟩:=J2 e;exact DL.var _ q hN hv hd hcd
 .cases h
theorem Tr.glob:∀{X:Cx}{x:ah}{p:aM}(hg:Gl X x)(hd:(x==k9h)=a4) (hb:Yh x=a4),Tr X (.glob x) (.e (.Name x p)):=by
 intro _ _ _ hg hd hb;refine⟨λΓ G=>?_,λ_ _ _ _ _ _ h=>nomatch h⟩;rename_i X x p;intro c _ ρ r h;simp only[jkd]at h;cases e:G x with
 |none=>rw[e]at h;cases h
 |some d=>rw[e]at h;cases h;obtain⟨u,v,hm,r,q⟩:=c.gl x d hb e;exact DE.glob hg hm r q hd
theorem Tr.bin:∀{X:Cx}{op:Bop}{a' b':Ex}{a b:aj}{p:aM},Tr X a' (.e a)->Tr X b' (.e b)->Tr X (.bin op a' b') (.e (.BinOp a op.op b p)):=by
 intro _ _ _ _ _ _ _ q0 q1;refine⟨λΓ G=>?_,λ_ _ _ _ _ _ h=>nomatch h⟩;have iha:=q0.m Γ G;have ihb:=q1.m Γ G;intro c g ρ r h;simp only[jmm,Qo]at h;split at h
 .rename_i x y ex ey;cases e:Ut _ x y with
  |none=>rw[e]at h;cases h
  |some z=>rw[e]at h;cases h;exact j8o e (iha c g ρ x ex) (ihb c g ρ y ey)
 .cases h
theorem Tr.neg:∀{X:Cx}{a':Ex}{a:aj}{p:aM},Tr X a' (.e a)->Tr X (.neg a') (.e (.UnaryOp .USub a p)):=by
 intro _ _ _ _ q0;refine⟨λΓ G=>?_,λ_ _ _ _ _ _ h=>nomatch h⟩;have iha:=q0.m Γ G;intro c g ρ r h;simp only[jmi,j1o]at h;split at h
 .rename_i x ex;split at h
  .rename_i i e;cases h;exact DE.neg (e▸(iha c g ρ x ex).toT)
  .cases h
 .cases h
theorem Tr.cmp:∀{X:Cx}{op:Cop}{a' b':Ex}{a b:aj}{p:aM}(hm:aH op.op b=a4),Tr X a' (.e a)->Tr X b' (.e b)->Tr X (.cmp op a' b') (.e (.Compare a [op.op] [b] p)):=by
 intro _ _ _ _ _ _ _ hm q0 q1;refine⟨λΓ G=>?_,λ_ _ _ _ _ _ h=>nomatch h⟩;have iha:=q0.m Γ G;have ihb:=q1.m Γ G;intro c g ρ r h;simp only[jcq,Ij]at h;split at h
 .rename_i x y ex ey;cases e:V2 _ x.d y.d with
  |none=>rw[e]at h;cases h
  |some z=>rw[e]at h;cases h;exact(Ep c.un' e (iha c g ρ x ex).toT (ihb c g ρ y ey).toT hm).1
 .cases h
theorem Tr.bcmp:∀{X:Cx}{op:Cop}{a' b':Ex}{a b:aj}{p:aM}(hm:aH op.op b=a4),Tr X a' (.e a)->Tr X b' (.e b)->Tr X (.cmp op a' b') (.b (.Compare a [op.op] [b] p)):=by
 intro _ _ _ _ _ _ _ hm q0 q1;refine⟨λΓ G=>?_,λ_ _ _ _ _ _ _=>trivial⟩;have iha:=q0.m Γ G;have ihb:=q1.m Γ G;intro c g ρ k h;obtain⟨r,h,hk⟩:=vz h;simp only[jcq,Ij]at h;split at h
 .rename_i x y ex ey;cases e:V2 _ x.d y.d with
  |none=>rw[e]at h;cases h
  |some z=>rw[e]at h;cases h;cases hk;exact(Ep c.un' e (iha c g ρ x ex).toT (ihb c g ρ y ey).toT hm).2
 .cases h
theorem Tr.isN:∀{X:Cx}{a':Ex}{a:aj}{n:Nat}{p p2:aM},Tr X a' (.e a)->Tr X (.isN a') (.e (.Compare a [.Is] [.Constant .none n p2] p)):=by
 intro _ _ _ _ _ _ q0;refine⟨λΓ G=>?_,λ_ _ _ _ _ _ h=>nomatch h⟩;have iha:=q0.m Γ G;intro c g ρ r h;simp only[j0l]at h;split at h
 .rename_i x ex;cases h;exact DE.isN (iha c g ρ x ex).toT
 .cases h
theorem Tr.bisN:∀{X:Cx}{a':Ex}{a:aj}{n:Nat}{p p2:aM},Tr X a' (.e a)->Tr X (.isN a') (.b (.Compare a [.Is] [.Constant .none n p2] p)):=by
 intro _ _ _ _ _ _ q0;refine⟨λΓ G=>?_,λ_ _ _ _ _ _ _=>trivial⟩;have iha:=q0.m Γ G;intro c g ρ k h;obtain⟨r,h,hk⟩:=vz h;simp only[j0l]at h;split at h
 .rename_i x ex;cases h;cases hk;exact DB.isN (iha c g ρ x ex).toT
 .cases h
theorem Tr.isNN:∀{X:Cx}{a':Ex}{a:aj}{n:Nat}{p p2:aM},Tr X a' (.e a)->Tr X (.not (.isN a')) (.e (.Compare a [.IsNot] [.Constant .none n p2] p)):=by
 intro _ _ _ _ _ _ q0;refine⟨λΓ G=>?_,λ_ _ _ _ _ _ h=>nomatch h⟩;have iha:=q0.m Γ G;intro c g ρ r h;simp only[j5w,j0l]at h;cases e:truth _ with
 |none=>rw[e]at h;cases h
 |some k =>
  rw[e]at h;cases h;obtain⟨x,ex,ed⟩:=vz e;split at ex
  .rename_i y ey;cases ex;cases ed;exact DE.isNotN (iha c g ρ y ey).toT
  .cases ex
theorem Tr.bisNN:∀{X:Cx}{a':Ex}{a:aj}{n:Nat}{p p2:aM},Tr X a' (.e a)->Tr X (.not (.isN a')) (.b (.Compare a [.IsNot] [.Constant .none n p2] p)):=by
 intro _ _ _ _ _ _ q0;refine⟨λΓ G=>?_,λ_ _ _ _ _ _ _=>trivial⟩;have iha:=q0.m Γ G;intro c g ρ k h;obtain⟨r,h,hk⟩:=vz h;simp only[j5w,j0l]at h;cases e:truth _ with
 |none=>rw[e]at h;cases h
 |some k =>
  rw[e]at h;cases h;cases hk;obtain⟨x,ex,ed⟩:=vz e;split at ex
  .rename_i y ey;cases ex;cases ed;exact DB.isNotN (iha c g ρ y ey).toT
  .cases ex
theorem Tr.one:∀{X:Cx}{a':Ex}{a:aj}{op:BoolOp}{p:aM},Tr X a' (.e a)->Tr X a' (.e (.BoolOp op [a] p)):=by intro _ _ _ _ _ q0;refine⟨λΓ G=>?_,λΓ G c g ρ y h σ H Q R k=>(j6z peS).to (q0.x Γ G c g ρ y h σ H Q R k)⟩;have iha:=q0.m Γ G;intro c g ρ r h;exact Has.map (λσ H Q q=>(j6z peS).to q) (iha c g ρ r h)
theorem Tr.and:∀{X:Cx}{a' t':Ex}{a b:aj}{rest:List aj}{p:aM},Tr X a' (.e a)->Tr X t' (.e (.BoolOp .And (b::rest) p))->Tr X (.and a' t') (.e (.BoolOp .And (a::b::rest) p)):=by
 intro _ _ _ _ _ _ _ q0 q1;refine⟨λΓ G=>?_,λ_ _ _ _ _ _ h=>nomatch h⟩;have iha:=q0.m Γ G;have ihb:=q1.m Γ G;intro c g ρ r h;simp only[jcr]at h;split at h
 .rename_i e;cases h;obtain⟨x,ex,ed⟩:=vz e;exact(DE.and (m:=a4) ((iha c g ρ x ex).bl ed).toT λz=>by cases z)
 .rename_i e;obtain⟨x,ex,ed⟩:=vz e;cases e2:truth (ev Γ G _ (j8 ρ)) with
  |none=>rw[e2]at h;cases h
  |some k =>rw[e2]at h;cases h;obtain⟨y,ey,fd⟩:=vz e2;exact(DE.and ((iha c g ρ x ex).bl ed).toT λ_=>(ihb c g ρ y ey).bl fd).eq (by simp)
 .cases h
theorem Tr.wand1:∀{X:Cx}{a':Ex}{a:aj}{p:aM},Tr X a' (.b a)->Tr X a' (.w (.BoolOp .And [a] p)):=by intro _ _ _ _ q0;refine⟨λΓ G=>?_,λ_ _ _ _ _ _ _=>trivial⟩;have iha:=q0.m Γ G;intro c g ρ k h;exact DW.and1 (iha c g ρ k h)
theorem Tr.wor1:∀{X:Cx}{a':Ex}{a:aj}{p:aM},Tr X a' (.b a)->Tr X a' (.w (.BoolOp .Or [a] p)):=by intro _ _ _ _ q0;refine⟨λΓ G=>?_,λ_ _ _ _ _ _ _=>trivial⟩;have iha:=q0.m Γ G;intro c g ρ k h;exact DW.or1 (iha c g ρ k h)
theorem Tr.wand:∀{X:Cx}{a' t':Ex}{a b:aj}{rest:List aj}{p:aM},Tr X a' (.b a)->Tr X t' (.w (.BoolOp .And (b::rest) p))->Tr X (.and a' t') (.w (.BoolOp .And (a::b::rest) p)):=by
 intro _ _ _ _ _ _ _ q0 q1;refine⟨λΓ G=>?_,λ_ _ _ _ _ _ _=>trivial⟩;have iha:=q0.m Γ G;have ihb:=q1.m Γ G;intro c g ρ k h;obtain⟨r,h,hk⟩:=vz h;simp only[jcr]at h;split at h
 .rename_i e;cases h;cases hk;exact DW.and (m:=a4) (iha c g ρ a4 e) λz=>by cases z
 .rename_i e;cases e2:truth (ev Γ G _ (j8 ρ)) with
  |none=>rw[e2]at h;cases h
  |some m =>rw[e2]at h;cases h;cases hk;have q:=DW.and (iha c g ρ a6 e) λ_=>ihb c g ρ _ e2;rw[dF]at q;exact q
 .cases h
theorem Tr.wor:∀{X:Cx}{a' t':Ex}{a b:aj}{rest:List aj}{p:aM},Tr X a' (.b a)->Tr X t' (.w (.BoolOp .Or (b::rest) p))->Tr X (.or a' t') (.w (.BoolOp .Or (a::b::rest) p)):=by
 intro _ _ _ _ _ _ _ q0 q1;refine⟨λΓ G=>?_,λ_ _ _ _ _ _ _=>trivial⟩;have iha:=q0.m Γ G;have ihb:=q1.m Γ G;intro c g ρ k h;obtain⟨r,h,hk⟩:=vz h;simp only[jo7]at h;split at h
 .rename_i e;cases h;cases hk;exact DW.or (m:=a4) (iha c g ρ a6 e) λz=>by cases z
 .rename_i e;cases e2:truth (ev Γ G _ (j8 ρ)) with
  |none=>rw[e2]at h;cases h
  |some m =>rw[e2]at h;cases h;cases hk;have q:=DW.or (iha c g ρ a4 e) λ_=>ihb c g ρ _ e2;rw[kE]at q;exact q
 .cases h
theorem Tr.bw:∀{X:Cx}{a':Ex}{op:BoolOp}{es:List aj}{p:aM},Tr X a' (.w (.BoolOp op es p))->Tr X a' (.b (.BoolOp op es p)):=by intro _ _ _ _ _ q0;refine⟨λΓ G=>?_,λ_ _ _ _ _ _ _=>trivial⟩;have iha:=q0.m Γ G;intro c g ρ k h;exact DW.toB (iha c g ρ k h)
theorem Tr.bnot:∀{X:Cx}{a':Ex}{a:aj}{p:aM},Tr X a' (.b a)->Tr X (.not a') (.b (.UnaryOp .Not a p)):=by
 intro _ _ _ _ q0;refine⟨λΓ G=>?_,λ_ _ _ _ _ _ _=>trivial⟩;have iha:=q0.m Γ G;intro c g ρ k h;obtain⟨r,h,hk⟩:=vz h;simp only[j5w]at h;cases e:truth (ev Γ G _ (j8 ρ)) with
 |none=>rw[e]at h;cases h
 |some m=>rw[e]at h;cases h;cases hk;exact DB.not (iha c g ρ m e)
theorem Tr.bval:∀{X:Cx}{a':Ex}{a:aj}(he:∀whole,fM a X.env whole=(do let v <-whole;fY a.pos;cF [v] (truthy v))),Tr X a' (.e a)->Tr X a' (.b a):=by intro _ _ _ he q0;refine⟨λΓ G=>?_,λ_ _ _ _ _ _ _=>trivial⟩;have iha:=q0.m Γ G;intro c g ρ k h;obtain⟨r,h,hk⟩:=vz h;exact DB.val ((iha c g ρ r h).bl hk).toT he
theorem Tr.ite:∀{X:Cx}{c' a' b':Ex}{c a b:aj}{p:aM},Tr X c' (.b c)->Tr X a' (.e a)->Tr X b' (.e b)->Tr X (.ite c' a' b') (.e (.IfExp c a b p)):=by
 intro _ _ _ _ _ _ _ _ q0 q1 q2;refine⟨λΓ G=>?_,λ_ _ _ _ _ _ h=>nomatch h⟩;have ihc:=q0.m Γ G;have iha:=q1.m Γ G;have ihb:=q2.m Γ G;intro c g ρ r h;simp only[jmk]at h;split at h
 .rename_i e;split at h
  .rename_i x ex;cases es:x.st with
   |none=>rw[es]at h;cases h
   |some d=>rw[es]at h;cases h;exact(DE.ite (d':=d) (ihc c g ρ a6 e) (λ_=>(iha c g ρ x ex).toE es) λz=>by cases z).eq (by simp)
  .cases h
 .rename_i e;split at h
  .rename_i x ex;cases es:x.st with
   |none=>rw[es]at h;cases h
   |some d=>rw[es]at h;cases h;exact(DE.ite (d:=d) (ihc c g ρ a4 e) (λz=>by cases z) λ_=>(ihb c g ρ x ex).toE es).eq (by simp)
  .cases h
 .cases h
theorem Tr.nil:∀{X:Cx},Tr X .nil (.a []):=by intro _;refine⟨λΓ G=>?_,λ_ _ _ _ _ _ h=>nomatch h⟩;intro c g ρ rs h;simp only[Nf]at h;cases h;exact .nil
theorem Tr.cons:∀{X:Cx}{a' b':Ex}{a:aj}{es:List aj}(hs:a8 (a::es) X.env=(a4,ay a X.env)::a8 es X.env),Tr X a' (.e a)->Tr X b' (.a es)->Tr X (.cons a' b') (.a (a::es)):=by
 intro _ _ _ _ _ hs q0 q1;refine⟨λΓ G=>?_,λΓ G=>?_⟩
 .have iha:=q0.m Γ G;have ihb:=q1.m Γ G;intro c g ρ rs h;simp only[Ly,consW]at h;split at h
  .rename_i x xs ex exs;cases h;exact .cons hs (iha c g ρ x ex) (ihb c g ρ xs exs)
  .cases h
 .skip
  intro c g ρ y h;rw[er]at h;split at h
  .rename_i x ex;cases h;exact DXA.head (q0.x Γ G c g ρ _ ex) hs
  split at h
  .rename_i r ez;exact DXA.tail (q0.m Γ G c g ρ r ez).toT (q1.x Γ G c g ρ y h) hs
  .cases h
theorem Tr.tup:∀{X:Cx}{es':Ex}{es:List aj}{n:Nat}{p:aM},Tr X es' (.a es)->Tr X (.tup es') (.e (.Tuple es n p)):=by
 intro _ _ _ _ _ q0;refine⟨λΓ G=>?_,λ_ _ _ _ _ _ h=>nomatch h⟩;have iha:=q0.m Γ G;intro c g ρ r h;simp only[jmg,Yj]at h;split at h
 .rename_i rs ers;split at h
  .rename_i ds hds;obtain⟨z,q⟩:=q8 h;cases q;exact DE.tup (n:=0) ((iha c g ρ rs ers).toA hds) (zm z)
  .cases h
 .cases h
theorem Tr.lst:∀{X:Cx}{es':Ex}{es:List aj}{p:aM},Tr X es' (.a es)->Tr X (.lst es') (.e (.List es p)):=by
 intro _ _ _ _ q0;refine⟨λΓ G=>?_,λ_ _ _ _ _ _ h=>nomatch h⟩;have iha:=q0.m Γ G;intro c g ρ r h;simp only[jmj,Zd]at h;split at h
 .rename_i rs ers;split at h
  .rename_i ds hds;obtain⟨z,q⟩:=q8 h;cases q;exact DO.lst ((iha c g ρ rs ers).toA hds) (zm z)
  .cases h
 .cases h
theorem Tr.ix:∀{X:Cx}{a' b':Ex}{a b:aj}{p:aM}(hs:U7 b),Tr X a' (.e a)->Tr X b' (.e b)->Tr X (.ix a' b') (.e (.Subscript a b p)):=by
 intro _ _ _ _ _ _ hs q0 q1;refine⟨λΓ G=>?_,λΓ G c g ρ y h σ H Q R k=>(Cu j7g peS peS hs).to (q0.x Γ G c g ρ y (by rw[er]at h;exact h) σ H _ R k)⟩;have iha:=q0.m Γ G;have ihb:=q1.m Γ G;intro c g ρ r h;simp only[jo8,ixW]at h;split at h
 .rename_i x y ex ey;split at h
  .rename_i s l i hx hy;cases z:atI l i with
   |none=>rw[z]at h;cases h
   |some d=>rw[z]at h;cases h;exact DE.ixM ((iha c g ρ x ex).toM hx) (hy▸(ihb c g ρ y ey).toT) z hs
  .rename_i i hx hy;split at h
   .rename_i y' ed;split at h
    .rename_i hl;cases z:atI y'.cps.toList i with
     |none=>rw[z]at h;cases h
     |some d=>rw[z]at h;cases h;exact DE.ixC (ed▸(iha c g ρ x ex).toT) (hy▸(ihb c g ρ y ey).toT) (zm hl) z hs
    .cases h
   .cases h
  .cases h
 .cases h
theorem Tr.oN:∀{X:Cx},Tr X .nil (.o a9):=by intro _;refine⟨λΓ G=>?_,λ_ _ _ _ _ _ _=>trivial⟩;intro c g ρ o h;simp only[Nf,Qz]at h;cases h;exact DP.none
theorem Tr.oS:∀{X:Cx}{a':Ex}{a:aj},Tr X a' (.e a)->Tr X (.cons a' .nil) (.o (a3 a)):=by
 intro _ _ _ q0;refine⟨λΓ G=>?_,λ_ _ _ _ _ _ _=>trivial⟩;have iha:=q0.m Γ G;intro c g ρ o h;simp only[Ly,Nf,consW]at h;split at h
 .rename_i x xs ex exs;cases exs;simp only[Qz]at h;split at h
  .rename_i i ei;cases h;exact DP.some (ei▸(iha c g ρ x ex).toT)
  .cases h
 .cases h
theorem Tr.sl:∀{X:Cx}{a' l' h':Ex}{a:aj}{lo hi:Option aj}{p p2:aM},Tr X a' (.e a)->Tr X l' (.o lo)->Tr X h' (.o hi)->Tr X (.sl a' l' h') (.e (.Subscript a (.Slice lo hi a9 p2) p)):=by
 intro _ _ _ _ _ _ _ _ _ q0 q1 q2;refine⟨λΓ G=>?_,λ_ _ _ _ _ _ h=>nomatch h⟩;have iha:=q0.m Γ G;have ihl:=q1.m Γ G;have ihh:=q2.m Γ G;intro c g ρ r h;simp only[jo6]at h;split at h
 .rename_i x l hh ex el eh;split at h
  .rename_i ds e;cases h;exact DO.sliceM ((iha c g ρ x ex).toM e) (ihl c g ρ l el) (ihh c g ρ hh eh)
  .rename_i ds e;split at h
   .cases h
   .rename_i z;cases h;exact DE.sliceM ((iha c g ρ x ex).toM e) (ihl c g ρ l el) (ihh c g ρ hh eh) z
  .split at h
   .rename_i y' ed;obtain⟨z,q⟩:=q8 h;cases q;exact DE.sliceS (ed▸(iha c g ρ x ex).toT) (ihl c g ρ l el) (ihh c g ρ hh eh) (zm z)
   .cases h
 .cases h
theorem Tr.call:∀{X:Cx}{f:ah}{es':Ex}{e:aj}{es:List aj}{p p2:aM}(hg:Gl X f) (hdb:(f==k9h)=a4) (he:a8 (e::es) X.env=(a4,ay e X.env)::a8 es X.env) (hpl:(aL p2 (a8 es X.env)).any (·.1)=a4),Tr X es' (.a (e::es))->Tr X (.call f es') (.e (.Call (.Name f p) (e::es) [] p2)):=by
 intro _ f _ _ _ _ _ hg hdb he hpl q0;refine⟨λΓ G=>?_,λΓ G=>?_⟩
 .have iha:=q0.m Γ G;intro c g ρ r h;simp only[jkh,Z8]at h;split at h
  .rename_i rs ers;exact j5q g hg hdb he hpl (iha c g ρ rs ers) h
  .cases h
 .skip
  intro c g ρ y h;rw[er]at h;split at h
  .rename_i x ex;split at h
   .rename_i hz;cases h;obtain⟨d,hd⟩:=Xz.mp hz;obtain⟨fa,hfa,hk⟩:=c.fn _ d hd;exact DX.args (q0.x Γ G c g ρ _ ex) hg hdb hfa hk he hpl
   .cases h
  split at h
  .rename_i rs ers;split at h
   .rename_i z ez;split at h
    .rename_i hz;cases h;have q:=g f (rs.map Rk.d);rw[ez]at q;obtain⟨d,hd⟩:=Xz.mp hz;obtain⟨_,o,ho⟩:=c.ec _ d hd;exact DX.call q (q0.m Γ G c g ρ rs ers).toT ⟨rfl,rfl⟩ (W.mg_of c.kin c.ns ho) hg hdb he hpl
    .cases h
   .cases h
  .cases h
theorem Tr.chn:∀{X:Cx}{a' b' c':Ex}{a b c:aj}{p:aM}(hm:lz [.Lt,.Lt] [b,c]=a4),Tr X a' (.e a)->Tr X b' (.e b)->Tr X c' (.e c)->Tr X (.chn a' b' c') (.e (.Compare a [.Lt,.Lt] [b,c] p)):=by
 intro _ _ _ _ _ _ _ _ hm q0 q1 q2;refine⟨λΓ G=>?_,λ_ _ _ _ _ _ h=>nomatch h⟩;have iha:=q0.m Γ G;have ihb:=q1.m Γ G;have ihc:=q2.m Γ G;intro c g ρ r h;simp only[jml,j2f]at h;split at h
 .rename_i x y z ex ey ez;split at h
  .rename_i i j k ei ej ek;cases h;exact DE.chn (ei▸(iha c g ρ x ex).toT) (ej▸(ihb c g ρ y ey).toT) (ek▸(ihc c g ρ z ez).toT) hm
  .cases h
 .cases h
theorem Tr.callD:∀{X:Cx}{f:ah}{es':Ex}{e:aj}{es:List aj}{p p2:aM}(hf:f∈Ii) (hg:Gl X f) (hdb:(f==k9h)=a4) (he:a8 (e::es) X.env=(a4,ay e X.env)::a8 es X.env) (hpl:(aL p2 (a8 es X.env)).any (·.1)=a4),Tr X es' (.a (e::es))->Tr X (.callD f es') (.e (.Call (.Name f p) (e::es) [] p2)):=by
 intro _ f _ _ _ _ _ hf hg hdb he hpl q0;refine⟨λΓ G=>?_,λ_ _ _ _ _ _ h=>nomatch h⟩;have iha:=q0.m Γ G;intro c g ρ r h;simp only[jg3]at h;split at h
 .rename_i rs ers;split at h
  .rename_i ds eds;split at h
   .rename_i d ed;cases h;have q:=g f (ds++[.non]);rw[ed]at q;exact DE.callD q hf ((iha c g ρ rs ers).toA eds) ⟨rfl,rfl⟩ hg hdb he hpl
   .cases h
  .cases h
 .cases h
theorem Tr.callK:∀{X:Cx}{f:ah}{es' a':Ex}{a e:aj}{es:List aj}{p p2 pk:aM}(hf:f∈Ii) (hg:Gl X f) (hdb:(f==k9h)=a4) (hall:(aT p2 (aD [⟨a3 "prices",a,pk⟩] X.env)).all (·.1.isSome)=a6) (hks:(aT p2 (aD [⟨a3 "prices",a,pk⟩] X.env)).filterMap (·.1)=(["prices"]:List ah)) (he:a8 (e::es) X.env=(a4,ay e X.env)::a8 es X.env) (hpl:((aL p2 (a8 (e::es) X.env)).any (·.1) || (aT p2 (aD [⟨a3 "prices",a,pk⟩] X.env)).any (·.1.isNone))=a4),Tr X es' (.a (e::es))->Tr X a' (.e a)->Tr X (.callK f es' a') (.e (.Call (.Name f p) (e::es) [⟨a3 "prices",a,pk⟩] p2)):=by
 intro _ f _ _ _ _ _ _ _ _ hf hg hdb hall hks he hpl q0 q1;refine⟨λΓ G=>?_,λ_ _ _ _ _ _ h=>nomatch h⟩;have iha:=q0.m Γ G;have ihb:=q1.m Γ G;intro c g ρ r h;simp only[jg2]at h;split at h
 .rename_i rs x ers ex;split at h
  .rename_i ds d' eds ed';split at h
   .rename_i d ed;cases h;have q:=g f (ds++[d']);rw[ed]at q;exact DE.callK q hf ((iha c g ρ rs ers).toA eds) ((ihb c g ρ x ex).toE ed') ⟨rfl,rfl⟩ hg hdb hall hks he hpl
   .cases h
  .cases h
 .cases h
theorem Tr.min1:∀{X:Cx}{es':Ex}{e:aj}{p p2:aM}(hq:X.calm=a6)(hg:Gl X "min"),Tr X es' (.a [e])->Tr X (.blt .min es') (.e (.Call (.Name "min" p) [e] [] p2)):=by
 intro _ _ _ _ _ hq hg q0;refine⟨λΓ G=>?_,λ_ _ _ _ _ _ h=>nomatch h⟩;have iha:=q0.m Γ G;intro c g ρ r h;simp only[Wf,zr]at h;split at h
 .rename_i rs ers;cases e:Zi _ rs with
  |none=>rw[e]at h;cases h
  |some x=>rw[e]at h;cases h;exact Q9 (f:=.min) c (λ_=>hq) hg e (iha c g ρ rs ers)
 .cases h
theorem Tr.len:∀{X:Cx}{es':Ex}{e:aj}{p p2:aM}(hg:Gl X "len"),Tr X es' (.a [e])->Tr X (.blt .len es') (.e (.Call (.Name "len" p) [e] [] p2)):=by
 intro _ _ _ _ _ hg q0;refine⟨λΓ G=>?_,λ_ _ _ _ _ _ h=>nomatch h⟩;have iha:=q0.m Γ G;intro c g ρ r h;simp only[Wf,zr]at h;split at h
 .rename_i rs ers;cases e:Zi _ rs with
  |none=>rw[e]at h;cases h
  |some x=>rw[e]at h;cases h;exact Q9 (f:=.len) c (λz=>by rcases z with z|z|z|z|z<;>cases z) hg e (iha c g ρ rs ers)
 .cases h
theorem Tr.all:∀{X:Cx}{es':Ex}{e:aj}{p p2:aM}(hq:X.calm=a6)(hg:Gl X "all"),Tr X es' (.a [e])->Tr X (.blt .all es') (.e (.Call (.Name "all" p) [e] [] p2)):=by
 intro _ _ _ _ _ hq hg q0;refine⟨λΓ G=>?_,λ_ _ _ _ _ _ h=>nomatch h⟩;have iha:=q0.m Γ G;intro c g ρ r h;simp only[Wf,zr]at h;split at h
 .rename_i rs ers;cases e:Zi _ rs with
  |none=>rw[e]at h;cases h
  |some x=>rw[e]at h;cases h;exact Q9 (f:=.all) c (λ_=>hq) hg e (iha c g ρ rs ers)
 .cases h
theorem Tr.tuple:∀{X:Cx}{es':Ex}{e:aj}{p p2:aM}(hg:Gl X "tuple"),Tr X es' (.a [e])->Tr X (.blt .tuple es') (.e (.Call (.Name "tuple" p) [e] [] p2)):=by
 intro _ _ _ _ _ hg q0;refine⟨λΓ G=>?_,λ_ _ _ _ _ _ h=>nomatch h⟩;have iha:=q0.m Γ G;intro c g ρ r h;simp only[Wf,zr]at h;split at h
 .rename_i rs ers;cases e:Zi _ rs with
  |none=>rw[e]at h;cases h
  |some x=>rw[e]at h;cases h;exact Q9 (f:=.tuple) c (λz=>by rcases z with z|z|z|z|z<;>cases z) hg e (iha c g ρ rs ers)
 .cases h
theorem Tr.list:∀{X:Cx}{es':Ex}{e:aj}{p p2:aM}(hg:Gl X "list"),Tr X es' (.a [e])->Tr X (.blt .list es') (.e (.Call (.Name "list" p) [e] [] p2)):=by
 intro _ _ _ _ _ hg q0;refine⟨λΓ G=>?_,λ_ _ _ _ _ _ h=>nomatch h⟩;have iha:=q0.m Γ G;intro c g ρ r h;simp only[Wf,zr]at h;split at h
 .rename_i rs ers;cases e:Zi _ rs with
  |none=>rw[e]at h;cases h
  |some x=>rw[e]at h;cases h;exact Q9 (f:=.list) c (λz=>by rcases z with z|z|z|z|z<;>cases z) hg e (iha c g ρ rs ers)
 .cases h
theorem Tr.min:∀{X:Cx}{es':Ex}{e f:aj}{p p2:aM}(hq:X.calm=a6)(hg:Gl X "min"),Tr X es' (.a [e,f])->Tr X (.blt .min es') (.e (.Call (.Name "min" p) [e,f] [] p2)):=by
 intro _ _ _ _ _ _ hq hg q0;refine⟨λΓ G=>?_,λ_ _ _ _ _ _ h=>nomatch h⟩;have iha:=q0.m Γ G;intro c g ρ r h;simp only[Wf,zr]at h;split at h
 .rename_i rs ers;cases e:Zi _ rs with
  |none=>rw[e]at h;cases h
  |some x=>rw[e]at h;cases h;exact Q9 (f:=.min) c (λ_=>hq) hg e (iha c g ρ rs ers)
 .cases h
theorem Tr.sum:∀{X:Cx}{es':Ex}{e:aj}{p p2:aM}(hq:X.calm=a6)(hg:Gl X "sum"),Tr X es' (.a [e])->Tr X (.blt .sum es') (.e (.Call (.Name "sum" p) [e] [] p2)):=by
 intro _ _ _ _ _ hq hg q0;refine⟨λΓ G=>?_,λ_ _ _ _ _ _ h=>nomatch h⟩;have iha:=q0.m Γ G;intro c g ρ r h;simp only[Wf,zr]at h;split at h
 .rename_i rs ers;cases e:Zi _ rs with
  |none=>rw[e]at h;cases h
  |some x=>rw[e]at h;cases h;exact Q9 (f:=.sum) c (λ_=>hq) hg e (iha c g ρ rs ers)
 .cases h
theorem Tr.intc:∀{X:Cx}{es':Ex}{e:aj}{p p2:aM}(hg:Gl X "int"),Tr X es' (.a [e])->Tr X (.blt .int es') (.e (.Call (.Name "int" p) [e] [] p2)):=by
 intro _ _ _ _ _ hg q0;refine⟨λΓ G=>?_,λ_ _ _ _ _ _ h=>nomatch h⟩;have iha:=q0.m Γ G;intro c g ρ r h;simp only[Wf,zr]at h;split at h
 .rename_i rs ers;cases e:Zi _ rs with
  |none=>rw[e]at h;cases h
  |some x=>rw[e]at h;cases h;exact Q9 (f:=.int) c (λz=>by rcases z with z|z|z|z|z<;>cases z) hg e (iha c g ρ rs ers)
 .cases h
theorem Tr.join:∀{X:Cx}{a':Ex}{a:aj}{sep:ah}{n:Nat}{p0 p1 p2:aM}(hbase:aI (.Constant (.str sep) n p0) "join" X.env (ay (.Constant (.str sep) n p0) X.env)=ay (.Constant (.str sep) n p0) X.env) (hfew:((aL p2 (a8 [a] X.env)).all (λx=>!x.1)&&(aT p2 (aD [] X.env)).all (λx=>x.1.isSome)&&decide (([a]:List aj).length+([]:List aS).length+(if ([]:List aS).isEmpty then 0 else 1)<30))=a6) (hline:(p1.endLine==p2.line)=a6) (hs:a8 [a] X.env=(a4,ay a X.env)::a8 [] X.env),Tr X a' (.e a)->Tr X (.join sep a') (.e (.Call (.Attribute (.Constant (.str sep) n p0) "join" p1) [a] [] p2)):=by
 intro _ _ _ _ _ _ _ _ hbase hfew hline hs q0;refine⟨λΓ G=>?_,λ_ _ _ _ _ _ h=>nomatch h⟩;have iha:=q0.m Γ G;intro c g ρ r h;simp only[jkc,Bu]at h;split at h
 .rename_i x ex;split at h
  .rename_i l el;split at h
   .rename_i ts et;obtain⟨z,q⟩:=q8 h;cases q;have:=Mz et;subst this;exact DE.join (el▸(iha c g ρ x ex).toT) z hfew hbase hline hs
   .cases h
  .cases h
 .cases h
theorem Tr.lrng:∀{X:Cx}{a':Ex}{a:aj}{p p1 p2 pos:aM}(hq:X.calm=a6)(hg:Gl X "list") (hgr:Gl X "range") (hs2:a8 [a] X.env=[(a4,ay a X.env)]) (hs:a8 [.Call (.Name "range" p1) [a] [] p2] X.env=[(a4,ay (.Call (.Name "range" p1) [a] [] p2) X.env)]),Tr X a' (.e a)->Tr X (.lrng a') (.e (.Call (.Name "list" p) [.Call (.Name "range" p1) [a] [] p2] [] pos)):=by
 intro _ _ _ _ _ _ _ hq hg hgr hs2 hs q0;refine⟨λΓ G=>?_,λ_ _ _ _ _ _ h=>nomatch h⟩;have iha:=q0.m Γ G;intro c g ρ r h;simp only[jkb,Cw]at h;split at h
 .rename_i y ey;split at h
  .rename_i n en;obtain⟨z,q⟩:=q8 h;cases q;exact DO.lrange (en▸(iha c g ρ y ey).toT) z.1 z.2 hq (c.bt _ (by decide)) hg (c.bt _ (by decide)) hgr hs hs2
  .cases h
 .cases h
theorem Tr.lset:∀{X:Cx}{a':Ex}{a:aj}{p p1 p2 pos:aM}(hq:X.calm=a6)(hg:Gl X "len") (hg2:Gl X "set") (hs:a8 [a] X.env=[(a4,ay a X.env)]) (hs2:a8 [.Call (.Name "set" p1) [a] [] p2] X.env=[(a4,ay (.Call (.Name "set" p1) [a] [] p2) X.env)]),Tr X a' (.e a)->Tr X (.lset a') (.e (.Call (.Name "len" p) [.Call (.Name "set" p1) [a] [] p2] [] pos)):=by
 intro _ _ _ _ _ _ _ hq hg hg2 hs hs2 q0;refine⟨λΓ G=>?_,λ_ _ _ _ _ _ h=>nomatch h⟩;have iha:=q0.m Γ G;intro c g ρ r h;simp only[jka,Br]at h;split at h
 .rename_i x ex;split at h
  .rename_i l el;split at h
   .rename_i ts et;obtain⟨z,q⟩:=q8 h;cases q;have:=Mz et;subst this;exact DE.lenSet (el▸(iha c g ρ x ex).toT) hq nofun (c.bt _ (by decide)) (c.bt _ (by decide)) hg hg2 hs hs2
   .cases h
  .cases h
 .cases h
theorem Tr.enum:∀{X:Cx}{a':Ex}{a:aj}{es:List aj}{n:Nat}{p p2 pt:aM}(hg:Gl X "enumerate") (hs:a8 [a] X.env=[(a4,ay a X.env)]),Tr X a' (.e a)->Tr X (.enum a') (.i (.Tuple es n pt) (.Call (.Name "enumerate" p) [a] [] p2)):=by
 intro _ _ _ _ _ _ _ _ hg hs q0;refine⟨λΓ G=>?_,λ_ _ _ _ _ _ _=>trivial⟩;have iha:=q0.m Γ G;intro c g ρ ds h;simp only[jke,M8]at h;split at h
 .rename_i x ex;have ha:=iha c g ρ x ex;split at h
  .rename_i l e1;cases h;exact DI.enum a6 (ha.toE e1) (c.bt _ (by decide)) hg hs
  .rename_i l e1;cases h;exact DI.enum a4 (ha.toE e1) (c.bt _ (by decide)) hg hs
  .cases h
 .cases h
theorem Tr.count:∀{X:Cx}{a' es':Ex}{a e:aj}{p1 p2:aM}(hbase:aI a "count" X.env (ay a X.env)=ay a X.env) (hfew:((aL p2 (a8 [e] X.env)).all (λx=>!x.1)&&(aT p2 (aD [] X.env)).all (λx=>x.1.isSome)&&decide (([e]:List aj).length+([]:List aS).length+(if ([]:List aS).isEmpty then 0 else 1)<30))=a6) (hline:(p1.endLine==p2.line)=a6),Tr X a' (.e a)->Tr X es' (.a [e])->Tr X (.meth .count a' es') (.e (.Call (.Attribute a "count" p1) [e] [] p2)):=by
 intro _ _ _ _ _ _ _ hbase hfew hline q0 q1;refine⟨λΓ G=>?_,λ_ _ _ _ _ _ h=>nomatch h⟩;have iha:=q0.m Γ G;have ihb:=q1.m Γ G;intro c g ρ r h;simp only[jk9,Bq]at h;split at h
 .rename_i x rs ex ers;obtain⟨y,e,hy,hs⟩:=(ihb c g ρ rs ers).one;subst e;simp only[j59]at h;split at h
  .rename_i l el;split at h
   .rename_i z;cases h;exact DE.countT c.un' (el▸(iha c g ρ x ex).toT) hy.toT nofun nofun hbase hfew hline hs
   .cases h
  .rename_i l el;split at h
   .rename_i z;cases h;exact DE.countL c.un' (el▸(iha c g ρ x ex).toT) hy.toT nofun nofun hbase hfew hline hs
   .cases h
  .cases h
 .cases h
theorem Tr.isi1:∀{X:Cx}{a':Ex}{a:aj}{T:ah}{c:String}{p p1 p2:aM}(hT:T∈Yi) (hv:b7 T=a3 (.type c)) (hg:Gl X "isinstance") (hg2:Gl X T) (hn:T ≠ "__name__") (hd:(T==k9h)=a4) (hs:a8 [a,.Name T p1] X.env=(a4,ay a X.env)::a8 [.Name T p1] X.env),Tr X a' (.e a)->Tr X (.isi a' [c]) (.e (.Call (.Name "isinstance" p) [a,.Name T p1] [] p2)):=by
 intro _ _ _ _ _ _ _ _ hT hv hg hg2 hn hd hs q0;refine⟨λΓ G=>?_,λ_ _ _ _ _ _ h=>nomatch h⟩;have iha:=q0.m Γ G;intro c g ρ r h;simp only[jcp,Kw]at h;split at h
 .rename_i x ex;cases e:qe x.d _ with
  |none=>rw[e]at h;cases h
  |some k =>
   rw[e]at h;cases h;refine DE.isi1 (iha c g ρ x ex).toT (j41 e) (c.bt _ (by decide)) (c.bt _ hT) hv ?_ hg hg2 hn hd hs rfl rfl;simp only[qe]at e;split at e
   .rename_i k1 k2 e1 e2;cases e2;cases e;rw[gO];exact j3x e1
   .cases e
 .cases h
theorem Tr.isi2:∀{X:Cx}{a':Ex}{a:aj}{T U:ah}{c d:String}{n:Nat}{p p1 p2 p3 p4:aM} (hT:T∈Yi) (hU:U∈Yi) (hv:b7 T=a3 (.type c)) (hw:b7 U=a3 (.type d)) (hg:Gl X "isinstance") (hg1:Gl X T) (hg2:Gl X U) (hn:T ≠ "__name__") (hd:(T==k9h)=a4) (hn2:U ≠ "__name__") (hd2:(U==k9h)=a4) (hs:a8 [a,.Tuple [.Name T p1,.Name U p3] n p4] X.env=(a4,ay a X.env)::a8 [.Tuple [.Name T p1,.Name U p3] n p4] X.env),Tr X a' (.e a)->Tr X (.isi a' [c,d]) (.e (.Call (.Name "isinstance" p) [a,.Tuple [.Name T p1,.Name U p3] n p4] [] p2)):=by
 intro _ _ _ _ _ _ _ _ _ _ _ _ _ hT hU hv hw hg hg1 hg2 hn hd hn2 hd2 hs q0;refine⟨λΓ G=>?_,λ_ _ _ _ _ _ h=>nomatch h⟩;have iha:=q0.m Γ G;intro c g ρ r h;simp only[jcp,Kw]at h;split at h
 .rename_i x ex;cases e:qe x.d _ with
  |none=>rw[e]at h;cases h
  |some k =>rw[e]at h;cases h;exact DE.isi2 (iha c g ρ x ex).toT (j41 e) (c.bt _ (by decide)) (c.bt _ hT) (c.bt _ hU) hv hw (j1u e) hg hg1 hg2 hn hd hn2 hd2 hs rfl rfl rfl rfl
 .cases h
theorem Tr.callV:∀{X:Cx}{i:Nat}{y:ah}{es':Ex}{e:aj}{es:List aj}{p p2:aM} (hN:X.N[i]?=a3 y) (hv:Vis X.env.scope y) (hd:(y==k9h)=a4) (hcd:(y==k9i)=a4) (he:a8 (e::es) X.env=(a4,ay e X.env)::a8 es X.env) (hpl:(aL p2 (a8 es X.env)).any (·.1)=a4),Tr X es' (.a (e::es))->Tr X (.callV i es') (.e (.Call (.Name y p) (e::es) [] p2)):=by
 intro _ i y es' e es p p2 hN hv hd hcd he hpl q0;refine⟨λΓ G=>?_,λ_ _ _ _ _ _ h=>nomatch h⟩;have iha:=q0.m Γ G;intro c g ρ r h;simp only[jg1,Rb]at h;split at h
 .rename_i x cs rs ei ers;split at h
  .rename_i ds eds;split at h
   .rename_i nf;have q:=g (jx x) (cs++ds);cases z:Γ (jx x) (cs++ds) with
    |lval d =>rw[z]at h q;cases h;obtain⟨k,hr,lk⟩:=q x rfl;exact DE.callV lk hr (Uv ei) ((iha c g ρ rs ers).toA eds) nf ⟨rfl,rfl⟩ hN hv hd hcd he hpl
    |val d=>rw[z]at h;cases h
    |fresh l=>rw[z]at h;cases h
    |err x=>rw[z]at h;cases h
    |no=>rw[z]at h;cases h
   .cases h
  .cases h
 .cases h
theorem Tr.dget:∀{X:Cx}{a' b':Ex}{a b:aj}{p:aM}(hs:U7 b),Tr X a' (.e a)->Tr X b' (.e b)->Tr X (.dget a' b') (.e (.Subscript a b p)):=by
 intro _ _ _ _ _ _ hs q0 q1;refine⟨λΓ G=>?_,λ_ _ _ _ _ _ h=>nomatch h⟩;have iha:=q0.m Γ G;have ihb:=q1.m Γ G;intro c g ρ r h;simp only[jkf,Bw]at h;split at h
 .rename_i ks ds y ex ey;split at h
  .rename_i k ek;cases e:zg ks ds k with
   |none=>rw[e]at h;cases h
   |some d=>rw[e]at h;cases h;exact DE.dget c.un' ((iha c g ρ (.e (.dct ks ds)) ex).toE rfl) (j3g ek▸(ihb c g ρ y ey).toT) e hs
  .cases h
 .cases h
theorem Tr.dvals:∀{X:Cx}{a':Ex}{a:aj}{p p1 p2 pos:aM}(hq:X.calm=a6)(hg:Gl X "tuple") (hbase:aI a "values" X.env (ay a X.env)=ay a X.env) (hline:(p1.endLine==p2.line)=a6) (hs2:a8 [.Call (.Attribute a "values" p1) [] [] p2] X.env=[(a4,ay (.Call (.Attribute a "values" p1) [] [] p2) X.env)]),Tr X a' (.e a)->Tr X (.dvals a') (.e (.Call (.Name "tuple" p) [.Call (.Attribute a "values" p1) [] [] p2] [] pos)):=by
 intro _ _ _ _ _ _ _ hq hg hbase hline hs2 q0;refine⟨λΓ G=>?_,λ_ _ _ _ _ _ h=>nomatch h⟩;have iha:=q0.m Γ G;intro c g ρ r h;simp only[jg0,Oq]at h;split at h
 .rename_i ks ds ex;cases h;exact DE.tupVals ((iha c g ρ (.e (.dct ks ds)) ex).toE rfl) hq (c.bt _ (by decide)) hg hbase hline hs2
 .cases h
theorem Tr.minT:∀{X:Cx}{a':Ex}{a:aj}{p pos:aM}(hq:X.calm=a6)(hg:Gl X "min") (hs:a8 [a] X.env=[(a4,ay a X.env)]),Tr X a' (.e a)->Tr X (.minT a') (.e (.Call (.Name "min" p) [a] [] pos)):=by
 intro _ _ _ _ _ hq hg hs q0;refine⟨λΓ G=>?_,λ_ _ _ _ _ _ h=>nomatch h⟩;have iha:=q0.m Γ G;intro c g ρ r h;simp only[jk8,Bp]at h;split at h
 .rename_i x ex;split at h
  .rename_i l el;split at h
   .rename_i ks ek;cases e:ks[aZ (Jq ks) (ks.length-1)]? with
    |none=>rw[e]at h;cases h
    |some k =>rw[e]at h;cases h;exact DT.minT c.un' hq (c.bt _ (by decide)) hg (by have z:=(iha c g ρ x ex).toT;rw[el,j0p ek]at z;exact z) e hs
   .cases h
  .cases h
 .cases h
theorem Tr.c0:∀{X:Cx},Tr X .nil (.c []):=by intro _;refine⟨λΓ G=>?_,λ_ _ _ _ _ _ _=>trivial⟩;intro c g ρ;exact⟨λ_=>DTs.nil,λy k h=>by simp only[Nf]at h;cases h⟩
theorem Tr.c1:∀{X:Cx}{c':Ex}{c:aj},Tr X c' (.b c)->Tr X (.cons c' .nil) (.c [c]):=by
 intro _ _ _ q0;refine⟨λΓ G=>?_,λ_ _ _ _ _ _ _=>trivial⟩;have iha:=q0.m Γ G;intro c g ρ;refine⟨λh=>?_,λy k h hk=>DTs.one ?_⟩
 .simp only[Ly,Nf,consW]at h;split at h<;>cases h
 .simp only[Ly,Nf,consW]at h;split at h
  .rename_i x xs ex exs;cases exs;cases h;exact iha c g ρ k (by rw[ex];simp only[truth,hk])
  .cases h
theorem Tr.comp1:∀{X:Cx}{i:Nat}{y:ah}{py p:aM}{elt' it' c':Ex}{elt it:aj}{ifs:List aj} {scope:b9} (hq:X.calm=a6) (hi:X.N[i]?=a3 y) (hl:Uy scope y=a6) (hkind:scope.kind=.function) (hok:Q4 scope X.env X.N [i]=a6) (hs:∀x,aA it X.env x=pure x),Tr X it' (.i (.Name y py) it)->(∀C s H fp pn,Tr (cCx X scope C s H fp pn) elt' (.e elt))->(∀C s H fp pn,Tr (cCx X scope C s H fp pn) c' (.c ifs))->Tr X (.comp [i] elt' it' c') (.e (.ListComp elt [⟨.Name y py,it,ifs,0⟩] scope p)):=by
 intro _ _ _ _ _ _ _ _ _ _ _ _ hq hi hl hkind hok hs q0 q1 q2;refine⟨λΓ G=>?_,λ_ _ _ _ _ _ h=>nomatch h⟩;have ihi:=q0.m Γ G;have ihe:=λC s H fp pn=>(q1 C s H fp pn).m Γ G;have ihc:=λC s H fp pn=>(q2 C s H fp pn).m Γ G;intro c g ρ r h;obtain⟨l,e,q⟩:=Ln hq c (λρ ds z=>ihi c g ρ ds z) hkind hok hs (λρ d ρ2 hb hun=>by
  simp only[za]at hb
  cases hb
  have hu:=hun _ (xr.mpr rfl)
  exact⟨_,jb,Wk.set hu,Y4 hu,λC s H fp pn=>DG.name _ c.nd hi (Bg hl) (Ca hl)⟩)
  (λC s H fp pn ρ r z=>ihe C s H fp pn c.comp g.comp ρ r z) (λC s H fp pn ρ=>ihc C s H fp pn c.comp g.comp ρ) h
 subst e;exact q
theorem Tr.comp2:∀{X:Cx}{i j:Nat}{x y:ah}{px py pt p:aM}{n:Nat}{elt' it' c':Ex}{elt it:aj} {ifs:List aj} {scope:b9} (hq:X.calm=a6) (hij:i≠j) (hi:X.N[i]?=a3 x) (hj:X.N[j]?=a3 y) (hl:Uy scope x=a6) (hl':Uy scope y=a6) (hkind:scope.kind=.function) (hok:Q4 scope X.env X.N [i,j]=a6) (hs:∀x,aA it X.env x=pure x),Tr X it' (.i (.Tuple [.Name x px,.Name y py] n pt) it)->(∀C s H fp pn,Tr (cCx X scope C s H fp pn) elt' (.e elt))->(∀C s H fp pn,Tr (cCx X scope C s H fp pn) c' (.c ifs))->Tr X (.comp [i,j] elt' it' c') (.e (.ListComp elt [⟨.Tuple [.Name x px,.Name y py] n pt,it,ifs,0⟩] scope p)):=by
 intro _ i j _ _ _ _ _ _ _ _ _ _ _ _ _ _ hq hij hi hj hl hl' hkind hok hs q0 q1 q2;refine⟨λΓ G=>?_,λ_ _ _ _ _ _ h=>nomatch h⟩;have ihi:=q0.m Γ G;have ihe:=λC s H fp pn=>(q1 C s H fp pn).m Γ G;have ihc:=λC s H fp pn=>(q2 C s H fp pn).m Γ G;intro c g ρ r h;obtain⟨l,e,q⟩:=Ln hq c (λρ ds z=>ihi c g ρ ds z) hkind hok hs (λρ d ρ2 hb hun=>by
  simp only[za]at hb
  split at hb
  .rename_i a b
   cases hb
   have hu:=hun _ (xq ..)
   have hu':=hun _ (xf _ (xr.mpr rfl))
   have h1:(ρ.set i (.val a))[j]?=a3 Sl.un:=by rw[zp hij];exact hu'
   exact⟨(ρ.set i (.val a)).set j (.val b),by rw[jb,jb];rfl,λK σ H R=>Wk.set hu K σ H (Wk.set h1 K σ H R),by rw[Y4 h1,Y4 hu],
    λC s H fp pn=>DG.pair _ _ hij c.nd hi hj (Bg hl) (Bg hl') (Ca hl) (Ca hl') hq⟩
  .cases hb)
  (λC s H fp pn ρ r z=>ihe C s H fp pn c.comp g.comp ρ r z) (λC s H fp pn ρ=>ihc C s H fp pn c.comp g.comp ρ) h
 subst e;exact q
theorem Tr.seq:∀{X:Cx}{a':Ex}{tg a:aj},Tr X a' (.e a)->Tr X (.seq a') (.i tg a):=by
 intro _ _ _ _ q0;refine⟨λΓ G=>?_,λ_ _ _ _ _ _ _=>trivial⟩;have iha:=q0.m Γ G;intro c g ρ ds h;simp only[jmh,Fo]at h;split at h
 .rename_i l e;cases h;exact DI.lst (iha c g ρ _ e)
 .rename_i l e;cases h;exact DI.tup (iha c g ρ _ e)
 .rename_i l e;cases h;exact DI.lst (DO.toE (iha c g ρ _ e))
 .rename_i y e;obtain⟨z,q⟩:=q8 h;cases q;exact DI.str (iha c g ρ _ e).toT z
 .cases h
theorem Tr.range:∀{X:Cx}{es':Ex}{tg:aj}{es:List aj}{p p2:aM}(hg:Gl X "range"),Tr X es' (.a es)->Tr X (.range es') (.i tg (.Call (.Name "range" p) es [] p2)):=by
 intro _ _ _ _ _ _ hg q0;refine⟨λΓ G=>?_,λ_ _ _ _ _ _ _=>trivial⟩;have iha:=q0.m Γ G;intro c g ρ ds h;simp only[jfz,O5]at h;split at h
 .rename_i x ex;have q:=iha c g ρ _ ex;cases q with|cons hs hx t =>
  cases t;split at h
  .rename_i n en;obtain⟨z,q⟩:=q8 h;cases q;exact DI.range1 (en▸hx.toT) (c.bt _ (by decide)) z.1 z.2 hg hs
  .cases h
 .rename_i x y ex;have q:=iha c g ρ _ ex;cases q with|cons hs hx t =>
  cases t with|cons hs2 hy t2 =>
  cases t2;split at h
  .rename_i m n em en;obtain⟨z,q⟩:=q8 h;cases q;exact DI.range2 (em▸hx.toT) (en▸hy.toT) (c.bt _ (by decide)) z.1 z.2.1 z.2.2.1 z.2.2.2 hg (by rw[hs,hs2];rfl) hs2 hs
  .cases h
 .cases h
section
variable{Γ:ah->List D->Rc}{G:ah->Option D}{X:Cx}
theorem sound{t:Ex}{nd:Nd}(h:Tr X t nd):Cok X G->Gok X Γ->jkr Γ G X t nd:=h.m Γ G
theorem j0z{t:Ex}{nd:Nd}(h:Tr X t nd):Cok X G->Gok X Γ->∀ρ y,er Γ G t (j8 ρ)=a3 y->XM X ρ y nd:=h.x Γ G
end
inductive Sx where
 |nop
 |seq (a b:Sx)
 |set (i:Nat) (e:Ex)
 |mov (i j:Nat)
 |expr (e:Ex)
 |ret (e:Ex)
 |retV (i:Nat)
 |ife (c:Ex) (a b:Sx)
 |loop (is:List Nat) (it:Ex) (body:Sx)
 |whl (c:Ex) (body:Sx)
 |app (i:Nat) (e:Ex)
 |ext (i:Nat) (e:Ex)
 |put (i:Nat) (k e:Ex)
 |par (i j:Nat) (a b:Ex)
 |fgt (i:Nat)
 |keep (i:Nat)
 |dcp (i j:Nat) (k e:Ex)
 |taken (h q:Nat) (a b c t:Ex)
 |unp (i j:Nat) (e:Ex)
 |dmake (x t y:Nat) (it e:Ex)
 |ioN (es e:Ex)
 |retL (x:ah) (is:List Nat)
 |retC (f x:ah) (a b:Ex) (is:List Nat)
 |nmake (x t y:Nat) (it e1 e2:Ex)
 |pop3 (i j k w:Nat)
 |apop (i w:Nat) (e:Ex)
 |wmake (x t:Nat) (it e:Ex)
 |fail
inductive So where
 |next (ρ:En)
 |ret (r:Rc)
 |brk (ρ:En)
 |cnt (ρ:En)
 |err (x:ah) (ρ:En)
 |no
noncomputable def orE(o:So)(x:Option ah)(ρ:En):So:=match o with
 |.no=>match x with
  |some y=>.err y ρ
  |none=>.no
 |o=>o
noncomputable def Jp(f:D->En->So):List D->En->So
 |[],ρ=>.next ρ
 |d::ds,ρ=>match f d ρ with
  |.next ρ'=>Jp f ds ρ'
  |.cnt ρ'=>Jp f ds ρ'
  |.brk ρ'=>.next ρ'
  |.ret r=>.ret r
  |.err x ρ'=>.err x ρ'
  |.no=>.no
noncomputable def qx(c:En->Option Bool)(f:En->So):Nat->En->So
 |0,_=>.no
 |n+1,ρ=>match c ρ with
  |some a4=>.next ρ
  |some a6=>match f ρ with
   |.next ρ'=>qx c f n ρ'
   |.cnt ρ'=>qx c f n ρ'
   |.brk ρ'=>.next ρ'
   |.ret r=>.ret r
   |.err x ρ'=>.err x ρ'
   |.no=>.no
  |none=>.no
noncomputable def stOf:Option W->Option D
 |some (.v x)=>x.st
 |_=>a9
noncomputable def j5k(f:En->Option D)(t y:Nat):List D->En->List (List Int)->List D->Option (List (List Int)×List D)
 |[],_,ks,vs=>a3 (ks,vs)
 |d::ds,ρ,ks,vs=>match d with
  |.tup l=>match intsOf l,f (ρ.set t (.val d)) with
   |some k,a3 d'=>if d'.isNon=a6 then j5k f t y ds ((ρ.set t (.val d)).set y (.val d')) ks vs
    else if ks.contains k=a4/\ks.length<ak then j5k f t y ds ((ρ.set t (.val d)).set y (.val d')) (ks++[k]) (vs++[d'])else a9
   |_,_=>a9
  |_=>a9
noncomputable def Y6(f1 f2:En->Option D)(x t y:Nat):List D->En->List (List Int)->List Int->Option (List (List Int)×List Int)
 |[],_,ks,ns=>a3 (ks,ns)
 |d::ds,ρ,ks,ns=>match d with
  |.tup l=>match intsOf l,f1 (ρ.set t (.val d)) with
   |some k,a3 d1=>match f2 (((ρ.set t (.val d)).set y (.val d1)).set x (.val (.dct ks (ns.map D.int)))) with
    |some (.int n)=>if ks.contains k=a4/\ks.length<ak then Y6 f1 f2 x t y ds ((ρ.set t (.val d)).set y (.val d1)) (ks++[k]) (ns++[n])else a9
    |_=>a9
   |_,_=>a9
  |_=>a9
noncomputable def Vx(f2:En->Option D)(x t:Nat):List D->En->List (List Int)->List Int->Option (List (List Int)×List Int)
 |[],_,ks,ns=>a3 (ks,ns)
 |d::ds,ρ,ks,ns=>match d with
  |.tup l=>match intsOf l,f2 ((ρ.set t (.val d)).set x (.val (.dct ks (ns.map D.int)))) with
   |some k,a3 (.int n)=>if ks.contains k=a4/\ks.length<ak then Vx f2 x t ds (ρ.set t (.val d)) (ks++[k]) (ns++[n])else a9
   |_,_=>a9
  |_=>a9
noncomputable def Qj(ρ:En):List Nat->Option (List D)
 |[]=>a3 []
 |i::is=>match ρ[i]?,Qj ρ is with
  |some (.val d),a3 ds=>a3 (d::ds)
  |_,_=>a9
noncomputable def Rm(i:Nat)(w:Option W)(ρ:En):So:=match w with
 |some (.v (.o l))=>.next (ρ.set i (.own l))
 |some (.v x)=>match x.st with
  |some d=>.next (ρ.set i (.val d))
  |none=>.no
 |_=>.no
noncomputable def retS(w:Option W):So:=match w with
 |some (.v (.o l))=>.ret (.fresh l)
 |some (.v x)=>.ret (.val x.d)
 |_=>.no
noncomputable def Bj(s:Option Sv):So:=match s with
 |some (.own l)=>.ret (.fresh l)
 |some (.val d)=>.ret (.val d)
 |_=>.no
noncomputable def Ko(i j:Nat)(s:Option Sv)(ρ:En):So:=match s with
 |some (.own l)=>if i=j then .no else .next ((ρ.set j .un).set i (.own l))
 |some (.val d)=>.next (ρ.set i (.val d))
 |_=>.no
noncomputable def j20(w:Option W)(ρ:En):So:=match w with
 |some (.v _)=>.next ρ
 |_=>.no
noncomputable def Ip(i:Nat)(s:Option Sv)(w:Option W)(ρ:En):So:=match s,w with
 |some (.own l),a3 (.v x)=>match x.st with
  |some d=>if l.length<ak then .next (ρ.set i (.own (l++[d])))else .no
  |none=>.no
 |_,_=>.no
noncomputable def Ig(i:Nat)(s:Option Sv)(w:Option W)(ρ:En):So:=match s,w with
 |some (.own l),a3 (.v (.o m))=>if jo (l.length+m.length)=a6 then .next (ρ.set i (.own (l++m)))else .no
 |_,_=>.no
noncomputable def Kf(i:Nat)(s:Option Sv)(k w:Option W)(ρ:En):So:=match s,k,w with
 |some (.own l),a3 (.v y),a3 (.v x)=>match y.d,x.st with
  |.int j,a3 d=>match ixN l.length j with
   |some n=>.next (ρ.set i (.own (l.set n d)))
   |none=>.no
  |_,_=>.no
 |_,_,_=>.no
noncomputable def Kh(i j:Nat)(a b:Option W)(ρ:En):So:=match a,b with
 |some (.v x),a3 (.v y)=>match x.st,y.st with
  |some d,a3 d'=>if i=j then .no else .next ((ρ.set i (.val d)).set j (.val d'))
  |_,_=>.no
 |_,_=>.no
noncomputable def jmz(i j:Nat)(d:Option D)(ρ:En):So:=match d with
 |some (.tup [d,d'])=>if i=j then .no else .next ((ρ.set i (.val d)).set j (.val d'))
 |_=>.no
noncomputable def Bt(i:Nat)(v:Option Sv)(ρ:En):So:=match v with
 |some (.own l)=>.next (ρ.set i (.val (.lst l)))
 |some (.val _)=>.next ρ
 |_=>.no
noncomputable def jo0(i j:Nat)(v:Option Sv)(k e:Option W)(ρ:En):So:=if i≠j/\i<ρ.length then match v with
  |some (.val (.sct kvs))=>match k,e with
   |some (.v y),a3 (.v x)=>match y.d,x.d with
    |.str z,.int n=>if kvs.length<ak then .next (ρ.set i (.val (.sct (dput kvs z n))))else .no
    |_,_=>.no
   |_,_=>.no
  |_=>.no
 else .no
noncomputable def Cp(x:ah)(v:Option (List D)):So:=match v with
 |some ds=>.ret (.val (.fn x ds))
 |none=>.no
noncomputable def j0b(r:Rc):So:=match r with
 |.val d=>if noFn d=a6 then .ret (.val d)else .no
 |_=>.no
noncomputable def Cq(Γ:ah->List D->Rc)(f x:ah)(v:Option (List D))(a b:Option W):So:=match v,a,b with
 |some ds,a3 (.v u),a3 (.v v)=>j0b (Γ f [u.d,v.d,.fn x ds])
 |_,_,_=>.no
noncomputable def popS(i j k w:Nat)(s:Option Sv)(ρ:En):So:=match s with
 |some (.own l)=>match l.getLast? with
  |some (.tup [a,b,c])=>.next ((((ρ.set w (.own l.dropLast)).set i (.val a)).set j (.val b)).set k (.val c))
  |_=>.no
 |_=>.no
noncomputable def Nb(i w:Nat)(s t:Option Sv)(x:Option W)(ρ:En):So:=match s,t,x with
 |some (.own l),a3 (.own m),a3 (.v y)=>match y.st with
  |some (.int z)=>match ixN m.length z with
   |some k=>match m[k]? with
    |some d=>if i≠w/\l.length<ak/\m.length<=1000000 then .next ((ρ.set w (.own (m.eraseIdx k))).set i (.own (l++[d])))else .no
    |none=>.no
   |none=>.no
  |_=>.no
 |_,_,_=>.no
noncomputable def run(fu:Nat)(Γ:ah->List D->Rc)(G:ah->Option D):Sx->En->So
 |.nop,ρ=>.next ρ
 |.seq a b,ρ=>match run fu Γ G a ρ with
  |.next ρ'=>run fu Γ G b ρ'
  |o=>o
 |.set i e,ρ=>orE (Rm i (ev Γ G e ρ) ρ) (er Γ G e ρ) ρ
 |.mov i j,ρ=>Ko i j ρ[j]? ρ
 |.expr e,ρ=>orE (j20 (ev Γ G e ρ) ρ) (er Γ G e ρ) ρ
 |.ret e,ρ=>orE (retS (ev Γ G e ρ)) (er Γ G e ρ) ρ
 |.retV i,ρ=>Bj ρ[i]?
 |.ife c a b,ρ=>match truth (ev Γ G c ρ) with
  |some a6=>run fu Γ G a ρ
  |some a4=>run fu Γ G b ρ
  |none=>.no
 |.loop is it body,ρ=>match ev Γ G it (frz it ρ) with
  |some (.i ds)=>Jp (λd ρ=>match za is d ρ with
   |some ρ2=>run fu Γ G body ρ2
   |none=>.no) ds (frz it ρ)
  |_=>.no
 |.whl c body,ρ=>qx (λρ=>truth (ev Γ G c ρ)) (λρ=>run fu Γ G body ρ) fu ρ
 |.app i e,ρ=>Ip i ρ[i]? (ev Γ G e ρ) ρ
 |.ext i e,ρ=>Ig i ρ[i]? (ev Γ G e ρ) ρ
 |.put i k e,ρ=>Kf i ρ[i]? (ev Γ G k ρ) (ev Γ G e ρ) ρ
 |.par i j a b,ρ=>Kh i j (ev Γ G a ρ) (ev Γ G b ρ) ρ
 |.fgt i,ρ=>.next (ρ.set i .un)
 |.keep i,ρ=>Bt i ρ[i]? ρ
 |.dcp i j k e,ρ=>jo0 i j ρ[j]? (ev Γ G k (ρ.set i .un)) (ev Γ G e (ρ.set i .un)) ρ
 |.taken h q a b e t,ρ=>if h≠q/\h<ρ.length then match ev Γ G a ρ,ev Γ G b ρ with
   |some (.v (.o la)),a3 (.v (.o lb))=>match ev Γ G e (ρ.set h (.val (.lst [.lst la,.lst lb]))) with
    |some (.v x)=>match x.st with
     |some d=>if Z2 d=a6/\truth (ev Γ G t ((ρ.set h (.val (.lst [.lst la,.lst lb]))).set q (.val d)))=a3 a4 then .next ((ρ.set h (.val (.lst [.lst la.reverse,.lst []]))).set q (.val d))else .no
     |none=>.no
    |_=>.no
   |_,_=>.no
  else .no
 |.unp i j e,ρ=>jmz i j (stOf (ev Γ G e ρ)) ρ
 |.dmake x t y it e,ρ=>if x<ρ.length/\t<ρ.length/\y<ρ.length/\x≠t/\x≠y/\t≠y then match ev Γ G it (ρ.set x .un) with
   |some (.i ds)=>match j5k (λρ=>stOf (ev Γ G e ρ)) t y ds (ρ.set x .un) [] [] with
    |some r=>.ret (.val (.dct r.1 r.2))
    |none=>.no
   |_=>.no
  else .no
 |.ioN es e,ρ=>match G (qm "_law_plan"),ev Γ G es ρ,ev Γ G e ρ with
  |some _,a3 (.a [x,y,z]),a3 (.v (.o [.int n]))=>match x.d,y.d,z.d with
   |.lst ls,.int eC,.int k=>match strsOf ls with
    |some ws=>if 0<=k/\k<=5/\ws.length<=60 then .ret (.val (W4 k.toNat ws eC n).1)else .no
    |none=>.no
   |_,_,_=>.no
  |_,_,_=>.no
 |.retL x is,ρ=>Cp x (Qj ρ is)
 |.retC f x a b is,ρ=>Cq Γ f x (Qj ρ is) (ev Γ G a ρ) (ev Γ G b ρ)
 |.nmake x t y it e1 e2,ρ=>if x<ρ.length/\t<ρ.length/\y<ρ.length/\x≠t/\x≠y/\t≠y then match ev Γ G it (ρ.set x .un) with
   |some (.i ds)=>match Y6 (λρ=>stOf (ev Γ G e1 ρ)) (λρ=>stOf (ev Γ G e2 ρ)) x t y ds (ρ.set x .un) [] [] with
    |some r=>.ret (.val (.dct r.1 (r.2.map D.int)))
    |none=>.no
   |_=>.no
  else .no
 |.wmake x t it e,ρ=>if x<ρ.length/\t<ρ.length/\x≠t then match ev Γ G it (ρ.set x .un) with
   |some (.i ds)=>match Vx (λρ=>stOf (ev Γ G e ρ)) x t ds (ρ.set x .un) [] [] with
    |some r=>.ret (.val (.dct r.1 (r.2.map D.int)))
    |none=>.no
   |_=>.no
  else .no
 |.apop i w e,ρ=>Nb i w ρ[i]? ρ[w]? (ev Γ G e ρ) ρ
 |.pop3 i j k w,ρ=>popS i j k w ρ[w]? ρ
 |.fail,_=>.no
section
variable{Γ:ah->List D->Rc}{G:ah->Option D}{ρ:En}{fu:Nat}
theorem j5x{a b}:run fu Γ G (.seq a b) ρ=(match run fu Γ G a ρ with
  |.next ρ'=>run fu Γ G b ρ'
  |o=>o):=(rfl)
theorem jcs{i e}:run fu Γ G (.set i e) ρ=(orE (Rm i (ev Γ G e ρ) ρ) (er Γ G e ρ) ρ):=(rfl)
theorem jmq{i j}:run fu Γ G (.mov i j) ρ=(Ko i j ρ[j]? ρ):=(rfl)
theorem jko{e}:run fu Γ G (.expr e) ρ=(orE (j20 (ev Γ G e ρ) ρ) (er Γ G e ρ) ρ):=(rfl)
theorem jct{e}:run fu Γ G (.ret e) ρ=(orE (retS (ev Γ G e ρ)) (er Γ G e ρ) ρ):=(rfl)
theorem jki{i}:run fu Γ G (.retV i) ρ=(Bj ρ[i]?):=(rfl)
theorem jmr{c a b}:run fu Γ G (.ife c a b) ρ=(match truth (ev Γ G c ρ) with
  |some a6=>run fu Γ G a ρ
  |some a4=>run fu Γ G b ρ
  |none=>.no):=(rfl)
theorem jkm{is it body}:run fu Γ G (.loop is it body) ρ=(match ev Γ G it (frz it ρ) with
  |some (.i ds)=>Jp (λd ρ=>match za is d ρ with
   |some ρ2=>run fu Γ G body ρ2
   |none=>.no) ds (frz it ρ)
  |_=>.no):=(rfl)
theorem jmn{c body}:run fu Γ G (.whl c body) ρ=(qx (λρ=>truth (ev Γ G c ρ)) (λρ=>run fu Γ G body ρ) fu ρ):=(rfl)
theorem jmu{i e}:run fu Γ G (.app i e) ρ=(Ip i ρ[i]? (ev Γ G e ρ) ρ):=(rfl)
theorem jmt{i e}:run fu Γ G (.ext i e) ρ=(Ig i ρ[i]? (ev Γ G e ρ) ρ):=(rfl)
theorem jmo{i k e}:run fu Γ G (.put i k e) ρ=(Kf i ρ[i]? (ev Γ G k ρ) (ev Γ G e ρ) ρ):=(rfl)
theorem jmp{i j a b}:run fu Γ G (.par i j a b) ρ=(Kh i j (ev Γ G a ρ) (ev Γ G b ρ) ρ):=(rfl)
theorem jms{i}:run fu Γ G (.fgt i) ρ=(.next (ρ.set i .un)):=(rfl)
theorem jkn{i}:run fu Γ G (.keep i) ρ=(Bt i ρ[i]? ρ):=(rfl)
theorem jkj{x is}:run fu Γ G (.retL x is) ρ=(Cp x (Qj ρ is)):=(rfl)
theorem jkk{f x a b is}:run fu Γ G (.retC f x a b is) ρ=(Cq Γ f x (Qj ρ is) (ev Γ G a ρ) (ev Γ G b ρ)):=(rfl)
theorem j4k{x t y it e1 e2}:run fu Γ G (.nmake x t y it e1 e2) ρ=(if x<ρ.length/\t<ρ.length/\y<ρ.length/\x≠t/\x≠y/\t≠y then match ev Γ G it (ρ.set x .un) with
   |some (.i ds)=>match Y6 (λρ=>stOf (ev Γ G e1 ρ)) (λρ=>stOf (ev Γ G e2 ρ)) x t y ds (ρ.set x .un) [] [] with
    |some r=>.ret (.val (.dct r.1 (r.2.map D.int)))
    |none=>.no
   |_=>.no
  else .no):=(rfl)
theorem j4j{x t it e}:run fu Γ G (.wmake x t it e) ρ=(if x<ρ.length/\t<ρ.length/\x≠t then match ev Γ G it (ρ.set x .un) with
   |some (.i ds)=>match Vx (λρ=>stOf (ev Γ G e ρ)) x t ds (ρ.set x .un) [] [] with
    |some r=>.ret (.val (.dct r.1 (r.2.map D.int)))
    |none=>.no
   |_=>.no
  else .no):=(rfl)
theorem jkp{i w e}:run fu Γ G (.apop i w e) ρ=(Nb i w ρ[i]? ρ[w]? (ev Γ G e ρ) ρ):=(rfl)
theorem jkl{i j k w}:run fu Γ G (.pop3 i j k w) ρ=(popS i j k w ρ[w]? ρ):=(rfl)
end
def j5y(X:Cx):List (ah×ae)->List Nat->Prop
 |[],is=>is=[]
 |p::cl,is=>∃(i:Nat)(r:List Nat),is=i::r/\X.N[i]?=a3 p.1/\X.env.scope.names.lookup p.1=a3 .cell/\X.env.cells.lookup p.1=a3 p.2/\X.fn p.1=a6/\j5y X cl r
theorem Il{X:Cx}{ρ:Rho}:∀{cl:List (ah×ae)} {is:List Nat} {ds:List D},j5y X cl is->Qj (j8 ρ) is=a3 ds->V3 X ρ cl ds
 |[],_,ds,h,e=>by cases h;cases e;rfl
 |p::cl,_,ds,⟨i,r,ei,h1,h2,h3,h4,l⟩,e=>by
  subst ei;unfold Qj at e;split at e
  .rename_i d ds' e1 e2;cases e;exact⟨d,ds',i,rfl,h1,h2,h3,h4,Uv e1,Il l e2⟩
  .cases e
inductive Ns where
 |s (st:aX)
 |ss (sts:List aX)
noncomputable def Rt.rc:Rt->Rc
 |.val d=>.val d
 |.fresh l=>.fresh l
def Vh(o:So)(P:Po):Prop:=match o with
 |.next ρ'=>∀ρ2,j8 ρ2=ρ'->P.nx ρ2
 |.ret r=>∀x:Rt,x.rc=r->P.rt x
 |.brk ρ'=>∀ρ2,j8 ρ2=ρ'->P.bk ρ2
 |.cnt ρ'=>∀ρ2,j8 ρ2=ρ'->P.ct ρ2
 |.err x ρ'=>∀ρ2,j8 ρ2=ρ'->P.ex x ρ2
 |.no=>False
theorem Uz{o:So}{x:Option ah}{ρ:En}{P:Po}(h:Vh (orE o x ρ) P):Vh o P\/∃y,x=a3 y/\∀ρ2,j8 ρ2=ρ->P.ex y ρ2:=by
 cases o with
 |no =>
  cases x with
  |none=>exact h.elim
  |some y=>exact .inr ⟨y,rfl,h⟩
 |_=>exact .inl h
def jcu(fu:Nat)(Γ:ah->List D->Rc)(G:ah->Option D)(X:Cx)(t:Sx):Ns->Prop
 |.s st=>∀ρ P,Vh (run fu Γ G t (j8 ρ)) P->DS X ρ st P
 |.ss sts=>∀ρ P,Vh (run fu Γ G t (j8 ρ)) P->DSs X ρ sts P
section
variable{K:k9d}{ρ:Rho}{σ:St}{H:Hp}{i j:Nat}{a:ae}{l:List D}
theorem Rep.move(R:Rep K ρ σ H)(hj:ρ[j]?=a3 (.own a l))(hij:i≠j):Rep K ((ρ.set j .un).set i (.own a l)) (σ.set i (a3 (.ref a))) H:=by
 have s1:(owns (ρ.set j .un)).Sublist (owns ρ):=jf rfl;have na:a∉owns (ρ.set j .un):=λz=>by
  obtain⟨k,l',q⟩:=Y5 z;rcases getElem?_set_of q with ⟨_,z,_⟩|⟨n,q⟩
  .cases z
  .exact n (Uh R.nd hj q)
 obtain⟨nd,sub⟩:=Jx (ds:=l) (i:=i) (s1.nodup R.nd) na;have g:j0 (del H (owns ρ)) (del H (owns ((ρ.set j .un).set i (.own a l)))):=v8 λb hb=>by
  rcases sub b hb with e|z
  .exact e▸Jo hj
  .exact s1.subset z
 refine⟨by simp[R.len],λk d' h=>?_,λk b ds' h=>?_,nd,λk b o x h=>?_,R.tb⟩
 .rcases getElem?_set_of h with ⟨rfl,z,_⟩|⟨n,h⟩
  .cases z
  .rcases getElem?_set_of h with ⟨rfl,z,_⟩|⟨n2,h⟩
   .cases z
   .obtain⟨u,q,e⟩:=R.val k d' h;exact⟨u,by rw[zp n];exact q,e.mono g⟩
 .rcases getElem?_set_of h with ⟨rfl,z,hl⟩|⟨n,h⟩
  .cases z;obtain⟨_,xs,hx,en⟩:=R.own j a l hj;exact⟨Ua (by rw[R.len];simpa using hl),xs,hx,en.mono g⟩
  .rcases getElem?_set_of h with ⟨rfl,z,_⟩|⟨n2,h⟩
   .cases z
   .obtain⟨q,xs,hx,en⟩:=R.own k b ds' h;exact⟨by rw[zp n];exact q,xs,hx,en.mono g⟩
 .rcases getElem?_set_of h with ⟨rfl,z,_⟩|⟨n,h⟩
  .cases z
  .rcases getElem?_set_of h with ⟨rfl,z,_⟩|⟨n2,h⟩
   .cases z
   .obtain⟨q,h,z⟩:=R.raw k b o x h;exact⟨by rw[zp n];exact q,g _ _ h,z⟩
end
section
variable{X:Cx}{ρ:Rho}{e a b c:aj}{es:List aj}{st:aX}{rest sa sb body:List aX}{P:Po}{d:D}{ds ds':List D}{pos p p1 p2 p3:aM}{x y:ah}{i j:Nat}
theorem DS.freeze(i:Nat){l:ae}(h:ρ[i]?=a3 (.own l ds))(h2:DS X (ρ.set i (.val (.lst ds))) st P):DS X ρ st P:=λσ H E R q =>h2 σ H E (R.freeze h) (q.step (.drop λb hb=>(jf rfl).subset hb))
theorem DS.mov{l:ae}(hk:ρ[j]?=a3 (.own l ds))(hij:i≠j)(h:P.nx ((ρ.set j .un).set i (.own l ds)))(hN:X.N.Nodup)(hi:X.N[i]?=a3 x)(hj:X.N[j]?=a3 y)(hx:Loc X.env.scope x)
  (hf:X.fn x=a6\/X.env.scope.names.lookup x=a3 .local) (hv:Vis X.env.scope y) (hd:(y==k9h)=a4) (hcd:(y==k9i)=a4):DS X ρ (.Assign [.Name x p] (.Name y p1) pos) P:=λσ H E R q=>by
 obtain⟨hs,xs,m,en⟩:=R.own j l ds hk;refine(Uc hN hi hx (vo hj hv hd hcd) rfl hf).to ⟨_,hs,q.nx _ _ H h (R.move hk hij) (.drop λb hb=>?_)⟩;have s1:(owns (ρ.set j .un)).Sublist (owns ρ):=jf rfl;have na:l∉owns (ρ.set j .un):=λz=>by
  obtain⟨k,l',q⟩:=Y5 z;rcases getElem?_set_of q with ⟨_,z,_⟩|⟨n,q⟩
  .cases z
  .exact n (Uh R.nd hk q)
 rcases(Jx (ds:=ds) (i:=i) (s1.nodup R.nd) na).2 b hb with z|z
 .exact z▸Jo hk
 .exact s1.subset z
theorem DS.whileN(W:Nat->Rho->Prop)(n:Nat)(h0:W n ρ)(hs:∀m ρ',W m ρ'->∃k,DB X ρ' c k/\(k=a6->DSs X ρ' body { nx:=λρ2=>∃m2,m2<m/\W m2 ρ2,rt:=P.rt,bk:=P.nx,ct:=λρ2=>∃m2,m2<m/\W m2 ρ2,ex:=P.ex })/\(k=a4->P.nx ρ'))
  (hp:dB (ax X.prog X.w) X.A X.env X.xe):DS X ρ (.While c body [] pos) P:=λσ H E R q=>by
 refine(j9k hp ptS O6).to ?_;refine⟨λm σ' H'=>∃ρ',W m ρ'/\Rep X.K ρ' σ' H'/\Fr0 ρ ρ' H H',⟨n,ρ,h0,R,Fr0.refl _ _⟩,?_⟩;rintro m σ' H' ⟨ρ',w,R',f⟩;obtain⟨k,hk,ht,hf⟩:=hs m ρ' w;refine hk σ' H' _ R' λH1 g1=>?_;have f1:Fr0 ρ ρ' H H1:=j0.trans f (Fr0.grow g1);cases k with
 |false=>exact Kv (q.nx ρ' σ' H1 (hf rfl) (R'.grow g1) f1)
 |true =>refine Ku ⟨λσ2 H2=>∃ρ2,(∃m2,m2<m/\W m2 ρ2)/\Rep X.K ρ2 σ2 H2/\Fr0 ρ ρ2 H H2,λσ2 H2 ⟨ρ2,⟨m2,hlt,w2⟩,R2,f2⟩=>⟨m2,hlt,ρ2,w2,R2,f2⟩,?_⟩;exact ht rfl σ' H1 _ (R'.grow g1) ⟨λρ3 σ4 H4 n R4 f4=>⟨ρ3,n,R4,f1.trans f4⟩,λρ3 σ4 H4 n R4 f4=>q.nx ρ3 σ4 H4 n R4 (f1.trans f4),λρ3 σ4 H4 n R4 f4=>⟨ρ3,n,R4,f1.trans f4⟩,λr v H4 n z=>q.rt r v H4 n (Ds.step f1 z),λx ρ3 σ4 H4 n R4 f4=>q.ex x ρ3 σ4 H4 n R4 (f1.trans f4)⟩
theorem DS.setCf{ρf:Rho}{tg elt iter:aj}{ifs:List aj}{scope:b9}{spos:aM}(i:Nat)(cs:List Nat)(pr:D->Bool)(g:D->D)(hfr:∀K σ H,Rep K ρ σ H->Rep K ρf σ H)(hno:ρf=ρ\/v5 ((ds.filter pr).map g)=a6)(hi:DI X ρf tg iter ds)
  (hb:∀C s H fp pn,∀d∈ds,∃ρ2,DG (cCx X scope C s H fp pn) ρf tg d ρ2/\Wk ρ2 ρf/\owns ρ2=owns ρf/\DTs (cCx X scope C s H fp pn) ρ2 ifs (pr d)/\(pr d=a6->DE (cCx X scope C s H fp pn) ρ2 elt (g d)))
  (h:∀l,P.nx (ρ.set i (.own l ((ds.filter pr).map g)))) (hN:X.N.Nodup) (hcs:∀j∈cs,ρf[j]?=a3 .un) (hsz:ds.length<=ak) (hX:X.N[i]?=a3 x) (hx:Loc X.env.scope x)
  (hf:X.fn x=a6\/X.env.scope.names.lookup x=a3 .local)
  (hsw:aK (.ListComp elt [⟨tg,iter,ifs,0⟩] scope pos) (a3 (.Name x p1)) spos.line X.env=pure a6)
  (hc:X.calm=a6) (hkind:scope.kind=.function) (hok:Q4 scope X.env X.N cs=a6)
  (hs:∀x,aA iter X.env x=pure x):DS X ρ (.Assign [.Name x p1] (.ListComp elt [⟨tg,iter,ifs,0⟩] scope pos) spos) P:=λσ H E R q pins s I=>by
 have Rf:=hfr _ _ _ R;rw[exec_Assign_Name_used _ _ _ _ hsw];refine a7 (dU (a7 ?_));show ar _ X.A (do let _ <-comprehension (.ListComp elt [⟨tg,iter,ifs,0⟩] scope pos) scope X.env _ (newList []) a4 (ay iter X.env) (a3 (cU (.Name x p1) X.env))) _ _ s;refine a7 (bL (iI (use:=a3 (cU (.Name x p1) X.env)) (Q:=λ_ s'=>SP X pins E .next s') rfl hs (Lq (Ny hok)) hkind (Ov hok)
  (thn (hi σ H (λJ H'=>j0 H H'/\Uw X.K (del H' (owns ρf)) J ds) Rf (λJ H' g1 ok=>⟨g1,ok⟩) pins s I) λv s1 h1=>thn h1 λitv s2 h2=>?_)) (λ_ s' hq=>ai (ai hq)) λ_ _ e=>e)
 obtain⟨it,fp,tn,J,H2,e,I2,T,st2,f2,g2,ok⟩:=h2;subst e;refine Em (RR:=λacc C=>compPost (ax X.prog X.w) X.A X.xe (a3 (cU (.Name x p1) X.env)) (λ_ s'=>SP X pins E .next s') acc C) I2 (Rf.grow g2) T st2 f2 ok hc hkind hok hcs hsz hb ?_;intro D C xs H' s' m I' gg n m' en hm L;show ar _ X.A (cU (.Name x p1) X.env (.ref D)) _ _ _;refine kK (Iw I' hN hX hx (v:=.ref D) rfl (λs'' I'' ⟨a,sb,ha⟩=>?_) hf);have hCa:C≠a:=by
  rcases ha with e|e
  .rw[e];exact L.loc
  .exact cb (L.cell x a e)
 have en':j4 X.K (del H' (D::owns ρ)) ((ds.filter pr).map g) xs:=by
  rcases hno with e|e
  .rw[e]at en;exact en
  .exact(en.mono jt).hide (λc hc=>by
    rcases xn.mp hc with z|z
    .rw[z];exact .inl ⟨xs,m'⟩
    .exact .inl ((R.grow (g2.trans gg)).owned c z)) e
 refine⟨m,hm.sameBut sb hCa,λh' sb'=>⟨σ.set i (a3 (.ref D)),H',I''.loose L sb',?_⟩⟩;exact q.nx _ _ H' (h D) (R.set_own (g2.trans gg) (g2.free n) m' en') (Fr0.new R (g2.trans gg) (g2.free n))
end
section
variable{fu:Nat}{Γ:ah->List D->Rc}{G:ah->Option D}{X:Cx}{P:Po}
theorem bind1{i:Nat}{y:ah}{p:aM}(nd:X.N.Nodup)(hi:X.N[i]?=a3 y)(hx:Loc X.env.scope y)(hf:X.fn y=a6\/X.env.scope.names.lookup y=a3 .local) :
  ∀ρ d ρ2,za [i] d (j8 ρ)=a3 ρ2->∃ρ',j8 ρ'=ρ2/\DG X ρ (.Name y p) d ρ':=λρ d ρ2 h=>by
 simp only[za]at h;cases h;exact⟨_,jb,DG.name _ nd hi hx hf⟩
theorem jmd{i j:Nat}{x y:ah}{n:Nat}{p q pt:aM}(hc:X.calm=a6)(hij:i≠j)(nd:X.N.Nodup)(hi:X.N[i]?=a3 x)(hj:X.N[j]?=a3 y)(hx:Loc X.env.scope x)(hy:Loc X.env.scope y)
  (hf:X.fn x=a6\/X.env.scope.names.lookup x=a3 .local) (hg:X.fn y=a6\/X.env.scope.names.lookup y=a3 .local) :
  ∀ρ d ρ2,za [i,j] d (j8 ρ)=a3 ρ2->∃ρ',j8 ρ'=ρ2/\DG X ρ (.Tuple [.Name x p,.Name y q] n pt) d ρ':=λρ d ρ2 h=>by
 simp only[za]at h;split at h
 .rename_i a b;cases h;exact⟨(ρ.set i (.val a)).set j (.val b),by rw[jb,jb];rfl,DG.pair _ _ hij nd hi hj hx hy hf hg hc⟩
 .cases h
theorem jjy{i j k:Nat}{x y z:ah}{n:Nat}{p q r pt:aM}(hc:X.calm=a6)(nd:X.N.Nodup)(hi:X.N[i]?=a3 x)(hj:X.N[j]?=a3 y)(hk:X.N[k]?=a3 z)(hx:Loc X.env.scope x)(hy:Loc X.env.scope y)(hz:Loc X.env.scope z)
  (hf:X.fn x=a6\/X.env.scope.names.lookup x=a3 .local) (hg:X.fn y=a6\/X.env.scope.names.lookup y=a3 .local) (hh:X.fn z=a6\/X.env.scope.names.lookup z=a3 .local) :
  ∀ρ d ρ2,za [i,j,k,k] d (j8 ρ)=a3 ρ2->∃ρ',j8 ρ'=ρ2/\DG X ρ (.Tuple [.Name x p,.Name y q,.Name z r] n pt) d ρ':=λρ d ρ2 h=>by
 simp only[za]at h;split at h
 .rename_i a b c;cases h;exact⟨((ρ.set i (.val a)).set j (.val b)).set k (.val c),by rw[jb,jb,jb];rfl,DG.three nd hi hj hk hx hy hz hf hg hh hc⟩
 .cases h
theorem DS.setX{e:aj}{x y:ah}{i:Nat}{p pos:aM}{ρ:Rho}(he:DX X ρ e y)(h:P.ex y ρ)(hN:X.N.Nodup)(hi:X.N[i]?=a3 x)(hx:Loc X.env.scope x)(hs:aK e (a3 (.Name x p)) pos.line X.env=pure a4)(hf:X.fn x=a6\/X.env.scope.names.lookup x=a3 .local) :
  DS X ρ (.Assign [.Name x p] e pos) P:=λσ H E R q=>(Uc hN hi hx peS hs hf).to (he σ H _ R (q.ex y ρ σ H h R (Fr0.refl _ _)))
theorem DS.exprX{e:aj}{y:ah}{pos:aM}{ρ:Rho}(he:DX X ρ e y)(h:P.ex y ρ)(hs:aK e a9 pos.line X.env=pure a4):DS X ρ (.Expr e pos) P:=λσ H E R q =>(Wy peS hs).to (he σ H _ R (q.ex y ρ σ H h R (Fr0.refl _ _)))
theorem DS.retX{e:aj}{y:ah}{pos:aM}{ρ:Rho}(he:DX X ρ e y)(h:P.ex y ρ):DS X ρ (.Return (a3 e) pos) P:=λσ H E R q =>(Wx peS).to (he σ H _ R (q.ex y ρ σ H h R (Fr0.refl _ _)))
theorem Rr{is:List Nat}{it':Ex}{b:Sx}{it tg:aj}{body:List aX}{pos:aM}{ρ:Rho}(hq:X.calm=a6)(c:Cok X G)(hs:∀x,aA it X.env x=pure x)
  (hb:∀ρ d ρ2,za is d (j8 ρ)=a3 ρ2->∃ρ',j8 ρ'=ρ2/\DG X ρ tg d ρ') (hi:∀ρ ds,ev Γ G it' (j8 ρ)=a3 (.i ds)->DI X ρ tg it ds)
  (ih:∀ρ P,Vh (run fu Γ G b (j8 ρ)) P->DSs X ρ body P) (h:Vh (run fu Γ G (.loop is it' b) (j8 ρ)) P):DS X ρ (.For tg it body [] pos) P:=by
 have main:∀ρf:Rho,j8 ρf=frz it' (j8 ρ)->DS X ρf (.For tg it body [] pos) P:=λρf ef=>by
  rw[jkm]at h;rw[<-ef]at h;split at h
  .rename_i ds hds;generalize hf:(λd ρ=>_:D->En->So)=f at h;refine DS.for (ds:=ds) (λi ρ'=>Vh (Jp f (ds.drop i) (j8 ρ')) P) (hi ρf ds hds) (by rw[bU];exact h) (λi d ρ' hd w=>?_) (λρ' w=>?_) hq c.po hs
   .have hdr:ds.drop i=d::ds.drop (i+1):=by obtain⟨hlt,e⟩:=X8.mp hd;rw[Py hlt,e]
    rw[hdr,Jp]at w;have ef2:f d (j8 ρ')=match za is d (j8 ρ')with|some ρ2=>run fu Γ G b ρ2|none=>.no:=by rw[<-hf]<;>rfl
    rw[ef2]at w;cases hb2:za is d (j8 ρ') with
    |none=>rw[hb2]at w;exact w.elim
    |some ρ2 =>
     rw[hb2]at w;obtain⟨ρ3,e3,dg⟩:=hb ρ' d ρ2 hb2;refine⟨ρ3,dg,ih ρ3 _ ?_⟩;rw[e3];dsimp only at w;cases ho:run fu Γ G b ρ2 with
     |next ρ4=>rw[ho]at w;exact λρ5 e=>by rw[<-e]at w;exact w
     |cnt ρ4=>rw[ho]at w;exact λρ5 e=>by rw[<-e]at w;exact w
     |brk ρ4=>rw[ho]at w;exact w
     |ret r=>rw[ho]at w;exact w
     |err x ρ4=>rw[ho]at w;exact w
     |no=>rw[ho]at w;exact w
   .rw[dO,Jp]at w;exact w ρ' rfl
  .exact h.elim
 by_cases z:Jj it' (j8 ρ)=a6
 .unfold Jj at z;split at z
  .rename_i i ei;split at z
   .rename_i l e;obtain⟨a,q⟩:=J2 e;refine DS.freeze i q (main _ ?_);rw[jb];simp only[frz,ei,e,Sl.abs]
   .cases z
  .cases z
 .have z':Jj it' (j8 ρ)=a4:=by simpa using z
  refine main ρ ?_;unfold frz;split
  .rename_i i ei;split
   .rename_i l e;simp only[Jj,ei,e]at z';cases z'
   .rfl
  .rfl
theorem j2r{c':Ex}{b:Sx}{cd:aj}{body:List aX}{pos:aM}{ρ:Rho}(c:Cok X G)(hc:∀ρ k,truth (ev Γ G c' (j8 ρ))=a3 k->DB X ρ cd k)
  (ih:∀ρ P,Vh (run fu Γ G b (j8 ρ)) P->DSs X ρ body P) (h:Vh (run fu Γ G (.whl c' b) (j8 ρ)) P):DS X ρ (.While cd body [] pos) P:=by
 rw[jmn]at h;refine DS.whileN (λn ρ'=>Vh (qx (λρ=>truth (ev Γ G c' ρ)) (λρ=>run fu Γ G b ρ) n (j8 ρ')) P) fu h (λm ρ' w=>?_) c.po;cases m with
 |zero=>rw[qx]at w;exact w.elim
 |succ m =>
  rw[qx]at w;split at w
  .rename_i e;exact⟨a4,hc ρ' a4 e,(λz=>by cases z),λ_=>w ρ' rfl⟩
  .rename_i e;refine⟨a6,hc ρ' a6 e,λ_=>ih ρ' _ ?_,λz=>by cases z⟩;cases ho:run fu Γ G b (j8 ρ') with
   |next ρ4=>rw[ho]at w;exact λρ5 e=>⟨m,S8 _,by rw[<-e]at w;exact w⟩
   |cnt ρ4=>rw[ho]at w;exact λρ5 e=>⟨m,S8 _,by rw[<-e]at w;exact w⟩
   |brk ρ4=>rw[ho]at w;exact w
   |ret r=>rw[ho]at w;exact w
   |err x ρ4=>rw[ho]at w;exact w
   |no=>rw[ho]at w;exact w
  .exact w.elim
theorem j4v{is:List Nat}{elt' it' c':Ex}{elt it tg:aj}{ifs:List aj}{scope:b9}{p p1 pos:aM}{k:Nat}{z:ah}{ρ:Rho}(hq:X.calm=a6)(hX:Cok X G)
  (hk:X.N[k]?=a3 z) (hx:Loc X.env.scope z) (hf:X.fn z=a6\/X.env.scope.names.lookup z=a3 .local)
  (hsw:aK (.ListComp elt [⟨tg,it,ifs,0⟩] scope p) (a3 (.Name z p1)) pos.line X.env=pure a6)
  (hit:∀ρ ds,ev Γ G it' (j8 ρ)=a3 (.i ds)->DI X ρ tg it ds) (hkind:scope.kind=.function) (hok:Q4 scope X.env X.N is=a6) (hs:∀x,aA it X.env x=pure x)
  (hb:∀ρ d ρ2,za is d (j8 ρ)=a3 ρ2->(∀j∈is,ρ[j]?=a3 .un)->∃ρ',j8 ρ'=ρ2/\Wk ρ' ρ/\owns ρ'=owns ρ/\∀C s H fp pn,DG (cCx X scope C s H fp pn) ρ tg d ρ')
  (he:∀C s H fp pn ρ r,ev Γ G elt' (j8 ρ)=a3 (.v r)->Has (cCx X scope C s H fp pn) ρ elt r)
  (hc:∀C s H fp pn ρ,(ev Γ G c' (j8 ρ)=a3 (.a [])->DTs (cCx X scope C s H fp pn) ρ ifs a6)/\∀y k,ev Γ G c' (j8 ρ)=a3 (.a [y])->y.d=.bl k->DTs (cCx X scope C s H fp pn) ρ ifs k)
  (h:Vh (run fu Γ G (.set k (.comp is elt' it' c')) (j8 ρ)) P):DS X ρ (.Assign [.Name z p1] (.ListComp elt [⟨tg,it,ifs,0⟩] scope p) pos) P:=by
 rw[jcs]at h;unfold Rm at h;have h:=(Uz h).resolve_right λ⟨y,ey,_⟩=>by simp only[er]at ey;cases ey
 cases e:ev Γ G (.comp is elt' it' c') (j8 ρ) with
 |none=>rw[e]at h;exact h.elim
 |some w =>
  rw[e]at h;cases w with
  |a _=>exact h.elim
  |i _=>exact h.elim
  |v r =>
   obtain⟨l,ρf,ds,pr,g,er,el,hfz,hi,hun,hz,hb'⟩:=Nx hit hb he hc e;subst er;refine DS.setCf (ρf:=ρf) k is pr g ?_ ?_ hi hb' (λa=>?_) hX.nd hun hz hk hx hf hsw hq hkind hok hs
   .rcases hfz with e|⟨_,i,a,l',q,e⟩
    .subst e;exact λ_ _ _ R=>R
    .subst e;exact λ_ _ _ R=>R.freeze q
   .rcases hfz with e|⟨n,_⟩
    .exact .inl e
    .exact .inr (el▸n)
   .rw[<-el];exact h _ jb
theorem Kc{w:Option W}{d:D}(h:stOf w=a3 d):∃z,w=a3 (.v z)/\z.st=a3 d:=by
 unfold stOf at h;split at h
 .exact⟨_,rfl,h⟩
 .cases h
end
structure Ts(X:Cx)(t:Sx)(nd:Ns):Prop where
 m:∀(fu:Nat)(Γ:ah->List D->Rc)(G:ah->Option D),Cok X G->Gok X Γ->jcu fu Γ G X t nd
theorem Ts.nil:∀{X:Cx},Ts X .nop (.ss []):=by intro _;refine⟨λfu Γ G=>?_⟩;intro c g ρ P h;exact DSs.nil (h ρ rfl)
theorem Ts.cons:∀{X:Cx}{a b:Sx}{st:aX}{rest:List aX},Ts X a (.s st)->Ts X b (.ss rest)->Ts X (.seq a b) (.ss (st::rest)):=by
 intro _ _ _ _ _ q0 q1;refine⟨λfu Γ G=>?_⟩;have iha:=q0.m fu Γ G;have ihb:=q1.m fu Γ G;intro c g ρ P h;rw[j5x]at h;split at h
 .rename_i ρ' e;exact DSs.cons (N:=λρ1=>j8 ρ1=ρ') (iha c g ρ _ (by rw[e];exact λρ2 z=>z)) λρ1 z=>ihb c g ρ1 P (by rw[z];exact h)
 .rename_i o hn;refine DSs.cons (N:=λ_=>False) (iha c g ρ _ ?_) λ_ z=>z.elim;cases e:run fu Γ G _ (j8 ρ) with
  |next ρ'=>exact absurd e (hn ρ')
  |ret r=>rw[e]at h;exact h
  |err x r=>rw[e]at h;exact h
  |brk r=>rw[e]at h;exact h
  |cnt r=>rw[e]at h;exact h
  |no=>rw[e]at h;exact h
theorem Ts.fgt:∀{X:Cx}{i:Nat}{b:Sx}{sts:List aX},Ts X b (.ss sts)->Ts X (.seq (.fgt i) b) (.ss sts):=by intro _ _ _ _ q0;refine⟨λfu Γ G=>?_⟩;have ih:=q0.m fu Γ G;intro c g ρ P h;simp only[j5x,jms]at h;exact DSs.forget _ (ih c g _ P (by rw[jb];exact h))
theorem Ts.keep:∀{X:Cx}{i:Nat}{b:Sx}{sts:List aX},Ts X b (.ss sts)->Ts X (.seq (.keep i) b) (.ss sts):=by
 intro _ i _ _ q0;refine⟨λfu Γ G=>?_⟩;have ih:=q0.m fu Γ G;intro c g ρ P h;simp only[j5x,jkn,Bt]at h;cases e:(j8 ρ)[i]? with
 |none=>rw[e]at h;exact h.elim
 |some v =>
  rw[e]at h;cases v with
  |own l =>obtain⟨a,q⟩:=J2 e;exact DSs.freeze _ q (ih c g _ P (by rw[jb];exact h))
  |un=>exact h.elim
  |val d=>exact ih c g ρ P h
  |exc x=>exact h.elim
theorem Ts.fail:∀{X:Cx}{st:aX},Ts X .fail (.s st):=by intro _ _;refine⟨λfu Γ G=>?_⟩;intro c g ρ P h;exact h.elim
theorem Ts.set:∀{X:Cx}{i:Nat}{x:ah}{e':Ex}{e:aj}{p pos:aM}(hi:X.N[i]?=a3 x) (hx:Loc X.env.scope x) (hs:aK e (a3 (.Name x p)) pos.line X.env=pure a4) (hf:X.fn x=a6\/X.env.scope.names.lookup x=a3 .local),Tr X e' (.e e)->Ts X (.set i e') (.s (.Assign [.Name x p] e pos)):=by
 intro _ _ _ _ _ _ _ hi hx hs hf he;refine⟨λfu Γ G=>?_⟩;intro c g ρ P h;have S:=sound he c g;rw[jcs]at h;unfold Rm at h;rcases Uz h with h|⟨y,ey,hP⟩
 rotate_left
 .exact DS.setX (j0z he c g ρ y ey) (hP ρ rfl) c.nd hi hx hs hf
 split at h
 .rename_i l e;exact DS.setO _ (S ρ _ e) (λa=>h _ jb) c.nd hi hx hs hf
 .rename_i r hn e;split at h
  .rename_i d hd;exact DS.set _ ((S ρ _ e).toE hd) (h _ jb) c.nd hi hx hs hf
  .exact h.elim
 .exact h.elim
theorem Ts.setC1:∀{X:Cx}{k i:Nat}{z y:ah}{py p p1 pos:aM}{elt' it' c':Ex}{elt it:aj}{ifs:List aj} {scope:b9} (hq:X.calm=a6) (hk:X.N[k]?=a3 z) (hx:Loc X.env.scope z) (hf:X.fn z=a6\/X.env.scope.names.lookup z=a3 .local) (hsw:aK (.ListComp elt [⟨.Name y py,it,ifs,0⟩] scope p) (a3 (.Name z p1)) pos.line X.env=pure a6) (hi:X.N[i]?=a3 y) (hl:Uy scope y=a6) (hkind:scope.kind=.function) (hok:Q4 scope X.env X.N [i]=a6) (hs:∀x,aA it X.env x=pure x),Tr X it' (.i (.Name y py) it)->(∀C s H fp pn,Tr (cCx X scope C s H fp pn) elt' (.e elt))->(∀C s H fp pn,Tr (cCx X scope C s H fp pn) c' (.c ifs))->Ts X (.set k (.comp [i] elt' it' c')) (.s (.Assign [.Name z p1] (.ListComp elt [⟨.Name y py,it,ifs,0⟩] scope p) pos)):=by
 intro _ _ _ _ _ _ _ _ _ _ _ _ _ _ _ _ hq hk hx hf hsw hi hl hkind hok hs hit he hc;refine⟨λfu Γ G=>?_⟩;intro c g ρ P h;exact j4v hq c hk hx hf hsw (λρ ds z=>sound hit c g ρ ds z) hkind hok hs (λρ d ρ2 hb hun=>by
  simp only[za]at hb
  cases hb
  have hu:=hun _ (xr.mpr rfl)
  exact⟨_,jb,Wk.set hu,Y4 hu,λC s H fp pn=>DG.name _ c.nd hi (Bg hl) (Ca hl)⟩)
  (λC s H fp pn ρ r z=>sound (he C s H fp pn) c.comp g.comp ρ r z) (λC s H fp pn ρ=>sound (hc C s H fp pn) c.comp g.comp ρ) h
theorem Ts.mov:∀{X:Cx}{i j:Nat}{x y:ah}{p q pos:aM}(hi:X.N[i]?=a3 x) (hj:X.N[j]?=a3 y) (hx:Loc X.env.scope x) (hf:X.fn x=a6\/X.env.scope.names.lookup x=a3 .local) (hv:Vis X.env.scope y) (hd:(y==k9h)=a4) (hcd:(y==k9i)=a4),Ts X (.mov i j) (.s (.Assign [.Name x p] (.Name y q) pos)):=by
 intro _ _ _ _ _ _ _ _ hi hj hx hf hv hd hcd;refine⟨λfu Γ G=>?_⟩;intro c g ρ P h;rw[jmq]at h;unfold Ko at h;split at h
 .rename_i l e;obtain⟨a,q⟩:=J2 e;split at h
  .exact h.elim
  .rename_i hij;exact DS.mov q hij (h _ (by rw[jb,jb];rfl)) c.nd hi hj hx hf hv hd hcd
 .rename_i d e;exact DS.set _ (DE.var _ (Uv e) hj hv hd hcd) (h _ jb) c.nd hi hx rfl hf
 .exact h.elim
theorem Ts.expr:∀{X:Cx}{e':Ex}{e:aj}{pos:aM}(hs:aK e a9 pos.line X.env=pure a4),Tr X e' (.e e)->Ts X (.expr e') (.s (.Expr e pos)):=by
 intro _ _ _ _ hs he;refine⟨λfu Γ G=>?_⟩;intro c g ρ P h;rw[jko]at h;unfold j20 at h;rcases Uz h with h|⟨y,ey,hP⟩
 rotate_left
 .exact DS.exprX (j0z he c g ρ y ey) (hP ρ rfl) hs
 split at h
 .rename_i r e;exact DS.expr (sound he c g ρ r e).toT (h ρ rfl) hs
 .exact h.elim
theorem Ts.ret:∀{X:Cx}{e':Ex}{e:aj}{pos:aM},Tr X e' (.e e)->Ts X (.ret e') (.s (.Return (a3 e) pos)):=by
 intro _ _ _ _ he;refine⟨λfu Γ G=>?_⟩;intro c g ρ P h;rw[jct]at h;unfold retS at h;rcases Uz h with h|⟨y,ey,hP⟩
 rotate_left
 .exact DS.retX (j0z he c g ρ y ey) (hP ρ rfl)
 split at h
 .rename_i l e;exact DS.retO (sound he c g ρ _ e) (h _ rfl)
 .rename_i r hn e;exact DS.ret (sound he c g ρ _ e).toT (h _ rfl)
 .exact h.elim
theorem Ts.retV:∀{X:Cx}{i:Nat}{x:ah}{p pos:aM}(hi:X.N[i]?=a3 x) (hv:Vis X.env.scope x) (hd:(x==k9h)=a4) (hcd:(x==k9i)=a4),Ts X (.retV i) (.s (.Return (a3 (.Name x p)) pos)):=by
 intro _ _ _ _ _ hi hv hd hcd;refine⟨λfu Γ G=>?_⟩;intro c g ρ P h;rw[jki]at h;unfold Bj at h;split at h
 .rename_i l e;obtain⟨a,q⟩:=J2 e;exact DS.retV _ q (h _ rfl) hi hv hd hcd
 .rename_i d e;exact DS.ret (DE.toT (DE.var _ (Uv e) hi hv hd hcd)) (h _ rfl)
 .exact h.elim
theorem Ts.ife:∀{X:Cx}{c':Ex}{a b:Sx}{c:aj}{sa sb:List aX}{pos:aM},Tr X c' (.b c)->Ts X a (.ss sa)->Ts X b (.ss sb)->Ts X (.ife c' a b) (.s (.If c sa sb pos)):=by
 intro _ _ _ _ _ _ _ _ hc q1 q2;refine⟨λfu Γ G=>?_⟩;have iha:=q1.m fu Γ G;have ihb:=q2.m fu Γ G;intro c g ρ P h;rw[jmr]at h;split at h
 .rename_i e;exact DS.if (sound hc c g ρ a6 e) (λ_=>iha c g ρ P h) λz=>by cases z
 .rename_i e;exact DS.if (sound hc c g ρ a4 e) (λz=>by cases z) λ_=>ihb c g ρ P h
 .exact h.elim
theorem Ts.for1:∀{X:Cx}{i:Nat}{y:ah}{it':Ex}{b:Sx}{it:aj}{body:List aX} {p pos:aM} (hq:X.calm=a6) (hi:X.N[i]?=a3 y) (hx:Loc X.env.scope y) (hf:X.fn y=a6\/X.env.scope.names.lookup y=a3 .local) (hs:∀x,aA it X.env x=pure x),Tr X it' (.i (.Name y p) it)->Ts X b (.ss body)->Ts X (.loop [i] it' b) (.s (.For (.Name y p) it body [] pos)):=by intro _ _ _ _ _ _ _ _ _ hq hi hx hf hs hit q1;refine⟨λfu Γ G=>?_⟩;have ih:=q1.m fu Γ G;intro c g ρ P h;exact Rr hq c hs (bind1 c.nd hi hx hf) (λρ ds z=>sound hit c g ρ ds z) (ih c g) h
theorem Ts.for2:∀{X:Cx}{i j:Nat}{x y:ah}{it':Ex}{b:Sx}{it:aj}{body:List aX} {n:Nat} {p q pt pos:aM} (hq:X.calm=a6) (hij:i≠j) (hi:X.N[i]?=a3 x) (hj:X.N[j]?=a3 y) (hx:Loc X.env.scope x) (hy:Loc X.env.scope y) (hf:X.fn x=a6\/X.env.scope.names.lookup x=a3 .local) (hg:X.fn y=a6\/X.env.scope.names.lookup y=a3 .local) (hs:∀x,aA it X.env x=pure x),Tr X it' (.i (.Tuple [.Name x p,.Name y q] n pt) it)->Ts X b (.ss body)->Ts X (.loop [i,j] it' b) (.s (.For (.Tuple [.Name x p,.Name y q] n pt) it body [] pos)):=by intro _ _ _ _ _ _ _ _ _ _ _ _ _ _ hq hij hi hj hx hy hf hg hs hit q1;refine⟨λfu Γ G=>?_⟩;have ih:=q1.m fu Γ G;intro c g ρ P h;exact Rr hq c hs (jmd hq hij c.nd hi hj hx hy hf hg) (λρ ds z=>sound hit c g ρ ds z) (ih c g) h
theorem Ts.for3f:∀{X:Cx}{i j k:Nat}{x y z:ah}{it':Ex}{b:Sx}{it:aj}{body:List aX} {n:Nat} {p q r pt pos:aM} (hq:X.calm=a6) (hi:X.N[i]?=a3 x) (hj:X.N[j]?=a3 y) (hk:X.N[k]?=a3 z) (hx:Loc X.env.scope x) (hy:Loc X.env.scope y) (hz:Loc X.env.scope z) (hf:X.fn x=a6\/X.env.scope.names.lookup x=a3 .local) (hg:X.fn y=a6\/X.env.scope.names.lookup y=a3 .local) (hh:X.fn z=a6\/X.env.scope.names.lookup z=a3 .local) (hs:∀x,aA it X.env x=pure x),Tr X it' (.i (.Tuple [.Name x p,.Name y q,.Name z r] n pt) it)->Ts X b (.ss body)->Ts X (.loop [i,j,k,k] it' b) (.s (.For (.Tuple [.Name x p,.Name y q,.Name z r] n pt) it body [] pos)):=by intro _ _ _ _ _ _ _ _ _ _ _ _ _ _ _ _ _ hq hi hj hk hx hy hz hf hg hh hs hit q1;refine⟨λfu Γ G=>?_⟩;have ih:=q1.m fu Γ G;intro c g ρ P h;exact Rr hq c hs (jjy hq c.nd hi hj hk hx hy hz hf hg hh) (λρ ds z=>sound hit c g ρ ds z) (ih c g) h
theorem Ts.whl:∀{X:Cx}{c':Ex}{b:Sx}{c:aj}{body:List aX}{pos:aM},Tr X c' (.b c)->Ts X b (.ss body)->Ts X (.whl c' b) (.s (.While c body [] pos)):=by intro _ _ _ _ _ _ hc q1;refine⟨λfu Γ G=>?_⟩;have ih:=q1.m fu Γ G;intro c g ρ P h;exact j2r c (λρ k z=>sound hc c g ρ k z) (ih c g) h
theorem Ts.app:∀{X:Cx}{i:Nat}{x:ah}{e':Ex}{e:aj}{p p1 p2 pos:aM}(hN:X.N[i]?=a3 x) (hv:Vis X.env.scope x) (hd:(x==k9h)=a4) (hcd:(x==k9i)=a4) (hst:a8 [e] X.env=[(a4,ay e X.env)]) (hline:(p1.endLine==p2.line)=a6) (hbase:aI (.Name x p) "append" X.env (ay (.Name x p) X.env)=ay (.Name x p) X.env) (hfew:((aL p2 (a8 [e] X.env)).all (λx=>!x.1)&&(aT p2 (aD [] X.env)).all (λx=>x.1.isSome)&&decide (([e]:List aj).length+([]:List aS).length+(if ([]:List aS).isEmpty then 0 else 1)<30))=a6),Tr X e' (.e e)->Ts X (.app i e') (.s (.Expr (.Call (.Attribute (.Name x p) "append" p1) [e] [] p2) pos)):=by
 intro _ _ _ _ _ _ _ _ _ hN hv hd hcd hst hline hbase hfew he;refine⟨λfu Γ G=>?_⟩;intro c g ρ P h;rw[jmu]at h;unfold Ip at h;split at h
 .rename_i l x el ex;obtain⟨a,q⟩:=J2 el;split at h
  .rename_i d hd';split at h
   .rename_i hz;exact DS.append _ q ((sound he c g ρ x ex).toE hd') hz (h _ jb) hN hv hd hcd hst hline hbase hfew rfl
   .exact h.elim
  .exact h.elim
 .exact h.elim
theorem Ts.ext:∀{X:Cx}{i:Nat}{x:ah}{e':Ex}{e:aj}{p p1 p2 pos:aM}(hN:X.N[i]?=a3 x) (hv:Vis X.env.scope x) (hd:(x==k9h)=a4) (hcd:(x==k9i)=a4) (hst:a8 [e] X.env=[(a4,ay e X.env)]) (hline:(p1.endLine==p2.line)=a6) (hbase:aI (.Name x p) "extend" X.env (ay (.Name x p) X.env)=ay (.Name x p) X.env) (hfew:((aL p2 (a8 [e] X.env)).all (λx=>!x.1)&&(aT p2 (aD [] X.env)).all (λx=>x.1.isSome)&&decide (([e]:List aj).length+([]:List aS).length+(if ([]:List aS).isEmpty then 0 else 1)<30))=a6),Tr X e' (.e e)->Ts X (.ext i e') (.s (.Expr (.Call (.Attribute (.Name x p) "extend" p1) [e] [] p2) pos)):=by
 intro _ _ _ _ _ _ _ _ _ hN hv hd hcd hst hline hbase hfew he;refine⟨λfu Γ G=>?_⟩;intro c g ρ P h;rw[jmt]at h;unfold Ig at h;split at h
 .rename_i l m el ex;obtain⟨a,q⟩:=J2 el;split at h
  .rename_i hz;exact DS.extend _ q (sound he c g ρ _ ex) (zm hz) (h _ jb) hN hv hd hcd hst hline hbase hfew rfl
  .exact h.elim
 .exact h.elim
theorem Ts.put:∀{X:Cx}{i:Nat}{x:ah}{k' e':Ex}{k e:aj}{p p1 pos:aM}(hN:X.N[i]?=a3 x) (hv:Vis X.env.scope x) (hd:(x==k9h)=a4) (hcd:(x==k9i)=a4) (ha:∀v,cU (.Subscript (.Name x p) k p1) X.env v=(do
    let ov <-cF [v] (ay (.Name x p) X.env)
    let iv <-cF [v,ov] (ay k X.env)
    fY p1
    cF [v,ov,iv] (setItem ov iv v)
    release [v,ov,iv] [])) (hs:bQ [.Subscript (.Name x p) k p1] e pos.line X.env=pure a4) (hw:bR [.Subscript (.Name x p) k p1] e X.env=pure a9),Tr X k' (.e k)->Tr X e' (.e e)->Ts X (.put i k' e') (.s (.Assign [.Subscript (.Name x p) k p1] e pos)):=by
 intro _ _ _ _ _ _ _ _ _ _ hN hv hd hcd ha hs hw hk he;refine⟨λfu Γ G=>?_⟩;intro c g ρ P h;rw[jmo]at h;unfold Kf at h;split at h
 .rename_i l y x el ey ex;obtain⟨a,q⟩:=J2 el;split at h
  .rename_i j d ej ed;split at h
   .rename_i n en;exact DS.setItem _ q ((sound he c g ρ x ex).toE ed) (ej▸(sound hk c g ρ y ey).toT) en (h _ jb) hN hv hd hcd ha hs hw rfl
   .exact h.elim
  .exact h.elim
 .exact h.elim
theorem Ts.par:∀{X:Cx}{i j:Nat}{x y:ah}{a' b':Ex}{a b:aj}{px py pt pt2 pos:aM}{kt k2:Nat} (hq:X.calm=a6) (hi:X.N[i]?=a3 x) (hj:X.N[j]?=a3 y) (hx:X.env.scope.names.lookup x=a3 .local) (hy:X.env.scope.names.lookup y=a3 .local) (hw:bR [.Tuple [.Name x px,.Name y py] kt pt] (.Tuple [a,b] k2 pt2) X.env=pure (a3 [x,y])) (hsw:bQ [.Tuple [.Name x px,.Name y py] kt pt] (.Tuple [a,b] k2 pt2) pos.line X.env=pure a4) (hs:a8 [a,b] X.env=(a4,ay a X.env)::a8 [b] X.env) (hs2:a8 [b] X.env=(a4,ay b X.env)::a8 [] X.env),Tr X a' (.e a)->Tr X b' (.e b)->Ts X (.par i j a' b') (.s (.Assign [.Tuple [.Name x px,.Name y py] kt pt] (.Tuple [a,b] k2 pt2) pos)):=by
 intro _ _ _ _ _ _ _ _ _ _ _ _ _ _ _ _ hq hi hj hx hy hw hsw hs hs2 ha hb;refine⟨λfu Γ G=>?_⟩;intro c g ρ P h;rw[jmp]at h;unfold Kh at h;split at h
 .rename_i x y ex ey;split at h
  .rename_i d d' ed ed';split at h
   .exact h.elim
   .rename_i hij;exact DS.par hij ((sound ha c g ρ x ex).toE ed) ((sound hb c g ρ y ey).toE ed') (h _ (by rw[jb,jb];rfl)) hq c.nd hi hj hx hy hw hsw hs hs2
  .exact h.elim
 .exact h.elim
theorem Ts.retL:∀{X:Cx}{x:ah}{is:List Nat}{params:dC}{body:aj}{scope:b9}{cl:List (ah×ae)} {p1 pos:aM} (hx:x∈V9) (hqu:X.env.qual=x ++ ".<locals>.") (hdef:fN params X.env=([],[])) (hcl:dM scope X.env=pure cl) (ht:Z5 X.K x=a3 (params,body,scope)) (hn:cl.map (·.1)=zx scope) (nd:(zx scope).Nodup) (hc:j5y X cl is),Ts X (.retL x is) (.s (.Return (a3 (.Lambda params body scope p1)) pos)):=by
 intro _ _ _ _ _ _ _ _ _ hx hqu hdef hcl ht hn nd hc;refine⟨λfu Γ G=>?_⟩;intro c g ρ P h;rw[jkj]at h;unfold Cp at h;split at h
 .rename_i ds e;exact DS.retLam ⟨hx,hqu,c.lm _ hx hqu⟩ hdef hcl ht hn nd (Il hc e) (h (.val _) rfl)
 .exact h.elim
theorem Ts.retC:∀{X:Cx}{f x:ah}{is:List Nat}{a' b':Ex}{a b:aj}{params:dC}{body:aj} {scope:b9} {cl:List (ah×ae)} {p1 p2 p3 pos:aM} (hx:x∈V9) (hqu:X.env.qual=x ++ ".<locals>.") (hdef:fN params X.env=([],[])) (hcl:dM scope X.env=pure cl) (ht:Z5 X.K x=a3 (params,body,scope)) (hn:cl.map (·.1)=zx scope) (nd:(zx scope).Nodup) (hc:j5y X cl is) (hg:Gl X f) (hdb:(f==k9h)=a4) (hs1:a8 [a,b,.Lambda params body scope p1] X.env=(a4,ay a X.env)::a8 [b,.Lambda params body scope p1] X.env) (hs2:a8 [b,.Lambda params body scope p1] X.env=(a4,ay b X.env)::a8 [.Lambda params body scope p1] X.env) (hs3:a8 [.Lambda params body scope p1] X.env=(a4,ay (.Lambda params body scope p1) X.env)::a8 [] X.env) (hpl:(aL p3 (a8 [b,.Lambda params body scope p1] X.env)).any (·.1)=a4),Tr X a' (.e a)->Tr X b' (.e b)->Ts X (.retC f x a' b' is) (.s (.Return (a3 (.Call (.Name f p2) [a,b,.Lambda params body scope p1] [] p3)) pos)):=by
 intro _ f x is a' b' a b params body scope cl p1 p2 p3 pos hx hqu hdef hcl ht hn nd hc hg hdb hs1 hs2 hs3 hpl ha hb;refine⟨λfu Γ G=>?_⟩;intro c g ρ P h;rw[jkk]at h;unfold Cq at h;split at h
 .rename_i ds u v e1 e2 e3;have q:=g f [u.d,v.d,.fn x ds];cases z:Γ f [u.d,v.d,.fn x ds] with
  |val d =>
   rw[z]at h q;dsimp only[j0b]at h;split at h
   .rename_i nf;exact DS.ret (DT.callL q ⟨hx,hqu,c.lm _ hx hqu⟩ hdef hcl ht hn nd (Il hc e1) (sound ha c g ρ u e2).toT (sound hb c g ρ v e3).toT nf ⟨rfl,rfl⟩ hg hdb hs1 hs2 hs3 hpl) (h (.val _) rfl)
   .exact h.elim
  |fresh l=>rw[z]at h;exact h.elim
  |err x=>rw[z]at h;exact h.elim
  |lval d=>rw[z]at h;exact h.elim
  |no=>rw[z]at h;exact h.elim
 .exact h.elim
theorem Ts.nmake:∀{X:Cx}{x t y:Nat}{nx nt ny:ah}{it' e1' e2':Ex}{it e1 e2:aj}{p1 p2 p3 p4 p5 p6 p10 p11 p12 p14 p16 p17 p18:aM}(hq:X.calm=a6) (hX:X.N[x]?=a3 nx) (hT:X.N[t]?=a3 nt) (hY:X.N[y]?=a3 ny) (lx:Loc X.env.scope nx) (lt:Loc X.env.scope nt) (ly:Loc X.env.scope ny) (fx:X.fn nx=a6\/X.env.scope.names.lookup nx=a3 .local) (ft:X.fn nt=a6\/X.env.scope.names.lookup nt=a3 .local) (fy:X.fn ny=a6\/X.env.scope.names.lookup ny=a3 .local) (dx:(nx==k9h)=a4) (cx:(nx==k9i)=a4) (dt:(nt==k9h)=a4) (ct:(nt==k9i)=a4) (s1:aK (.Dict [] [] p2) (a3 (.Name nx p1)) p3.line X.env=pure a4) (s2:aK e1 (a3 (.Name ny p5)) p6.line X.env=pure a4) (s3:aK e2 (a3 (.Subscript (.Name nx p10) (.Name nt p11) p12)) p14.line X.env=pure a4) (hf:∀x,aA it X.env x=pure x),Tr X it' (.i (.Name nt p4) it)->Tr X e1' (.e e1)->Tr X e2' (.e e2)->Ts X (.nmake x t y it' e1' e2') (.ss (jcd nx nt ny it e1 e2 p1 p2 p3 p4 p5 p6 p10 p11 p12 p14 p16 p17 p18)):=by
 intro _ x t y nx nt ny it' e1' e2' it e1 e2 p1 p2 p3 p4 p5 p6 p10 p11 p12 p14 p16 p17 p18 hq hX hT hY lx lt ly fx ft fy dx cx dt ct s1 s2 s3 hf hit he1 he2;refine⟨λfu Γ G=>?_⟩;intro c g ρ P h;rw[j4k]at h;split at h
 .rename_i hcnd;obtain⟨rx,rt,ry,hxt,hxy,hty⟩:=hcnd;have ln:(j8 ρ).length=ρ.length:=by unfold j8;rw[km]
  rw[ln]at rx rt ry;split at h
  .rename_i ds eds;split at h
   .rename_i r er;refine DSs.nmake (W:=λi ρ' ks ns=>Y6 (λρ=>stOf (ev Γ G e1' ρ)) (λρ=>stOf (ev Γ G e2' ρ)) x t y (ds.drop i) (j8 ρ') ks ns=a3 r) rx rt ry hxt hxy hty (sound hit c g (ρ.set x .un) ds (by rw[jb];exact eds))
     (by rw[bU,jb];exact er) (λi d ρ' ks ns hd w=>?_) (λρ' ks ns w=>?_) c.un' hq c.po c.nd hX hT hY lx lt ly fx ft fy dx cx dt ct s1 s2 s3 hf
    .have hdr:ds.drop i=d::ds.drop (i+1):=by obtain⟨hlt,e⟩:=X8.mp hd;rw[Py hlt,e]
     rw[hdr]at w;cases d with
     |tup l =>
      simp only[Y6]at w;split at w
      .rename_i k d1 ek ed;obtain⟨z,ez,ed2⟩:=Kc ed;have hk:=Q7 ek;subst hk;split at w
       .rename_i n en;obtain⟨z2,ez2,ed3⟩:=Kc en;split at w
        .rename_i hh;refine⟨k,d1,n,rfl,(sound he1 c g (ρ'.set t (.val (.tup (k.map D.int)))) z (by rw[jb];exact ez)).toE ed2,(sound he2 c g (((ρ'.set t (.val (.tup (k.map D.int)))).set y (.val d1)).set x (.val (.dct ks (ns.map D.int)))) z2 (by rw[jb,jb,jb];exact ez2)).toE ed3,hh.1,hh.2,by rw[jb,jb];exact w⟩
        .cases w
       .cases w
      .cases w
     |_=>simp only[Y6]at w;cases w
    .rw[dO,Y6]at w;cases w;exact h (.val (.dct ks (ns.map D.int))) rfl
   .exact h.elim
  .exact h.elim
 .exact h.elim
theorem Ts.wmake:∀{X:Cx}{x t:Nat}{nx nt:ah}{it' e2':Ex}{it e2:aj}{p1 p2 p3 p4 p10 p11 p12 p14 p16 p17 p18:aM}(hq:X.calm=a6) (hX:X.N[x]?=a3 nx) (hT:X.N[t]?=a3 nt) (lx:Loc X.env.scope nx) (lt:Loc X.env.scope nt) (fx:X.fn nx=a6\/X.env.scope.names.lookup nx=a3 .local) (ft:X.fn nt=a6\/X.env.scope.names.lookup nt=a3 .local) (dx:(nx==k9h)=a4) (cx:(nx==k9i)=a4) (dt:(nt==k9h)=a4) (ct:(nt==k9i)=a4) (s1:aK (.Dict [] [] p2) (a3 (.Name nx p1)) p3.line X.env=pure a4) (s3:aK e2 (a3 (.Subscript (.Name nx p10) (.Name nt p11) p12)) p14.line X.env=pure a4) (hf:∀x,aA it X.env x=pure x),Tr X it' (.i (.Name nt p4) it)->Tr X e2' (.e e2)->Ts X (.wmake x t it' e2') (.ss (jc0 nx nt it e2 p1 p2 p3 p4 p10 p11 p12 p14 p16 p17 p18)):=by
 intro _ x t nx nt it' e2' it e2 p1 p2 p3 p4 p10 p11 p12 p14 p16 p17 p18 hq hX hT lx lt fx ft dx cx dt ct s1 s3 hf hit he2;refine⟨λfu Γ G=>?_⟩;intro c g ρ P h;rw[j4j]at h;split at h
 .rename_i hcnd;obtain⟨rx,rt,hxt⟩:=hcnd;have ln:(j8 ρ).length=ρ.length:=by unfold j8;rw[km]
  rw[ln]at rx rt;split at h
  .rename_i ds eds;split at h
   .rename_i r er;refine DSs.wmake (W:=λi ρ' ks ns=>Vx (λρ=>stOf (ev Γ G e2' ρ)) x t (ds.drop i) (j8 ρ') ks ns=a3 r) rx rt hxt (sound hit c g (ρ.set x .un) ds (by rw[jb];exact eds))
     (by rw[bU,jb];exact er) (λi d ρ' ks ns hd w=>?_) (λρ' ks ns w=>?_) c.un' hq c.po c.nd hX hT lx lt fx ft dx cx dt ct s1 s3 hf
    .have hdr:ds.drop i=d::ds.drop (i+1):=by obtain⟨hlt,e⟩:=X8.mp hd;rw[Py hlt,e]
     rw[hdr]at w;cases d with
     |tup l =>
      simp only[Vx]at w;split at w
      .rename_i k n ek en;obtain⟨z2,ez2,ed3⟩:=Kc en;have hk:=Q7 ek;subst hk;split at w
       .rename_i hh;refine⟨k,n,rfl,(sound he2 c g ((ρ'.set t (.val (.tup (k.map D.int)))).set x (.val (.dct ks (ns.map D.int)))) z2 (by rw[jb,jb];exact ez2)).toE ed3,hh.1,hh.2,by rw[jb];exact w⟩
       .cases w
      .cases w
     |_=>simp only[Vx]at w;cases w
    .rw[dO,Vx]at w;cases w;exact h (.val (.dct ks (ns.map D.int))) rfl
   .exact h.elim
  .exact h.elim
 .exact h.elim
theorem Ts.apop:∀{X:Cx}{i w:Nat}{x u:ah}{e':Ex}{e:aj}{p1 p2 p3 p4 p5 p6 pos:aM}(hN:X.N[i]?=a3 x) (hv:Vis X.env.scope x) (hd:(x==k9h)=a4) (hcd:(x==k9i)=a4) (hN2:X.N[w]?=a3 u) (hv2:Vis X.env.scope u) (hd2:(u==k9h)=a4) (hcd2:(u==k9i)=a4) (hst:a8 [e] X.env=[(a4,ay e X.env)]) (hst1:a8 [.Call (.Attribute (.Name u p4) "pop" p5) [e] [] p6] X.env=[(a4,ay (.Call (.Attribute (.Name u p4) "pop" p5) [e] [] p6) X.env)]) (hline:(p2.endLine==p3.line)=a6) (hline2:(p5.endLine==p6.line)=a6) (hbase:aI (.Name x p1) "append" X.env (ay (.Name x p1) X.env)=ay (.Name x p1) X.env) (hbase2:aI (.Name u p4) "pop" X.env (ay (.Name u p4) X.env)=ay (.Name u p4) X.env) (hfew:((aL p3 (a8 [.Call (.Attribute (.Name u p4) "pop" p5) [e] [] p6] X.env)).all (λx=>!x.1)&&(aT p3 (aD [] X.env)).all (λx=>x.1.isSome)&&decide (([.Call (.Attribute (.Name u p4) "pop" p5) [e] [] p6]:List aj).length+([]:List aS).length+(if ([]:List aS).isEmpty then 0 else 1)<30))=a6) (hfew2:((aL p6 (a8 [e] X.env)).all (λx=>!x.1)&&(aT p6 (aD [] X.env)).all (λx=>x.1.isSome)&&decide (([e]:List aj).length+([]:List aS).length+(if ([]:List aS).isEmpty then 0 else 1)<30))=a6) (hs:aK (.Call (.Attribute (.Name x p1) "append" p2) [.Call (.Attribute (.Name u p4) "pop" p5) [e] [] p6] [] p3) a9 pos.line X.env=pure a4),Tr X e' (.e e)->Ts X (.apop i w e') (.s (.Expr (.Call (.Attribute (.Name x p1) "append" p2) [.Call (.Attribute (.Name u p4) "pop" p5) [e] [] p6] [] p3) pos)):=by
 intro _ _ _ _ _ _ _ _ _ _ _ _ _ _ hN hv hd hcd hN2 hv2 hd2 hcd2 hst hst1 hline hline2 hbase hbase2 hfew hfew2 hs he;refine⟨λfu Γ G=>?_⟩;intro c g ρ P h;rw[jkp]at h;unfold Nb at h;split at h
 .rename_i l m y el em ey;obtain⟨a,q⟩:=J2 el;obtain⟨b,q2⟩:=J2 em;split at h
  .rename_i z ez;split at h
   .rename_i k ek;split at h
    .rename_i d ed;split at h
     .rename_i hc;exact DS.apop q q2 hc.1 ((sound he c g ρ y ey).toE ez) ek ed hc.2.1 hc.2.2 (h _ (by rw[jb,jb];rfl)) hN hv hd hcd hN2 hv2 hd2 hcd2 hst hst1 hline hline2 hbase hbase2 hfew hfew2 hs
     .exact h.elim
    .exact h.elim
   .exact h.elim
  .exact h.elim
 .exact h.elim
theorem Ts.pop3:∀{X:Cx}{i j k w n:Nat}{x y z u:ah}{p1 p2 p3 p4 p5 p6 q1 pos:aM}(hq:X.calm=a6)(hi:X.N[i]?=a3 x) (hj:X.N[j]?=a3 y) (hk:X.N[k]?=a3 z) (hN:X.N[w]?=a3 u) (hx:Loc X.env.scope x) (hy:Loc X.env.scope y) (hz:Loc X.env.scope z) (fx:X.fn x=a6\/X.env.scope.names.lookup x=a3 .local) (fy:X.fn y=a6\/X.env.scope.names.lookup y=a3 .local) (fz:X.fn z=a6\/X.env.scope.names.lookup z=a3 .local) (hv:Vis X.env.scope u) (hd:(u==k9h)=a4) (hcd:(u==k9i)=a4) (hline:(p5.endLine==p6.line)=a6) (hbase:aI (.Name u p4) "pop" X.env (ay (.Name u p4) X.env)=ay (.Name u p4) X.env) (hs:bQ [.Tuple [.Name x p1,.Name y p2,.Name z p3] n q1] (.Call (.Attribute (.Name u p4) "pop" p5) [] [] p6) pos.line X.env=pure a4) (hw:bR [.Tuple [.Name x p1,.Name y p2,.Name z p3] n q1] (.Call (.Attribute (.Name u p4) "pop" p5) [] [] p6) X.env=pure a9),Ts X (.pop3 i j k w) (.s (.Assign [.Tuple [.Name x p1,.Name y p2,.Name z p3] n q1] (.Call (.Attribute (.Name u p4) "pop" p5) [] [] p6) pos)):=by
 intro _ _ _ _ _ _ _ _ _ _ _ _ _ _ _ _ _ _ hq hi hj hk hN hx hy hz fx fy fz hv hd hcd hline hbase hs hw;refine⟨λfu Γ G=>?_⟩;intro c g ρ P h;rw[jkl]at h;unfold popS at h;split at h
 .rename_i l e;obtain⟨a,q⟩:=J2 e;split at h
  .rename_i d1 d2 d3 el;rw[ja1 el]at q;exact DS.pop3 q (h _ (by rw[jb,jb,jb,jb];rfl)) hq c.nd hi hj hk hN hx hy hz fx fy fz hv hd hcd hline hbase hs hw
  .exact h.elim
 .exact h.elim
section
theorem Wv{fu:Nat}{Γ:ah->List D->Rc}{G:ah->Option D}{X:Cx}{t:Sx}{nd:Ns}(h:Ts X t nd):Cok X G->Gok X Γ->jcu fu Γ G X t nd:=h.m fu Γ G
end
structure Fi where
 n:Nat
 nn:Nat
 body:Sx
 lam:Bool
noncomputable def j5d:Rc->Rc
 |.val d=>.lval d
 |_=>.no
noncomputable def fin:So->Rc
 |.ret r=>r
 |.next _=>.val .non
 |.err x _=>.err x
 |_=>.no
noncomputable def enter(F:Fi)(ds:List D):En:=ds.map Sv.val++a5 (F.nn-F.n) Sv.un
noncomputable def evP(fu:Nat)(G:ah->Option D)(T:ah->Option Fi):Nat->ah->List D->Rc
 |0,_,_=>.no
 |n+1,f,ds=>match T f with
  |none=>.no
  |some F=>if ds.length=F.n then(if F.lam=a6 then j5d (fin (run fu (evP fu G T n) G F.body (enter F ds)))else fin (run fu (evP fu G T n) G F.body (enter F ds)))else .no
structure Lk(P:av)(w:az)(K:k9d)(mg:k9g)(base:aC)(x:ah)(F:Fi):Prop where
 ex:∃(st:aX)(f:ae)(fd:aN)(N ps:List ah),Fun K x x st f fd/\FnScope N ps (jc st)/\ps.length=F.n/\N.length=F.nn/\Binds K fd ps []/\Dfl K x fd ps/\mg x=a3 (.ref f) /\
  ∀(cdv:aa)(A:aB)(outer:List dR)(s:af)(H:Hp)(E:XK)(xe:k9e),Ts ((J1 CX0 P w K mg base N x (jc st) f cdv A outer s H E).wish xe) F.body (.ss (jr st))
structure LkL(P:av)(w:az)(K:k9d)(mg:k9g)(base:aC)(x:ah)(F:Fi):Prop where
 ex:∃(tx:Tx)(N ps:List ah)(e:Ex),Z5 K x=a3 tx/\LamScope N ps tx.2.2/\N.length=F.n/\F.nn=F.n/\F.body=.ret e /\
  (∀(cl:List (ah×ae)) (pm:aa) (c:ae) (ctv:aa) (us:List aa),us.length=ps.length->fb (W.kla_fn "<lambda>" (jx x) tx.1 tx.2.1 tx.2.2 cl pm (.ref c) ctv) ⟨us,[]⟩=pure (ps.zip us)) /\
  ∀(a c:ae)(cl:List (ah×ae)) (A:aB) (outer:List dR) (s:af) (H:Hp),Tr (W9 P w K mg base N (jx x) tx.2.2 a (.ref c) cl A outer s H) e (.e tx.2.1)
def LkF(P:av)(w:az)(K:k9d)(mg:k9g)(base:aC)(f:ah)(F:Fi):Prop:=(F.lam=a4->Lk P w K mg base f F/\f.cps.toList.getLast?≠a3 62)/\(F.lam=a6->∃x,f=jx x/\LkL P w K mg base x F)
def j8s(P:av)(w:az)(K:k9d)(mg:k9g)(base:aC):Prop:=∃(f:ae)(fd:aN)(ps:List ah),FnOk P w K mg base CX0 11 f fd ps (jgj K jc7)/\mg "_law_plan" = a3 (.ref f)/\W.keepIn K (.ref f)=a6/\Binds K fd ps []/\Dfl K "_law_plan" fd ps
structure Tb(P:av)(w:az)(K:k9d)(mg:k9g)(base:aC)(G:ah->Option D):Prop where
 bt:∀x∈Yi,mg x=a9
 gl:∀x d,Yh x=a4->G x=a3 d->∃u v,mg x=a3 u/\RelV v u/\∀H,Enc K H d v
 ea:j0i K=a6
 ec:∀x d,G (bang x)=a3 d->x∈Q0/\∃o,W.nsIn K au x=a3 (a3 o)
 el:G "?" = a3 (.bl a6)->∀c∈Q0,∃v,W.nsIn K au c=a3 (a3 v)
 kin:K.In base
 ns:base.Ns au mg
 kd:∀x l,G (bang x)=a3 (.lst l)->KindsP P w K mg base "_law_kinds" x l
 fn:∀f d,G (qm f)=a3 d->∃fa,mg f=a3 (.ref fa)/\W.keepIn K (.ref fa)=a6
 pl:∀d,G (qm "_law_plan")=a3 d->j8s P w K mg base
 lm:∀x∈V9,∀f cdv,mg x=a3 (.ref f)->Bc K f cdv->∃c Pt,cdv=.ref c/\W.codeHdIn K c Pt=a6/\W.tabIn K x=a3 (c,Pt)
structure LkH(P:av)(w:az)(K:k9d)(mg:k9g)(base:aC)(x:ah)(F:Fi):Prop where
 ex:∃(st:aX)(f:ae)(fd:aN)(N:List ah)(p:ah),Fun K x x st f fd/\FnScope N [p] (jc st)/\1<=N.length/\N.length=F.nn/\Binds K fd [p] []/\mg x=a3 (.ref f) /\
  ∀(cdv:aa)(A:aB)(outer:List dR)(s:af)(H:Hp),Ts { (J1 CX0 P w K mg base N x (jc st) f cdv A outer s H E0).nox with calm:=a4 } F.body (.ss (jr st))
section
variable{P:av}{w:az}{K:k9d}{mg:k9g}{base:aC}{fu:Nat}{G:ah->Option D}{T:ah->Option Fi}
theorem Ms{N:List ah}{ds:List D}{F:Fi}(h1:ds.length=F.n)(h2:N.length=F.nn):j8 (zb N ds)=enter F ds:=by unfold j8 zb enter;rw[Xe,Xj,iW,h1,h2];rfl
theorem Oz(y:ah):(bang y).cps.toList.head?=a3 33:=by unfold bang;show(("!":ah).cps++y.cps).toList.head?=a3 33;rw[S5];rfl
theorem jfs (y:ah):bang y ≠ "?":=λh=>by have:=Oz y;rw[h]at this;exact absurd this (by decide)
theorem j3m(y:ah):(qm y).cps.toList.head?=a3 63:=by unfold qm;show(("??":ah).cps++y.cps).toList.head?=a3 63;rw[S5];rfl
theorem jld (y:ah):qm y ≠ "?":=λh=>by
 have e:((qm y).cps.toList.drop 1).head?=a3 63:=by unfold qm;show((("??":ah).cps++y.cps).toList.drop 1).head?=a3 63;rw[S5];rfl
 rw[h]at e;exact absurd e (by decide)
theorem jh1{x y:ah}(h:qm x=qm y):x=y:=by unfold qm at h;have h:(⟨("??":ah).cps++x.cps⟩:ah)=⟨("??":ah).cps++y.cps⟩:=h;have h:=congrArg kS h;have e:x.cps=y.cps:=gX h rfl;cases x;cases y;cases e;rfl
theorem j4i(x y:ah):bang x≠qm y:=λh=>by have:=Oz x;rw[h,j3m]at this;exact absurd this (by decide)
theorem N8{x y z:ah}(h:x++z=y++z):x=y:=by have h:(⟨x.cps++z.cps⟩:ah)=⟨y.cps++z.cps⟩:=h;have h:=congrArg kS h;have e:x.cps=y.cps:=Array.append_inj_left' h rfl;cases x;cases y;cases e;rfl
theorem ja3{x y:ah}(h:jx x=jx y):x=y:=N8 (N8 h)
theorem Ej(x:ah):(jx x).cps.toList.getLast?=a3 62:=by unfold jx;show(((x ++ ".<locals>.").cps)++("<lambda>":ah).cps).toList.getLast?=a3 62;rw[S5,iC];rfl
theorem j5e(x:ah):jx x∉V9:=λh=>by
 have e:=Ej x
 revert e
 unfold V9 at h;rcases xn.mp h with h|h
 .rw[h];decide
 rcases xn.mp h with h|h
 .rw[h];decide
 rcases xn.mp h with h|h
 .rw[h];decide
 .rw[xr.mp h];decide
theorem jgt{fu:Nat}{Γ:ah->List D->Rc}{G:ah->Option D}{e:Ex}{ρ:En}{d:D}(h:fin (run fu Γ G (.ret e) ρ)=.val d):∃r,ev Γ G e ρ=a3 (.v r)/\r.d=d:=by
 rw[jct]at h;cases z:ev Γ G e ρ with
 |none=>rw[z]at h;cases y:er Γ G e ρ<;>(rw[y]at h;cases h)
 |some w =>
  cases w with
  |v r =>
   rw[z]at h;cases r with
   |o l=>cases h
   |e d=>cases h;exact⟨_,rfl,rfl⟩
   |w l=>cases h;exact⟨_,rfl,rfl⟩
   |t d=>cases h;exact⟨_,rfl,rfl⟩
  |a l=>rw[z]at h;cases y:er Γ G e ρ<;>(rw[y]at h;cases h)
  |i l=>rw[z]at h;cases y:er Γ G e ρ<;>(rw[y]at h;cases h)
theorem Uq (t:Tb P w K mg base G) {X:Cx} {n:Nat} (h1:X.prog=P) (h2:X.w=w) (h3:X.K=K) (h4:X.mg=mg) (h5:X.base=base) (hn:12<=n) (hr:Room n X.A) (nd:X.N.Nodup) (po:dB (ax X.prog X.w) X.A X.env X.xe) (hlm:∀x∈V9,X.env.qual=x ++ ".<locals>."->∃c P,X.env.code=.ref c/\W.codeHdIn K c P=a6/\W.tabIn K x=a3 (c,P)):Cok X G:=by subst h1 h2 h3 h4 h5;exact⟨by have:=hr.un;omega,(λ_=>by have:=hr.un;omega),(λ_=>by have:=hr.dp;omega),t.bt,t.gl,nd,po,t.ea,t.ec,t.el,t.kin,t.ns,t.kd,t.fn,λd e=>let ⟨f,fd,ps,F,h1,h2,h3,h4⟩:=t.pl d e;⟨11,f,fd,ps,F,hr.mono hn,h1,h2,h3,h4⟩,hlm⟩
theorem Bs (t:Tb P w K mg base G) {g:ah} {f:ae} {cdv:aa} {env:dR} (hm:mg g=a3 (.ref f)) (hcv:Bc K f cdv) (hq:env.qual=g ++ ".<locals>.") (hc:env.code=cdv):∀x∈V9,env.qual=x ++ ".<locals>."->∃c P,env.code=.ref c/\W.codeHdIn K c P=a6/\W.tabIn K x=a3 (c,P):=λx hx e=>by have eg:=N8 (hq.symm.trans e);subst eg;rw[hc];exact t.lm _ hx f cdv hm hcv
noncomputable def lv:Nat->Nat
 |0=>12
 |n+1=>lv n+2
theorem W6:∀n,12<=lv n+1
 |0=>by decide
 |n+1=>by have:=W6 n;unfold lv;omega
theorem Cr(hT:∀x F,T x=a3 F->LkF P w K mg base x F)(t:Tb P w K mg base G):∀(n:Nat)(x:ah)(ds:List D),
  ∃(f:ae)(fd:aN)(ps:List ah),match evP fu G T n x ds with
   |.val d=>FnOk P w K mg base CX0 (lv n) f fd ps (spP K λds' d'=>ds'=ds/\d'=d)/\mg x=a3 (.ref f)/\W.keepIn K (.ref f)=a6/\Binds K fd ps []/\Dfl K x fd ps
   |.fresh l=>FnOk P w K mg base CX0 (lv n) f fd ps (spF K λds' l'=>ds'=ds/\l'=l)/\mg x=a3 (.ref f)/\W.keepIn K (.ref f)=a6/\Binds K fd ps []/\Dfl K x fd ps
   |.err y=>FnOk P w K mg base (CX1 P w) (lv n) f fd ps (spX K mg λds' z=>ds'=ds/\z=y)/\mg x=a3 (.ref f)/\W.keepIn K (.ref f)=a6/\Binds K fd ps []
   |.lval d=>∀y,x=jx y->j0m P w K mg base (lv n) y λds' d'=>ds'=ds/\d'=d
   |.no=>True
 |0,x,ds=>⟨0,W.fnOf x x { posonlyargs:=[],args:=[],vararg:=a9,kwonlyargs:=[],kw_defaults:=[],kwarg:=a9,defaults:=[] } [] { kind:=.function,names:=[],isGenerator:=a4,isCoroutine:=a4 } .none .none .none .none a9 .none .none,[],trivial⟩
 |n+1,x,ds=>by
  have ih:=Cr hT t n;cases hF:T x with
  |none =>
   obtain⟨f,fd,ps,_⟩:=ih x ds;refine⟨f,fd,ps,?_⟩;have e:evP fu G T (n+1) x ds=.no:=by simp only[evP,hF]
   rw[e];trivial
  |some F =>
   have gok:∀{X:Cx},X.prog=P->X.w=w->X.K=K->X.mg=mg->X.base=base->Room (lv n+1) X.A->Gok X (evP fu G T n):=λ{X} h1 h2 h3 h4 h5 hr g ds'=>by
    subst h1 h2 h3 h4 h5;obtain⟨f',fd',ps',q⟩:=ih g ds';cases z:evP fu G T n g ds' with
    |val d=>rw[z]at q;exact⟨lv n,f',fd',ps',q.1,hr,q.2.1,q.2.2.1,q.2.2.2⟩
    |fresh l=>rw[z]at q;exact⟨lv n,f',fd',ps',q.1,hr,q.2.1,q.2.2.1,q.2.2.2⟩
    |err y=>rw[z]at q;exact⟨lv n,f',fd',ps',q.1,hr.mono (Pr _),q.2.1,q.2.2.1,q.2.2.2⟩
    |lval d=>rw[z]at q;exact λy hy=>⟨lv n,hr.mono (Pr _),q y hy⟩
    |no=>trivial
   cases hlam:F.lam with
   |true =>
    obtain⟨f,fd,ps,_⟩:=ih x ds;refine⟨f,fd,ps,?_⟩;by_cases hl:ds.length=F.n
    .have e:evP fu G T (n+1) x ds=j5d (fin (run fu (evP fu G T n) G F.body (enter F ds))):=by simp only[evP,hF,if_pos hl,hlam,if_true]
     rw[e];obtain⟨y,ey,L⟩:=(hT x F hF).2 hlam;obtain⟨tx,N,ps,ex,htx,hsc,hN,hnn,hbd,hba,htr⟩:=L.ex;cases ho:fin (run fu (evP fu G T n) G F.body (enter F ds)) with
     |val d =>intro y' hy';have eyy:y=y':=ja3 (ey.symm.trans hy');subst eyy;refine jia (k:=lv n+1) htx hsc (λds' d' h=>by rw[h.1,hl,hN]) hba λa c cl A outer s H hcl hr ds' d' ⟨e1,e2⟩=>?_;subst e1 e2;have ab:j8 (zb N ds')=enter F ds':=Ms hl (by rw[hN,hnn]);rw[hbd,<-ab]at ho;obtain⟨r,er,ed⟩:=jgt ho;exact ed▸(sound (htr a c cl A outer s H) (Uq t rfl rfl rfl rfl rfl (W6 _) hr hsc.nd bW λz hz hq=>absurd (N8 hq▸hz) (j5e y)) (gok rfl rfl rfl rfl rfl hr) (zb N ds') r er).toT
     |fresh l=>trivial
     |err z=>trivial
     |lval z=>trivial
     |no=>trivial
    .have e:evP fu G T (n+1) x ds=.no:=by simp only[evP,hF,if_neg hl]
     rw[e];trivial
   |false =>
   obtain⟨st,f,fd,N,ps,hfun,hsc,hps,hN,hb,hdf,hm,hts⟩:=((hT x F hF).1 hlam).1.ex;refine⟨f,fd,ps,?_⟩;by_cases hl:ds.length=F.n
   .have e:evP fu G T (n+1) x ds=fin (run fu (evP fu G T n) G F.body (enter F ds)):=by simp only[evP,hF,if_pos hl,hlam,ph,if_false]
    have ab:j8 (zb N ds)=enter F ds:=Ms hl hN;cases ho:run fu (evP fu G T n) G F.body (enter F ds) with
    |next ρ' =>rw[e,ho];refine⟨Ia (k:=lv n+1) hfun hsc (λds' d' h=>by rw[h.1,hl,hps]) λcdv A outer s H E hcv hr ds' d' ⟨e1,e2⟩=>?_,hm,hfun.kp,hb,hdf⟩;subst e1 e2;refine Wv (fu:=fu) (hts cdv A outer s H E _) (Uq t rfl rfl rfl rfl rfl (W6 _) hr hsc.nd bW (Bs t hm hcv rfl rfl)) (gok rfl rfl rfl rfl rfl hr) (zb N ds') _ ?_;rw[ab,ho];exact λ_ _=>rfl
    |ret r =>
     rw[e,ho];cases r with
     |no=>trivial
     |lval d=>exact λy hy=>absurd (hy▸Ej y) ((hT x F hF).1 hlam).2
     |err y =>refine⟨j7p (k:=lv n+1) hfun hsc (λds' d' h=>by rw[h.1,hl,hps]) λcdv A outer s H E hcv hr ds' y' ⟨e1,e2⟩=>?_,hm,hfun.kp,hb⟩;subst e1 e2;refine Wv (X:=J1 (CX1 P w) P w K mg base N x (jc st) f cdv A outer s H E) (fu:=fu) (hts cdv A outer s H E (J1 (CX1 P w) P w K mg base N x (jc st) f cdv A outer s H E).xe) (Uq t rfl rfl rfl rfl rfl (W6 _) hr hsc.nd gY (Bs t hm hcv rfl rfl)) (gok rfl rfl rfl rfl rfl hr) (zb N ds') _ ?_;rw[ab,ho];intro z hz;cases z<;>cases hz
     |val d =>
      refine⟨Ia (k:=lv n+1) hfun hsc (λds' d' h=>by rw[h.1,hl,hps]) λcdv A outer s H E hcv hr ds' d' ⟨e1,e2⟩=>?_,hm,hfun.kp,hb,hdf⟩;subst e1 e2;refine Wv (fu:=fu) (hts cdv A outer s H E _) (Uq t rfl rfl rfl rfl rfl (W6 _) hr hsc.nd bW (Bs t hm hcv rfl rfl)) (gok rfl rfl rfl rfl rfl hr) (zb N ds') _ ?_;rw[ab,ho];intro y hy;cases y with
      |val d=>cases hy;rfl
      |fresh l=>cases hy
     |fresh l =>
      refine⟨jaq (k:=lv n+1) hfun hsc (λds' d' h=>by rw[h.1,hl,hps]) λcdv A outer s H E hcv hr ds' d' ⟨e1,e2⟩=>?_,hm,hfun.kp,hb,hdf⟩;subst e1 e2;refine Wv (fu:=fu) (hts cdv A outer s H E _) (Uq t rfl rfl rfl rfl rfl (W6 _) hr hsc.nd bW (Bs t hm hcv rfl rfl)) (gok rfl rfl rfl rfl rfl hr) (zb N ds') _ ?_;rw[ab,ho];intro y hy;cases y with
      |val d=>cases hy
      |fresh l=>cases hy;rfl
    |err y ρ' =>rw[e,ho];refine⟨j7p (k:=lv n+1) hfun hsc (λds' d' h=>by rw[h.1,hl,hps]) λcdv A outer s H E hcv hr ds' y' ⟨e1,e2⟩=>?_,hm,hfun.kp,hb⟩;subst e1 e2;refine Wv (X:=J1 (CX1 P w) P w K mg base N x (jc st) f cdv A outer s H E) (fu:=fu) (hts cdv A outer s H E (J1 (CX1 P w) P w K mg base N x (jc st) f cdv A outer s H E).xe) (Uq t rfl rfl rfl rfl rfl (W6 _) hr hsc.nd gY (Bs t hm hcv rfl rfl)) (gok rfl rfl rfl rfl rfl hr) (zb N ds') _ ?_;rw[ab,ho];exact λ_ _=>rfl
    |brk _=>rw[e,ho];trivial
    |cnt _=>rw[e,ho];trivial
    |no=>rw[e,ho];trivial
   .have e:evP fu G T (n+1) x ds=.no:=by simp only[evP,hF,if_neg hl]
    rw[e];trivial
end
noncomputable def Gof(gs:List (ah×D))(q:Bool)(xs:List (ah×List D))(fs:List ah)(x:ah):Option D :=
 if Yh x=a6 then(if x = "?" then(if q=a6 then a3 (.bl a6)else a9) else((xs.find? λp=>bang p.1==x).map λp=>.lst p.2).or (if (fs.any λf=>qm f==x)=a6 then a3 .non else a9))else gs.lookup x
theorem jbt{x y:ah}(h:bang x=bang y):x=y:=by unfold bang at h;have h:(⟨("!":ah).cps++x.cps⟩:ah)=⟨("!":ah).cps++y.cps⟩:=h;have h:=congrArg kS h;have e:x.cps=y.cps:=gX h rfl;cases x;cases y;cases e;rfl
theorem j3b(x:ah):Yh (bang x)=a6:=by unfold Yh;rw[Oz];rfl
theorem j8q(x:ah):Yh (qm x)=a6:=by unfold Yh;rw[j3m];rfl
theorem j1y{gs:List (ah×D)}{q:Bool}{xs:List (ah×List D)}{fs:List ah}{x:ah}{d:D}(h:Gof gs q xs fs (bang x)=a3 d):∃p∈xs,p.1=x/\d=.lst p.2:=by
 unfold Gof at h;rw[if_pos (j3b x),if_neg (jfs x)]at h;have hn:(fs.any λf=>qm f==bang x)=a4:=by rw[List.any_eq_false];intro f _ e;exact j4i x f (beq_iff_eq.mp e).symm
 rw[hn,if_neg (by decide),Option.or_none]at h;obtain⟨p,hp,rfl⟩:=Xw.mp h;have z:=List.find?_some (p:=λp:ah×List D=>bang p.1==bang x) hp;exact⟨p,List.mem_of_find?_eq_some hp,jbt (beq_iff_eq.mp z),rfl⟩
theorem j7m{gs:List (ah×D)}{q:Bool}{xs:List (ah×List D)}{fs:List ah}{x:ah}{d:D}(h:Gof gs q xs fs (qm x)=a3 d):x∈fs:=by
 unfold Gof at h;rw[if_pos (j8q x),if_neg (jld x)]at h;have hn:(xs.find? λp=>bang p.1==qm x)=a9:=by rw[List.find?_eq_none];intro p _ e;exact j4i p.1 x (beq_iff_eq.mp e)
 rw[hn,Option.map_none,Option.none_or]at h;split at h
 .rename_i z;obtain⟨f,hf,e⟩:=List.any_eq_true.mp z;exact jh1 (beq_iff_eq.mp e)▸hf
 .cases h
theorem jkv{P:av}{w:az}{K:k9d}{mg:k9g}{base:aC}{gs:List (ah×D)}{q:Bool}{xs:List (ah×List D)}{fs:List ah}(bt:∀x∈Yi,mg x=a9)
  (gl:∀x d,gs.lookup x=a3 d->∃u v,mg x=a3 u/\RelV v u/\∀H,Enc K H d v) (ea:j0i K=a6) (hx:∀p∈xs,p.1∈Q0/\∃o,W.nsIn K au p.1=a3 (a3 o))
  (el:q=a6->∀c∈Q0,∃v,W.nsIn K au c=a3 (a3 v)) (kin:K.In base) (ns:base.Ns au mg) (fn:∀f∈fs,∃fa,mg f=a3 (.ref fa)/\W.keepIn K (.ref fa)=a6) (kd:∀p∈xs,KindsP P w K mg base "_law_kinds" p.1 p.2) (lm:∀x∈V9,∀f cdv,mg x=a3 (.ref f)->Bc K f cdv->∃c Pt,cdv=.ref c/\W.codeHdIn K c Pt=a6/\W.tabIn K x=a3 (c,Pt)) (pl:("_law_plan":ah)∈fs->j8s P w K mg base:=by exact λh=>absurd h (by decide)):Tb P w K mg base (Gof gs q xs fs):=by
 refine⟨bt,λx d hb h=>?_,ea,λx d h=>?_,λh=>el ?_,kin,ns,λx l h=>?_,λf d h=>fn f (j7m h),λd h=>pl (j7m h),lm⟩
 .unfold Gof at h;rw[if_neg (by rw[hb];decide)]at h;exact gl x d h
 .obtain⟨p,hp,rfl,_⟩:=j1y h;exact hx p hp
 .unfold Gof at h;rw[if_pos (by decide),if_pos rfl]at h;split at h
  .rename_i z;exact z
  .cases h
 .obtain⟨p,hp,rfl,e⟩:=j1y h;cases e;exact kd p hp
def j0a(K:k9d):Sp:=λvs H Q _=>∃(a:ae)(ns:List Int),vs=[.ref a]/\TabOk K H/\SqL K H a (ns.map V.int)/\ns.length<=63/\∀H':Hp,j0 H H'->Q (.bl a6) H'
theorem j33{K:k9d}{H:Hp}{a:ae}{ns:List Int}(h:SqL K H a (ns.map V.int)):j4 K H [.lst (ns.map D.int)] [.ref a] :=
 ⟨_,[],rfl,⟨a,_,rfl,h,j4.ints ns⟩,rfl⟩
theorem ji9{P:av}{w:az}{K:k9d}{mg:k9g}{base:aC}{fu:Nat}{G:ah->Option D}{T:ah->Option Fi}{n:Nat}{x p:ah}{fa:ae}{st:aX}{F:Fi}
  (hT:∀x F,T x=a3 F->LkF P w K mg base x F) (t:Tb P w K mg base G)
  (hx:T x=a3 F) (hlam:F.lam=a4) (hm:mg x=a3 (.ref fa)) {fd:aN} (hfun:Fun K x x st fa fd) (N:List ah) (hsc:FnScope N [p] (jc st)) (h1:F.n=1) (hN:N.length=F.nn)
  (hts:∀(cdv:aa)(A:aB)(outer:List dR)(s:af)(H:Hp)(E:XK)(xe:k9e),Ts ((J1 CX0 P w K mg base N x (jc st) fa cdv A outer s H E).wish xe) F.body (.ss (jr st)))
  (hlaw:∀ns:List Int,ns.length<=63->evP fu G T (n+1) x [.lst (ns.map D.int)]=.val (.bl a6)):FnOk P w K mg base CX0 (lv (n+1)) fa fd [p] (j0a K):=by
 have S:FnOk P w K mg base CX0 (lv (n+1)) fa fd [p] (spP K λds d=>∃ns:List Int,ns.length<=63/\ds=[.lst (ns.map D.int)]/\d=.bl a6):=by
  refine Ia (k:=lv n+1) hfun hsc (λds d ⟨ns,_,h,_⟩=>by rw[h];rfl) λcdv A outer s H E hcv hr ds d ⟨ns,hns,e1,e2⟩=>?_;subst e1 e2;have e:=hlaw ns hns;simp only[evP,hx,h1,hlam,ph,if_false,X7,Tg,if_true]at e;have ab:j8 (zb N [D.lst (ns.map D.int)])=enter F [D.lst (ns.map D.int)]:=Ms (by rw[h1];rfl) hN;have g:Gok (J1 CX0 P w K mg base N x (jc st) fa cdv A outer s H E).nox (evP fu G T n):=λg ds'=>by
   obtain⟨f',fd',ps',q⟩:=Cr (fu:=fu) hT t n g ds';cases z:evP fu G T n g ds' with
   |val d=>rw[z]at q;exact⟨lv n,f',fd',ps',q.1,hr,q.2.1,q.2.2.1,q.2.2.2⟩
   |fresh l=>rw[z]at q;exact⟨lv n,f',fd',ps',q.1,hr,q.2.1,q.2.2.1,q.2.2.2⟩
   |err y=>rw[z]at q;exact⟨lv n,f',fd',ps',q.1,hr.mono (Pr _),q.2.1,q.2.2.1,q.2.2.2⟩
   |lval d=>rw[z]at q;exact λy hy=>⟨lv n,hr.mono (Pr _),q y hy⟩
   |no=>trivial
  refine Wv (fu:=fu) (hts cdv A outer s H E _) (Uq t rfl rfl rfl rfl rfl (W6 _) hr hsc.nd bW (Bs t hm hcv rfl rfl)) g (zb N _) _ ?_;rw[ab];cases ho:run fu (evP fu G T n) G F.body (enter F [D.lst (ns.map D.int)]) with
  |ret r =>
   rw[ho]at e;have e:r=.val (.bl a6):=e;subst e;intro y hy;cases y with
   |val d=>cases hy;rfl
   |fresh l=>cases hy
  |next ρ'=>rw[ho]at e;cases e
  |brk _=>rw[ho]at e;cases e
  |cnt _=>rw[ho]at e;cases e
  |err _ _=>rw[ho]at e;cases e
  |no=>rw[ho]at e;cases e
 refine S.imp λvs H Q E ⟨a,ns,hv,tb,hS,hl,k⟩=>?_;subst hv;exact⟨[],_,_,tb,(λa h=>nomatch h),by rw[Q3];exact j33 hS,⟨ns,hl,rfl,rfl⟩,λv H' g e=>by cases(show v=.bl a6 from e);exact k H' g⟩
noncomputable def j09(K:k9d):List (ae×ah):=V9.filterMap λx=>(W.tabIn K x).map λq=>(q.2,jx x)
noncomputable def tOk(K:k9d)(ts:List ae):Bool:=(V9.all λx=>match W.nsIn K au x with
  |some a9=>a6
  |_=>match W.tabIn K x with
   |some (c,P)=>W.codeHdIn K c P&&ts.contains P
   |none=>a4)&&W.noTabs K&&decide ((j09 K).map (·.1)).Nodup
theorem jd1{K:k9d}{ts:List ae}{h:aC}(hk:tOk K ts=a6)(X:K.In h)(ht:∀P∈ts,h.get? P=a3 (W.tabObj #[])):jby (j09 K) h:=by
 unfold tOk at hk;rw[Xd,Xd]at hk;refine⟨of_decide_eq_true hk.2,λt hm=>?_⟩;obtain⟨x,hx,e⟩:=Tq.mp hm;obtain⟨⟨c,P⟩,e1,e2⟩:=Xw.mp e;subst e2;have z:=Xy.mp hk.1.1 x hx;split at z
 .rename_i y;exfalso;unfold W.tabIn at e1;rw[y]at e1;cases e1
 .rw[e1]at z;have z:(W.codeHdIn K c P&&ts.contains P)=a6:=z;rw[Xd]at z;exact⟨⟨c,W.codeHd_of_K X z.1⟩,ht P (by simpa using z.2)⟩
theorem jlm{K:k9d}{ts:List ae}{h:aC}{mg:k9g}(hk:tOk K ts=a6)(X:K.In h)(Gn:h.Ns au mg):∀x∈V9,∀f cdv,mg x=a3 (.ref f)->Bc K f cdv->∃c Pt,cdv=.ref c/\W.codeHdIn K c Pt=a6/\W.tabIn K x=a3 (c,Pt):=λx hx f cdv hm hcv=>by
 unfold tOk at hk;rw[Xd,Xd]at hk;have z:=Xy.mp hk.1.1 x hx;split at z
 .rename_i y;rw[W.mg_none_of X Gn y]at hm;cases hm
 .split at z
  .rename_i c P e;rw[Xd]at z;refine⟨c,P,?_,z.1,e⟩;obtain⟨oc,od,fd,sl,e3,e4⟩:=hcv;unfold W.tabIn at e;split at e
   .rename_i f' hf;have e5:=W.mg_of X Gn hf;rw[hm]at e5;cases e5;rw[e3]at e;dsimp only at e;split at e
    .rename_i c' hc;split at e
     .split at e
      .cases e;rw[<-e4];exact hc
      .cases e
     .cases e
    .cases e
   .cases e
  .cases z
theorem jgb{K:k9d}{H:Hp}(hO:Only (j09 K) H):TabOk K H:=λx hx c P e=>hO.2 (P,jx x) (Tq.mpr ⟨x,hx,by rw[e];rfl⟩)
theorem j75{K:k9d}{ts:List ae}(hk:tOk K ts=a6):W.noTabs K=a6:=by unfold tOk at hk;rw[Xd,Xd]at hk;exact hk.1.2
theorem walkL{l:dA}{q:av}{loose:List ah}{XP:(ah->Option aa)->aC->Prop}{YP:az->aC->Prop}{d:DefRec}{K:my->k9d}{k:Nat}{x:ah}{ts:List ae}(hk:k<=100)(hn:l.most=a3 63)(hdf:d.params.defaults=[])
  (hY:∀(w:az)(h:aC),YP w h->(K w.params).In h/\∀P∈ts,h.get? P=a3 (W.tabObj #[])) (hK:∀w:az,tOk (K w.params) ts=a6)
  (F:∀(w:az)(mg:k9g)(fa:ae)(h:aC),(K w.params).In h->h.Ns au mg->mg d.name=a3 (.ref fa)->tOk (K w.params) ts=a6 ->
   ∃fd:aN,(∀(s:af)(u:aa),dy s fd ⟨[u],[]⟩ [(x,u)])/\∀base:aC,(K w.params).In base->base.Ns au mg->FnOk l.prog w (K w.params) mg base CX0 k fa fd [x] (j0a (K w.params))) :
  iH q loose XP YP l.row.toRowW d [] (λf vs=>iK f vs) :=
 L2.walk_of (n:=63) (k:=k) (x:=x) (CX:=λ_=>CX0) (sp:=λw=>j0a (K w.params)) (ts:=λw=>j09 (K w.params)) hn (by decide) hdf
  (Room.mono (k:=100) ⟨rfl,by decide,by decide⟩ hk) (λw h Y=>⟨(hY w h Y).1,jd1 (hK w) (hY w h Y).1 (hY w h Y).2⟩) (λw=>j75 (hK w)) (λw mg fa h X G m=>F w mg fa h X G m (hK w)) (λw H a ns hl hO hS=>⟨a,ns,rfl,jgb hO,hS,hl,λH' g=>⟨rfl,g⟩⟩) λ_ _ _ _ _ z=>z
def Lf(K:k9d)(x:ah)(st:aX):Prop:=∃(f:ae)(oc:aa)(od:Option ae)(kV dc pm:aa)(an:Option ae)(cd ct:aa)(sl:Array (Option aa)),W.nsIn K au x=a3 (a3 (.ref f)) /\
 K.lookup f=a3 ⟨oc,od,.func (W.fnOf x x (v9 st) (jr st) (jc st) .none kV dc pm an cd ct),sl⟩/\W.codeIn K cd x=a6/\W.keepIn K (.ref f)=a6
def Lfd(K:k9d)(x:ah)(st:aX):Prop:=∃(f:ae)(oc:aa)(od:Option ae)(kV dc pm:aa)(an:Option ae)(cd ct:aa)(sl:Array (Option aa)) (dt:ae) (n:Nat) (ts:Array (Option aa)),W.nsIn K au x=a3 (a3 (.ref f)) /\
 K.lookup f=a3 ⟨oc,od,.func (W.fnOf x x (v9 st) (jr st) (jc st) (.ref dt) kV dc pm an cd ct),sl⟩/\W.codeIn K cd x=a6/\W.keepIn K (.ref f)=a6/\K.lookup dt=a3 ⟨.type "tuple",a9,.seq #[.none] n,ts⟩
def TrT(P:av)(w:az)(K:k9d)(mg:k9g)(base:aC)(x:ah)(N:List ah)(st:aX)(b:Sx):Prop :=
 ∀(f:ae)(cdv:aa)(A:aB)(outer:List dR)(s:af)(H:Hp)(E:XK) (xe:k9e),Ts ((J1 CX0 P w K mg base N x (jc st) f cdv A outer s H E).wish xe) b (.ss (jr st))
noncomputable def lamT(st:aX):Tx:=(Fy (jr st)).getD ({ posonlyargs:=[],args:=[],vararg:=a9,kwonlyargs:=[],kw_defaults:=[],kwarg:=a9,defaults:=[] },.Name "" ⟨0,0,0,0⟩,{ kind:=.function,names:=[],isGenerator:=a4,isCoroutine:=a4 })
def TrL(P:av)(w:az)(K:k9d)(mg:k9g)(base:aC)(x:ah)(N:List ah)(t:Tx)(e:Ex):Prop :=
 ∀(a c:ae)(cl:List (ah×ae)) (A:aB) (outer:List dR) (s:af) (H:Hp),Tr (W9 P w K mg base N (jx x) t.2.2 a (.ref c) cl A outer s H) e (.e t.2.1)
theorem jel{sc:b9}(x:ah)(h:sc.names.lookup x=a3 .free):x∈zx sc:=by unfold zx;rw[List.mem_reverse];exact Xm.mpr ⟨(x,.free),Xk.mpr ⟨lookup_mem h,rfl⟩,rfl⟩
noncomputable def bOk(K:k9d):Bool:=Yi.all λx=>match W.nsIn K au x with
 |some a9=>a6
 |_=>a4
section
variable{P:av}{w:az}{K:k9d}{mg:k9g}{base h:aC}{x:ah}{st:aX}{N ps:List ah}{F:Fi}
theorem jma(X:K.In h)(Gn:h.Ns au mg)(hb:bOk K=a6):∀x∈Yi,mg x=a9:=λx hx=>by
 have z:=Xy.mp hb x hx;split at z
 .rename_i e;exact W.mg_none_of X Gn e
 .cases z
theorem jk(L:Lf K x st)(X:K.In h)(Gn:h.Ns au mg)(t:TrT P w K mg base x N st F.body)(ps:List ah)(sc:FnScope N ps (jc st))(h1:ps.length=F.n)(h2:N.length=F.nn)
  (hb:∀(kV doc pm:aa)(an:Option ae)(cdv ct:aa)(us:List aa),us.length=ps.length->fb (W.fnOf x x (v9 st) (jr st) (jc st) .none kV doc pm an cdv ct) ⟨us,[]⟩=pure (ps.zip us)) (hd:x∉Ii):Lk P w K mg base x F:=by
 obtain⟨f,oc,od,kV,dc,pm,an,cd,ct,sl,a,l,c,k⟩:=L;exact⟨st,f,_,N,ps,Lg l c k,sc,h1,h2,(Lg l c k).binds hb,λz=>absurd z hd,W.mg_of X Gn a,t f⟩
theorem j1s(L:Lfd K x st)(X:K.In h)(Gn:h.Ns au mg)(t:TrT P w K mg base x N st F.body)(ps:List ah)(sc:FnScope N ps (jc st))(h1:ps.length=F.n)(h2:N.length=F.nn)(h3:0<ps.length)
  (hb:∀(dt:ae)(n:Nat)(ts:Array (Option aa)) (kV doc pm:aa) (an:Option ae) (cdv ct:aa) (s:af),K.In s.heap->K.lookup dt=a3 ⟨.type "tuple",a9,.seq #[.none] n,ts⟩ ->
   (∀us:List aa,us.length=ps.length->dy s (W.fnOf x x (v9 st) (jr st) (jc st) (.ref dt) kV doc pm an cdv ct) ⟨us,[]⟩ (ps.zip us)) /\
   (∀us:List aa,us.length+1=ps.length->dy s (W.fnOf x x (v9 st) (jr st) (jc st) (.ref dt) kV doc pm an cdv ct) ⟨us,[]⟩ (ps.zip (us++[.none]))) /\
   ∀(us:List aa)(v:aa),us.length+1=ps.length->dy s (W.fnOf x x (v9 st) (jr st) (jc st) (.ref dt) kV doc pm an cdv ct) ⟨us,[("prices",v)]⟩ (ps.zip (us++[v]))):Lk P w K mg base x F:=by
 obtain⟨f,oc,od,kV,dc,pm,an,cd,ct,sl,dt,n,ts,a,l,c,k,td⟩:=L;refine⟨st,f,_,N,ps,Lg l c k,sc,h1,h2,λs us hK hl=>?_,λ_=>⟨λs us hK hl=>?_,jls h3 λs us v hK hl=>(hb dt n ts kV dc pm an cd ct s hK td).2.2 us v hl⟩,W.mg_of X Gn a,t f⟩
 .rw[Xx]at hl ⊢;exact(hb dt n ts kV dc pm an cd ct s hK td).1 us hl
 .exact(hb dt n ts kV dc pm an cd ct s hK td).2.1 us (by rw[Xa]at hl;exact hl)
theorem Rv(L:Lf K x st):Z5 K x=Fy (jr st):=by obtain⟨f,oc,od,kV,dc,pm,an,cd,ct,sl,a,l,c,k⟩:=L;unfold Z5;rw[a];dsimp only;rw[l]
theorem lkF(L:Lk P w K mg base x F)(h:F.lam=a4)(hn:x.cps.toList.getLast?≠a3 62):LkF P w K mg base x F:=⟨λ_=>⟨L,hn⟩,λz=>by rw[h]at z;cases z⟩
theorem j7a{e:Ex}{q:ah}(hq:q=jx x)(h:Z5 K x=Fy (jr st))(ht:Fy (jr st)=a3 (lamT st))(tr:TrL P w K mg base x N (lamT st) e)(ps:List ah)(sc:LamScope N ps (lamT st).2.2)(h1:N.length=F.n)(h2:F.nn=F.n)(hb:F.body=.ret e)(hl:F.lam=a6)
  (ha:∀(cl:List (ah×ae)) (pm:aa) (c:ae) (ctv:aa) (us:List aa),us.length=ps.length->fb (W.kla_fn "<lambda>" (jx x) (lamT st).1 (lamT st).2.1 (lamT st).2.2 cl pm (.ref c) ctv) ⟨us,[]⟩=pure (ps.zip us)):LkF P w K mg base q F :=
 ⟨λz=>by(rw[hl]at z;cases z),λ_=>⟨x,hq,⟨lamT st,N,ps,e,h.trans ht,sc,h1,h2,hb,ha,tr⟩⟩⟩
theorem us1{us:List aa}(h:us.length=1):∃a,us=[a]:=by match us,h with|[a],_=>exact⟨a,rfl⟩
theorem us2{us:List aa}(h:us.length=2):∃a b,us=[a,b]:=by match us,h with|[a,b],_=>exact⟨a,b,rfl⟩
theorem us3{us:List aa}(h:us.length=3):∃a b c,us=[a,b,c]:=by match us,h with|[a,b,c],_=>exact⟨a,b,c,rfl⟩
theorem us4{us:List aa}(h:us.length=4):∃a b c d,us=[a,b,c,d]:=by match us,h with|[a,b,c,d],_=>exact⟨a,b,c,d,rfl⟩
end
theorem lf_mk{K:k9d}{x:ah}{st:aX}{f:ae}{oc:aa}{od:Option ae}{kV dc pm:aa}{an:Option ae}{cd ct:aa}{sl:Array (Option aa)}(a:W.nsIn K au x=a3 (a3 (.ref f)))
  (l:K.lookup f=a3 ⟨oc,od,.func (W.fnOf x x (v9 st) (jr st) (jc st) .none kV dc pm an cd ct),sl⟩) (c:W.codeIn K cd x=a6) (k:W.keepIn K (.ref f)=a6):Lf K x st:=⟨f,oc,od,kV,dc,pm,an,cd,ct,sl,a,l,c,k⟩
theorem lfd_mk{K:k9d}{x:ah}{st:aX}{f:ae}{oc:aa}{od:Option ae}{kV dc pm:aa}{an:Option ae}{cd ct:aa}{sl:Array (Option aa)}{dt:ae}{n:Nat}{ts:Array (Option aa)}(a:W.nsIn K au x=a3 (a3 (.ref f)))
  (l:K.lookup f=a3 ⟨oc,od,.func (W.fnOf x x (v9 st) (jr st) (jc st) (.ref dt) kV dc pm an cd ct),sl⟩) (c:W.codeIn K cd x=a6) (k:W.keepIn K (.ref f)=a6) (t:K.lookup dt=a3 ⟨.type "tuple",a9,.seq #[.none] n,ts⟩):Lfd K x st:=⟨f,oc,od,kV,dc,pm,an,cd,ct,sl,dt,n,ts,a,l,c,k,t⟩
end L2
end
section
namespace L2
open PySem (Str sizeLine argBest)
theorem vq{n:Nat}(h:n<=1000000):n<=ak:=Xl h (by decide)
theorem lt_size{n:Nat}(h:n<=1000000):n<ak:=cq h (by decide)
noncomputable def Yk(o:So)(f:En->So):So:=match o with
 |.next ρ=>f ρ
 |o=>o
noncomputable def ifS(c:Option Bool)(f g:En->So)(ρ:En):So:=match c with
 |some a6=>f ρ
 |some a4=>g ρ
 |none=>.no
noncomputable def N5(is:List Nat)(f:En->So)(d:D)(ρ:En):So:=match za is d ρ with
 |some ρ2=>f ρ2
 |none=>.no
noncomputable def jce(is:List Nat)(w:Option W)(f:En->So)(ρ:En):So:=match w with
 |some (.i ds)=>Jp (N5 is f) ds ρ
 |_=>.no
section
variable{fu:Nat}{Γ:ah->List D->Rc}{G:ah->Option D}{ρ:En}{i j:Nat}{e c k:Ex}{a b:Sx}{is:List Nat}
theorem jde:run fu Γ G .nop ρ=.next ρ:=(rfl)
theorem Ww:run fu Γ G (.seq a b) ρ=Yk (run fu Γ G a ρ) (run fu Γ G b):=(rfl)
theorem jda:run fu Γ G (.set i e) ρ=orE (Rm i (ev Γ G e ρ) ρ) (er Γ G e ρ) ρ:=(rfl)
theorem jdf:run fu Γ G (.mov i j) ρ=Ko i j ρ[j]? ρ:=(rfl)
theorem j9e:run fu Γ G (.expr e) ρ=orE (j20 (ev Γ G e ρ) ρ) (er Γ G e ρ) ρ:=(rfl)
theorem jdb:run fu Γ G (.ret e) ρ=orE (retS (ev Γ G e ρ)) (er Γ G e ρ) ρ:=(rfl)
theorem Ui{ρ':En}{x:Option ah}:orE (.next ρ') x ρ=.next ρ':=(rfl)
theorem j3s{r:Rc}{x:Option ah}:orE (.ret r) x ρ=.ret r:=(rfl)
theorem j99:run fu Γ G (.retV i) ρ=Bj ρ[i]?:=(rfl)
theorem jdg:run fu Γ G (.ife c a b) ρ=ifS (truth (ev Γ G c ρ)) (run fu Γ G a) (run fu Γ G b) ρ:=(rfl)
theorem j9d:run fu Γ G (.loop is e a) ρ=jce is (ev Γ G e (frz e ρ)) (run fu Γ G a) (frz e ρ):=(rfl)
theorem Bh:run fu Γ G (.whl c a) ρ=qx (λρ=>truth (ev Γ G c ρ)) (run fu Γ G a) fu ρ:=(rfl)
theorem jdk:run fu Γ G (.app i e) ρ=Ip i ρ[i]? (ev Γ G e ρ) ρ:=(rfl)
theorem jdj:run fu Γ G (.ext i e) ρ=Ig i ρ[i]? (ev Γ G e ρ) ρ:=(rfl)
theorem jdd{a:Ex}:run fu Γ G (.par i j a e) ρ=Kh i j (ev Γ G a ρ) (ev Γ G e ρ) ρ:=(rfl)
theorem jdc:run fu Γ G (.put i k e) ρ=Kf i ρ[i]? (ev Γ G k ρ) (ev Γ G e ρ) ρ:=(rfl)
theorem jgi{d:D}:stOf (a3 (.v (.e d)))=a3 d:=(rfl)
theorem Oc{d:D}:Bt i (a3 (.val d)) ρ=.next ρ:=(rfl)
theorem Ub:run fu Γ G (.keep i) ρ=Bt i ρ[i]? ρ:=(rfl)
theorem Od{l:List D}:Bt i (a3 (.own l)) ρ=.next (ρ.set i (.val (.lst l))):=(rfl)
theorem j9a{x:ah}:run fu Γ G (.retL x is) ρ=Cp x (Qj ρ is):=(rfl)
theorem jdn{x:ah}{ds:List D}:Cp x (a3 ds)=.ret (.val (.fn x ds)):=(rfl)
noncomputable def jjl(s:Option Sv)(v:Option (List D)):Option (List D):=match s,v with
 |some (.val d),a3 ds=>a3 (d::ds)
 |_,_=>a9
theorem j4n:Qj ρ []=a3 []:=(rfl)
theorem j2s:Qj ρ (i::is)=jjl ρ[i]? (Qj ρ is):=(rfl)
theorem jjk{d:D}{ds:List D}:jjl (a3 (.val d)) (a3 ds)=a3 (d::ds):=(rfl)
theorem j9b{f x:ah}{a b:Ex}:run fu Γ G (.retC f x a b is) ρ=Cq Γ f x (Qj ρ is) (ev Γ G a ρ) (ev Γ G b ρ):=(rfl)
theorem jdo{f x:ah}{ds:List D}{d d':D}:Cq Γ f x (a3 ds) (a3 (.v (.e d))) (a3 (.v (.e d')))=j0b (Γ f [d,d',.fn x ds]):=(rfl)
theorem jdp{d:D}(h:noFn d=a6):j0b (.val d)=.ret (.val d):=if_pos h
theorem j6l{x t y:Nat}{it e1 e2:Ex}{ds:List D}{r:List (List Int)×List Int}(hc:x<ρ.length/\t<ρ.length/\y<ρ.length/\x≠t/\x≠y/\t≠y)(hi:ev Γ G it (ρ.set x .un)=a3 (.i ds))(hd:Y6 (λρ=>stOf (ev Γ G e1 ρ)) (λρ=>stOf (ev Γ G e2 ρ)) x t y ds (ρ.set x .un) [] []=a3 r) :
  run fu Γ G (.nmake x t y it e1 e2) ρ=.ret (.val (.dct r.1 (r.2.map D.int))):=by rw[j4k,if_pos hc,hi];dsimp only;rw[hd]
theorem j6k{x t:Nat}{it e2:Ex}{ds:List D}{r:List (List Int)×List Int}(hc:x<ρ.length/\t<ρ.length/\x≠t)(hi:ev Γ G it (ρ.set x .un)=a3 (.i ds))(hd:Vx (λρ=>stOf (ev Γ G e2 ρ)) x t ds (ρ.set x .un) [] []=a3 r) :
  run fu Γ G (.wmake x t it e2) ρ=.ret (.val (.dct r.1 (r.2.map D.int))):=by rw[j4j,if_pos hc,hi];dsimp only;rw[hd]
theorem j9f{w:Nat}{e:Ex}:run fu Γ G (.apop i w e) ρ=Nb i w ρ[i]? ρ[w]? (ev Γ G e ρ) ρ:=(rfl)
theorem jfu{w k:Nat}{l m:List D}{z:Int}{d:D}(hz:ixN m.length z=a3 k)(hd:m[k]?=a3 d)(h:i≠w)(hl:l.length<=1000000)(hm:m.length<=1000000):Nb i w (a3 (.own l)) (a3 (.own m)) (a3 (.v (.e (.int z)))) ρ=.next ((ρ.set w (.own (m.eraseIdx k))).set i (.own (l++[d]))):=by simp only[Nb,Rk.st,hz,hd];rw[if_pos ⟨h,lt_size hl,hm⟩]
theorem j9c{w:Nat}{k:Nat}:run fu Γ G (.pop3 i j k w) ρ=popS i j k w ρ[w]? ρ:=(rfl)
theorem jh8{w k:Nat}{l:List D}{a b c:D}:popS i j k w (a3 (.own (l++[.tup [a,b,c]]))) ρ=.next ((((ρ.set w (.own l)).set i (.val a)).set j (.val b)).set k (.val c)):=by simp only[popS,List.getLast?_concat,iF]
theorem jdi:run fu Γ G (.fgt i) ρ=.next (ρ.set i .un):=(rfl)
end
section
variable{f g:En->So}{ρ:En}{i j:Nat}{d:D}{l m:List D}{r:Rc}{x:Rk}
theorem Yg:Yk (.next ρ) f=f ρ:=(rfl)
theorem j17:Yk (.ret r) f=.ret r:=(rfl)
theorem jly:ifS (a3 a6) f g ρ=f ρ:=(rfl)
theorem jlz:ifS (a3 a4) f g ρ=g ρ:=(rfl)
theorem j15:Rm i (a3 (.v (.o l))) ρ=.next (ρ.set i (.own l)):=(rfl)
theorem j16:Rm i (a3 (.v (.e d))) ρ=.next (ρ.set i (.val d)):=(rfl)
theorem jgv:retS (a3 (.v (.o l)))=.ret (.fresh l):=(rfl)
theorem j6m:retS (a3 (.v (.e d)))=.ret (.val d):=(rfl)
theorem jgu:retS (a3 (.v (.t d)))=.ret (.val d):=(rfl)
theorem jdm:Bj (a3 (.own l))=.ret (.fresh l):=(rfl)
theorem jdl:Bj (a3 (.val d))=.ret (.val d):=(rfl)
theorem jhy(h:i≠j):Ko i j (a3 (.own l)) ρ=.next ((ρ.set j .un).set i (.own l)):=if_neg h
theorem jhx:Ko i j (a3 (.val d)) ρ=.next (ρ.set i (.val d)):=(rfl)
theorem jix:j20 (a3 (.v x)) ρ=.next ρ:=(rfl)
theorem zu:N5 [i] f d ρ=f (ρ.set i (.val d)):=(rfl)
theorem jfr{a b:D}:N5 [i,j] f (.tup [a,b]) ρ=f ((ρ.set i (.val a)).set j (.val b)):=(rfl)
theorem jej{is:List Nat}{ds:List D}:jce is (a3 (.i ds)) f ρ=Jp (N5 is f) ds ρ:=(rfl)
theorem jk3(h:l.length<=1000000):Ip i (a3 (.own l)) (a3 (.v (.e d))) ρ=.next (ρ.set i (.own (l++[d]))):=by simp[Ip,Rk.st,lt_size h]
theorem jiw(h:l.length+m.length<=1000000):Ig i (a3 (.own l)) (a3 (.v (.o m))) ρ=.next (ρ.set i (.own (l++m))):=by simp[Ig,jo,vq h]
theorem jhh{j:Nat}{d':D}(h:i≠j):Kh i j (a3 (.v (.e d))) (a3 (.v (.e d'))) ρ=.next ((ρ.set i (.val d)).set j (.val d')):=by simp[Kh,Rk.st,h]
theorem j1c{j:Int}{n:Nat}(h:ixN l.length j=a3 n):Kf i (a3 (.own l)) (a3 (.v (.e (.int j)))) (a3 (.v (.e d))) ρ=.next (ρ.set i (.own (l.set n d))):=by simp[Kf,Rk.st,Rk.d,h]
theorem j45:fin (.ret r)=r:=(rfl)
theorem jar:fin (.next ρ)=.val .non:=(rfl)
theorem jd{fu:Nat}{G:ah->Option D}{T:ah->Option Fi}{n:Nat}{f:ah}{ds:List D}{F:Fi}(h:T f=a3 F)(hl:ds.length=F.n)(hla:F.lam=a4:=by rfl):evP fu G T (n+1) f ds=fin (run fu (evP fu G T n) G F.body (enter F ds)):=by simp only[evP,h,if_pos hl,hla,ph,if_false]
theorem j47{fu:Nat}{G:ah->Option D}{T:ah->Option Fi}{n:Nat}{f:ah}{ds:List D}{F:Fi}(h:T f=a3 F)(hl:ds.length=F.n)(hla:F.lam=a6:=by rfl):evP fu G T (n+1) f ds=j5d (fin (run fu (evP fu G T n) G F.body (enter F ds))):=by simp only[evP,h,if_pos hl,hla,if_true]
theorem jib:j5d (.val d)=.lval d:=(rfl)
end
theorem Qv{f:D->En->So}(W:Nat->En->Prop):∀{ds:List D}{ρ:En}{k:Nat},W k ρ->(∀i d ρ,ds[i]?=a3 d->W (k+i) ρ->∃ρ',f d ρ=.next ρ'/\W (k+i+1) ρ')->∃ρ',Jp f ds ρ=.next ρ'/\W (k+ds.length) ρ'
 |[],ρ,k,h0,_=>⟨ρ,rfl,h0⟩
 |d::ds,ρ,k,h0,hs=>by
  obtain⟨ρ1,e1,w1⟩:=hs 0 d ρ rfl h0;obtain⟨ρ2,e2,w2⟩:=Qv (f:=f) W (ds:=ds) (k:=k+1) w1 λi d' ρ' hi w=>by have:=hs (i+1) d' ρ' (by simpa using hi) (by rw[show k+(i+1)=k+1+i by omega];exact w);rw[show k+(i+1)+1=k+1+i+1 by omega]at this;exact this
  refine⟨ρ2,?_,by rw[X7,show k+(ds.length+1)=k+1+ds.length by omega];exact w2⟩;rw[Jp,e1];exact e2
theorem Fx{f:D->En->So}(W:Nat->En){ds:List D}{ρ:En}(h0:ρ=W 0)(hs:∀i d,ds[i]?=a3 d->f d (W i)=.next (W (i+1))):Jp f ds ρ=.next (W ds.length):=by
 obtain⟨ρ',e,w⟩:=Qv (f:=f) (λi ρ=>ρ=W i) (k:=0) (ds:=ds) (ρ:=W 0) rfl λi d ρ hi w=>⟨W (0+i+1),by rw[w,Pj];exact hs i d hi,rfl⟩
 rw[h0,e,w,Pj]
theorem Zw{f:D->En->So}{ds:List D}{ρ:En}{g:En->So}{r:Rc}(W:Nat->En->Prop)(h0:W 0 ρ)(hs:∀i d ρ,ds[i]?=a3 d->W i ρ->∃ρ',f d ρ=.next ρ'/\W (i+1) ρ')(hk:∀ρ',W ds.length ρ'->fin (g ρ')=r) :
  fin (Yk (Jp f ds ρ) g)=r:=by
 obtain⟨ρ',e,w⟩:=Qv (f:=f) W (k:=0) (ds:=ds) (ρ:=ρ) h0 λi d ρ hi w=>by rw[Pj]at w ⊢;exact hs i d ρ hi w
 rw[e];rw[Pj]at w;exact hk ρ' w
theorem O3{f:D->En->So}{ds:List D}{ρ:En}{g:En->So}{Q:En->Prop}(W:Nat->En->Prop)(h0:W 0 ρ)(hs:∀i d ρ,ds[i]?=a3 d->W i ρ->∃ρ',f d ρ=.next ρ'/\W (i+1) ρ')
  (hk:∀ρ',W ds.length ρ'->∃ρ2,g ρ'=.next ρ2/\Q ρ2):∃ρ2,Yk (Jp f ds ρ) g=.next ρ2/\Q ρ2:=by
 obtain⟨ρ',e,w⟩:=Qv (f:=f) W (k:=0) (ds:=ds) (ρ:=ρ) h0 λi d ρ hi w=>by rw[Pj]at w ⊢;exact hs i d ρ hi w
 rw[e];rw[Pj]at w;exact hk ρ' w
noncomputable def jcj(d:Option D):Option W:=d.map λd=>.v (.e d)
noncomputable def jai(i:Option Int):Option W:=i.map λk=>.v (.e (.int k))
noncomputable def jip(a:Option W):Option W:=match a with
 |some (.v x)=>a3 (.v (.e (.bl x.d.isNon)))
 |_=>a9
noncomputable def jbw(k:Option Bool)(f:En->Option W)(ρ:En):Option W:=match k with
 |some a4=>a3 (.v (.e (.bl a4)))
 |some a6=>blW (truth (f ρ))
 |none=>a9
noncomputable def orW(k:Option Bool)(f:En->Option W)(ρ:En):Option W:=match k with
 |some a6=>a3 (.v (.e (.bl a6)))
 |some a4=>blW (truth (f ρ))
 |none=>a9
noncomputable def jhu(k:Option Bool):Option W:=k.map λk=>.v (.e (.bl (!k)))
noncomputable def stW(a:Option W):Option W:=match a with
 |some (.v x)=>x.st.map λd=>.v (.e d)
 |_=>a9
noncomputable def ja8(k:Option Bool)(f g:En->Option W)(ρ:En):Option W:=match k with
 |some a6=>stW (f ρ)
 |some a4=>stW (g ρ)
 |none=>a9
noncomputable def slW(a:Option W)(l h:Option (Option Int)):Option W:=match a,l,h with
 |some (.v x),a3 l,a3 h=>match x.sq with
  |some (a6,ds)=>a3 (.v (.o (cutD ds l h)))
  |some (a4,ds)=>if HT.sIx ds.length 0 l=0/\HT.sIx ds.length ds.length h=ds.length then a9 else a3 (.v (.e (.tup (cutD ds l h))))
  |none=>match x.d with
   |.str z=>if jo z.length=a6 then a3 (.v (.e (.str (bM z l h))))else a9
   |_=>a9
 |_,_,_=>a9
noncomputable def Z1(is:List Nat)(c e:En->Option W)(ρ:En)(d:D):Option (Option D):=match za is d ρ with
 |none=>a9
 |some ρ2=>match c ρ2 with
  |some (.a [])=>match e ρ2 with
   |some (.v x)=>x.st.map a3
   |_=>a9
  |some (.a [y])=>match y.d with
   |.bl a6=>match e ρ2 with
    |some (.v x)=>x.st.map a3
    |_=>a9
   |.bl a4=>a3 a9
   |_=>a9
  |_=>a9
noncomputable def j5o(is:List Nat)(w:Option W)(c e:En->Option W)(z:Bool)(ρ:En):Option W:=match w with
 |some (.i ds)=>if j0h is ρ=a6/\jo ds.length=a6 then(J4 (Z1 is c e ρ) ds).bind λl=>if (z && !v5 l)=a6 then a9 else a3 (.v (.o l))else a9
 |_=>a9
section
variable{Γ:ah->List D->Rc}{G:ah->Option D}{ρ:En}{a b c e:Ex}{op:Bop}{cp:Cop}{x f:ah}{i:Nat}{d:D}
theorem jj5:ev Γ G (.lit d) ρ=a3 (.v (.e d)):=(rfl)
theorem jiy:ev Γ G (.var i) ρ=K1 ρ[i]?:=(rfl)
theorem jf9:ev Γ G (.glob x) ρ=jcj (G x):=(rfl)
theorem jjc:ev Γ G (.bin op a b) ρ=Qo op (ev Γ G a ρ) (ev Γ G b ρ):=(rfl)
theorem jj3:ev Γ G (.neg a) ρ=j1o (ev Γ G a ρ):=(rfl)
theorem jj9:ev Γ G (.cmp cp a b) ρ=Ij cp (ev Γ G a ρ) (ev Γ G b ρ):=(rfl)
theorem jj8:ev Γ G (.isN a) ρ=jip (ev Γ G a ρ):=(rfl)
theorem jjd:ev Γ G (.and a b) ρ=jbw (truth (ev Γ G a ρ)) (ev Γ G b) ρ:=(rfl)
theorem jm6:ev Γ G (.or a b) ρ=orW (truth (ev Γ G a ρ)) (ev Γ G b) ρ:=(rfl)
theorem jj1:ev Γ G (.not a) ρ=jhu (truth (ev Γ G a ρ)):=(rfl)
theorem jj6:ev Γ G (.ite c a b) ρ=ja8 (truth (ev Γ G c ρ)) (ev Γ G a) (ev Γ G b) ρ:=(rfl)
theorem jj2:ev Γ G .nil ρ=a3 (.a []):=(rfl)
theorem jfc:ev Γ G (.cons a b) ρ=consW (ev Γ G a ρ) (ev Γ G b ρ):=(rfl)
theorem jiz:ev Γ G (.tup a) ρ=Yj (ev Γ G a ρ):=(rfl)
theorem jj4:ev Γ G (.lst a) ρ=Zd (ev Γ G a ρ):=(rfl)
theorem jm7:ev Γ G (.ix a b) ρ=ixW (ev Γ G a ρ) (ev Γ G b ρ):=(rfl)
theorem jm5:ev Γ G (.sl a b c) ρ=slW (ev Γ G a ρ) (Qz (ev Γ G b ρ)) (Qz (ev Γ G c ρ)):=(rfl)
theorem jf8{sep:ah}:ev Γ G (.join sep a) ρ=Bu sep (ev Γ G a ρ):=(rfl)
theorem jf7:ev Γ G (.lrng a) ρ=Cw (ev Γ G a ρ):=(rfl)
theorem jei{n:Int}(h:0<=n/\n<=1000000):Cw (a3 (.v (.e (.int n))))=a3 (.v (.o ((aq n.toNat).map λ(i:Nat)=>D.int (i:Int)))):=if_pos h
theorem jf6:ev Γ G (.lset a) ρ=Br (ev Γ G a ρ):=(rfl)
theorem jja{b c:Ex}:ev Γ G (.chn a b c) ρ=j2f (ev Γ G a ρ) (ev Γ G b ρ) (ev Γ G c ρ):=(rfl)
theorem jjq{i j k:Int}:j2f (a3 (.v (.e (.int i)))) (a3 (.v (.e (.int j)))) (a3 (.v (.e (.int k))))=a3 (.v (.e (.bl (decide (i<j)&&decide (j<k))))):=(rfl)
theorem jav:ev Γ G (.callV i a) ρ=Rb Γ ρ[i]? (ev Γ G a ρ):=(rfl)
theorem jbf{cs:List D}{u v:D}(h:Jg [u,v]=a6):Rb Γ (a3 (.val (.fn x cs))) (a3 (.a [.e u,.e v]))=(Γ (jx x) (cs++[u,v])).lv:=if_pos h
theorem jbe{cs:List D}{u v w:D}(h:Jg [u,v,w]=a6):Rb Γ (a3 (.val (.fn x cs))) (a3 (.a [.e u,.e v,.e w]))=(Γ (jx x) (cs++[u,v,w])).lv:=if_pos h
theorem jno:(Rc.lval d).lv=a3 (.v (.e d)):=(rfl)
theorem jfb:ev Γ G (.dget a b) ρ=Bw (ev Γ G a ρ) (ev Γ G b ρ):=(rfl)
theorem jau:ev Γ G (.dvals a) ρ=Oq (ev Γ G a ρ):=(rfl)
theorem jb3{ks:List (List Int)}{ds:List D}:Oq (a3 (.v (.e (.dct ks ds))))=a3 (.v (.e (.tup ds))):=(rfl)
theorem jf4:ev Γ G (.minT a) ρ=Bp (ev Γ G a ρ):=(rfl)
noncomputable def rcV:Rc->Option W
 |.val d=>a3 (.v (.e d))
 |_=>a9
noncomputable def j8m(Γ:ah->List D->Rc)(f:ah)(a:Option W):Option W:=match a with
 |some (.a rs)=>match zq rs with
  |some ds=>rcV (Γ f (ds++[.non]))
  |none=>a9
 |_=>a9
noncomputable def j2j(Γ:ah->List D->Rc)(f:ah)(a b:Option W):Option W:=match a,b with
 |some (.a rs),a3 (.v x)=>match zq rs,x.st with
  |some ds,a3 d'=>rcV (Γ f (ds++[d']))
  |_,_=>a9
 |_,_=>a9
theorem jax{f:ah}:ev Γ G (.callD f a) ρ=j8m Γ f (ev Γ G a ρ):=(rfl)
theorem jaw{f:ah}{b:Ex}:ev Γ G (.callK f a b) ρ=j2j Γ f (ev Γ G a ρ) (ev Γ G b ρ):=(rfl)
theorem jl9{d:D}:rcV (.val d)=a3 (.v (.e d)):=(rfl)
theorem jbi{f:ah}{x y:D}:j8m Γ f (a3 (.a [.e x,.e y]))=rcV (Γ f [x,y,.non]):=(rfl)
theorem jbh{f:ah}{x y z:D}:j2j Γ f (a3 (.a [.e x,.e y])) (a3 (.v (.e z)))=rcV (Γ f [x,y,z]):=(rfl)
theorem jfa:ev Γ G (.enum a) ρ=M8 (ev Γ G a ρ):=(rfl)
theorem jfe:ev Γ G (.call f a) ρ=Z8 Γ f (ev Γ G a ρ):=(rfl)
theorem jjb{f:Bf}:ev Γ G (.blt f a) ρ=zr f (ev Γ G a ρ):=(rfl)
theorem jf5{m:Mf}:ev Γ G (.meth m a b) ρ=Bq m (ev Γ G a ρ) (ev Γ G b ρ):=(rfl)
theorem jj7{ts:List String}:ev Γ G (.isi a ts) ρ=Kw (ev Γ G a ρ) ts:=(rfl)
theorem jfd{is:List Nat}:ev Γ G (.comp is e a c) ρ=j5o is (ev Γ G a (frz a ρ)) (ev Γ G c) (ev Γ G e) (Jj a ρ) (frz a ρ):=(rfl)
theorem jj0:ev Γ G (.seq a) ρ=Fo (ev Γ G a ρ):=(rfl)
theorem jat:ev Γ G (.range a) ρ=O5 (ev Γ G a ρ):=(rfl)
end
section
variable{x y:Rk}{d:D}{i j k:Int}{l m:List D}{b:Bool}{f g:En->Option W}{ρ:En}{xs:List Rk}{op:Bop}{cp:Cop}
theorem jg4:K1 (a3 (.val d))=a3 (.v (.e d)):=(rfl)
theorem jg5:K1 (a3 (.own l))=a3 (.v (.w l)):=(rfl)
theorem jf3:jcj (a3 d)=a3 (.v (.e d)):=(rfl)
theorem jiq:jai (a3 i)=a3 (.v (.e (.int i))):=(rfl)
theorem jmc:blW (a3 b)=a3 (.v (.e (.bl b))):=(rfl)
theorem jjz:Qo op (a3 (.v (.e (.int i)))) (a3 (.v (.e (.int j))))=jai (binI op i j):=by simp only[Qo,Ut,Rk.d,jai,rkW];cases binI op i j<;>rfl
theorem jbs:binI .add i j=a3 (i+j):=(rfl)
theorem jbn:binI .sub i j=a3 (i-j):=(rfl)
theorem jbq(h:(-18446744073709551616<i/\i<18446744073709551616)\/(-18446744073709551616<j/\j<18446744073709551616)):binI .mul i j=a3 (i*j):=if_pos h
theorem j8p(h:0<j/\j<18446744073709551616):binI .fdiv i j=a3 (i/j):=if_pos h
theorem jbr(h:0<j):binI .mod i j=a3 (i%j):=if_pos h
theorem jbp(h:0<=j/\j<=1000000/\i.natAbs<18446744073709551616):binI .pow i j=a3 (i^j.toNat):=if_pos h
theorem jbo(h:0<=j/\j<=1000000/\i.natAbs<18446744073709551616):binI .shl i j=a3 (i*2^j.toNat):=if_pos h
theorem jjv(h:l.length+m.length<=1000000):Qo .add (a3 (.v (.o l))) (a3 (.v (.o m)))=a3 (.v (.o (l++m))):=by simp[Qo,Ut,Rk.d,Rk.sq,jo,vq h,rkW]
theorem jju(h:l.length+m.length<=1000000):Qo .add (a3 (.v (.o l))) (a3 (.v (.w m)))=a3 (.v (.o (l++m))):=by simp[Qo,Ut,Rk.d,Rk.sq,jo,vq h,rkW]
theorem jjs(h:l.length+m.length<=1000000):Qo .add (a3 (.v (.e (.tup l)))) (a3 (.v (.e (.tup m))))=a3 (.v (.e (.tup (l++m)))):=by simp[Qo,Ut,Rk.d,Rk.sq,jo,vq h,rkW]
theorem jl8(h:-9223372036854775808<=k/\k<9223372036854775808)(h2:l.length*k.toNat<=1000000):Qo .mul (a3 (.v (.o l))) (a3 (.v (.e (.int k))))=a3 (.v (.o (a5 k.toNat l).flatten)):=by simp only[Qo,Ut,Rk.d,Rk.sq,Rk.lw];rw[if_pos ⟨h.1,h.2,decide_eq_true (vq h2)⟩];rfl
theorem jgw(h:1<=k/\k<=1000000):Qo .mul (a3 (.v (.e (.tup [d])))) (a3 (.v (.e (.int k))))=a3 (.v (.e (.tup (a5 k.toNat d)))):=by simp only[Qo,Ut,Rk.d,Rk.sq];rw[if_pos ⟨h.1,by omega,rfl,decide_eq_true (vq (by simp only[X7,Tg];omega))⟩];simp only[rkW,Option.map,List.flatten_replicate_singleton]
theorem jhv:j1o (a3 (.v (.e (.int i))))=a3 (.v (.e (.int (-i)))):=(rfl)
theorem jjm:Ij cp (a3 (.v x)) (a3 (.v y))=blW (V2 cp x.d y.d):=(rfl)
theorem d_e:(Rk.e d).d=d:=(rfl)
theorem d_o:(Rk.o l).d=.lst l:=(rfl)
theorem d_w:(Rk.w l).d=.lst l:=(rfl)
theorem jjn:V2 cp (.int i) (.int j)=cmpI cp i j:=by cases cp<;>rfl
theorem jb8{a b:Bool}:V2 .ne (.bl a) (.bl b)=a3 (a != b):=(rfl)
theorem jb7{a b:ah}:V2 .ne (.str a) (.str b)=a3 (!decide (a=b)):=(rfl)
theorem jbb{a b:Bool}:V2 .eq (.bl a) (.bl b)=a3 (a==b):=(rfl)
theorem jba(h:(D.lst l).dep<=90)(h2:(D.lst m).dep<=90):V2 .eq (.lst l) (.lst m)=a3 (vp l m):=by simp[V2,h,h2,j27,j28]
theorem jb9{a b:ah}:V2 .eq (.str a) (.str b)=a3 (a==b):=by simp[V2,D.dep,j7w]
theorem j8c:V2 .eq (.lst []) (.lst [])=a3 (vp [] []):=jba (by simp[D.dep,D.depL]) (by simp[D.dep,D.depL])
theorem j82(h:i<j):cmpI .lt i j=a3 a6:=by simp[cmpI,h]
theorem j83(h:j<=i):cmpI .lt i j=a3 a4:=by simp[cmpI];omega
theorem j84(h:i<=j):cmpI .le i j=a3 a6:=by simp[cmpI,h]
theorem j85(h:j<i):cmpI .le i j=a3 a4:=by simp[cmpI];omega
theorem j86(h:j<i):cmpI .gt i j=a3 a6:=by simp[cmpI,h]
theorem j87(h:i<=j):cmpI .gt i j=a3 a4:=by simp[cmpI];omega
theorem j88(h:j<=i):cmpI .ge i j=a3 a6:=by simp[cmpI,h]
theorem j89(h:i<j):cmpI .ge i j=a3 a4:=by simp[cmpI];omega
theorem j8a(h:i=j):cmpI .eq i j=a3 a6:=by simp[cmpI,h]
theorem j8b(h:i≠j):cmpI .eq i j=a3 a4:=by simp[cmpI,h]
theorem j80(h:i≠j):cmpI .ne i j=a3 a6:=by simp[cmpI,h]
theorem j81(h:i=j):cmpI .ne i j=a3 a4:=by simp[cmpI,h]
theorem jfl:cmpI .gt i j=a3 (decide (j<i)):=(rfl)
theorem Dp:cmpI .ge i j=a3 (decide (j<=i)):=(rfl)
theorem jeg{a b:D}(h:Z2 a=a6):Zd (a3 (.a [.t a,.e b]))=a3 (.v (.o [a,b])):=by simp[Zd,zq,Rk.st,h,jo,vq (show 2<=1000000 by decide)]
theorem Ik:cmpI .eq i j=a3 (decide (i=j)):=(rfl)
theorem jio:jip (a3 (.v x))=a3 (.v (.e (.bl x.d.isNon))):=(rfl)
theorem jcy:truth (a3 (.v (.e (.bl b))))=a3 b:=(rfl)
theorem jk5:jbw (a3 a4) f ρ=a3 (.v (.e (.bl a4))):=(rfl)
theorem jk4:jbw (a3 a6) f ρ=blW (truth (f ρ)):=(rfl)
theorem jli:orW (a3 a4) f ρ=blW (truth (f ρ)):=(rfl)
theorem jht:jhu (a3 b)=a3 (.v (.e (.bl (!b)))):=(rfl)
theorem jl4:stW (a3 (.v (.e d)))=a3 (.v (.e d)):=(rfl)
theorem jil:ja8 (a3 a6) f g ρ=stW (f ρ):=(rfl)
theorem jim:ja8 (a3 a4) f g ρ=stW (g ρ):=(rfl)
theorem jfk:consW (a3 (.v x)) (a3 (.a xs))=a3 (.a (x::xs)):=(rfl)
theorem j0q(h:zq xs=a3 l)(hl:l.length<=1000000):Yj (a3 (.a xs))=a3 (.v (.e (.tup l))):=by simp[Yj,h,jo,vq hl]
theorem j1r(h:zq xs=a3 l)(hl:l.length<=1000000):Zd (a3 (.a xs))=a3 (.v (.o l)):=by simp[Zd,h,jo,vq hl]
theorem jga:Yj (a3 (.a []))=a3 (.v (.e (.tup []))):=by simp[Yj,zq,jo]
theorem jg9{a:D}:Yj (a3 (.a [.e a]))=a3 (.v (.e (.tup [a]))):=j0q rfl (by simp)
theorem jg8{a b:D}:Yj (a3 (.a [.e a,.e b]))=a3 (.v (.e (.tup [a,b]))):=j0q rfl (by simp)
theorem ji8:Zd (a3 (.a []))=a3 (.v (.o [])):=by simp[Zd,zq,jo]
theorem ji7{a:D}:Zd (a3 (.a [.e a]))=a3 (.v (.o [a])):=j1r rfl (by simp)
theorem ji6{a b:D}:Zd (a3 (.a [.e a,.e b]))=a3 (.v (.o [a,b])):=j1r rfl (by simp)
theorem ji5{a b c:D}:Zd (a3 (.a [.e a,.e b,.e c]))=a3 (.v (.o [a,b,c])):=j1r rfl (by simp)
theorem jg7{a b c:D}:Yj (a3 (.a [.e a,.e b,.e c]))=a3 (.v (.e (.tup [a,b,c]))):=j0q rfl (by simp)
noncomputable def Bv(o:Option D):Option W:=o.map λd=>.v (.e d)
theorem j0y:∀xs:List D,zq (xs.map Rk.e)=a3 xs
 |[]=>rfl
 |x::xs=>by rw[xm,zq,j0y xs];rfl
theorem ji3(xs:List D)(h:xs.length<=1000000):Zd (a3 (.a (xs.map Rk.e)))=a3 (.v (.o xs)):=by simp[Zd,j0y,jo,vq h]
theorem ji4{a b c d e f g h:D}:Zd (a3 (.a [.e a,.e b,.e c,.e d,.e e,.e f,.e g,.e h]))=a3 (.v (.o [a,b,c,d,e,f,g,h])):=ji3 [a,b,c,d,e,f,g,h] (by simp)
theorem j40:Bv (a3 d)=a3 (.v (.e d)):=(rfl)
theorem jii:ixW (a3 (.v (.e (.lst l)))) (a3 (.v (.e (.int i))))=Bv (atI l i):=(rfl)
theorem jih:ixW (a3 (.v (.e (.tup l)))) (a3 (.v (.e (.int i))))=Bv (atI l i):=(rfl)
theorem jlw:ixW (a3 (.v (.o l))) (a3 (.v (.e (.int i))))=Bv (atI l i):=(rfl)
theorem jlu:ixW (a3 (.v (.w l))) (a3 (.v (.e (.int i))))=Bv (atI l i):=(rfl)
noncomputable def jjp(c:Option Nat):Option W:=match c with
 |some c=>a3 (.v (.e (.str ⟨#[c]⟩)))
 |none=>a9
theorem jjo{c:Nat}:jjp (a3 c)=a3 (.v (.e (.str ⟨#[c]⟩))):=(rfl)
theorem jlv{z:ah}(h:z.length<=1000000):ixW (a3 (.v (.e (.str z)))) (a3 (.v (.e (.int i))))=jjp (atI z.cps.toList i):=by simp only[ixW,Rk.sq,Rk.d,jo,vq h,decide_true,if_true];cases atI z.cps.toList i<;>rfl
theorem jl6{z:ah}{lo hi:Option Int}(h:z.length<=1000000):slW (a3 (.v (.e (.str z)))) (a3 lo) (a3 hi)=a3 (.v (.e (.str (bM z lo hi)))):=by simp only[slW,Rk.sq,Rk.d,jo,vq h,decide_true,if_true]
theorem jjt{y z:ah}(h:y.length+z.length<=1000000):Qo .add (a3 (.v (.e (.str y)))) (a3 (.v (.e (.str z))))=a3 (.v (.e (.str (y++z)))):=by simp[Qo,Ut,Rk.d,jo,vq h,rkW]
theorem jlx{k:Bool}:zr .int (a3 (.a [.e (.bl k)]))=a3 (.v (.e (.int (if k then 1 else 0)))):=(rfl)
theorem Jk{ns:List Int}:intsOf (ns.map D.int)=a3 ns:=by
 induction ns with
 |nil=>rfl
 |cons b bs ih=>rw[xm,intsOf,ih];rfl
theorem Ce{ns:List ah}:strsOf (ns.map D.str)=a3 ns:=by
 induction ns with
 |nil=>rfl
 |cons b bs ih=>rw[xm,strsOf,ih];rfl
theorem jc3{ns:List Int}:zr .sum (a3 (.a [.o (ns.map D.int)]))=a3 (.v (.e (.int ns.sum))):=by simp only[zr,Zi,Rk.d,Jk];rfl
theorem jl3{ns:List Int}:zr .sum (a3 (.a [.w (ns.map D.int)]))=a3 (.v (.e (.int ns.sum))):=by simp only[zr,Zi,Rk.d,Jk];rfl
theorem jgh{ns:List Int}:zr .sum (a3 (.a [.e (.lst (ns.map D.int))]))=a3 (.v (.e (.int ns.sum))):=by simp only[zr,Zi,Rk.d,Jk];rfl
theorem j3y{sep:ah}{ts:List ah}(h:fc sep ts=a6):Bu sep (a3 (.v (.o (ts.map D.str))))=a3 (.v (.e (.str (eJ sep ts)))):=by simp only[Bu,Rk.d,Ce,h,if_true]
theorem jeh{ts:List ah}(h:ts.length<4000):Br (a3 (.v (.w (ts.map D.str))))=a3 (.v (.e (.int (dd ts).length))):=by simp only[Br,Rk.d,Ce,h,if_true]
theorem jff:M8 (a3 (.v (.o l)))=a3 (.i (Jl l)):=(rfl)
theorem jb2:M8 (a3 (.v (.e (.lst l))))=a3 (.i (Jl l)):=(rfl)
theorem jb1:M8 (a3 (.v (.e (.tup l))))=a3 (.i (Jl l)):=(rfl)
theorem jbk:Qz (a3 (.a []))=a3 a9:=(rfl)
theorem jbj:Qz (a3 (.a [.e (.int i)]))=a3 (a3 i):=(rfl)
variable{lo hi:Option Int}
theorem jgm:slW (a3 (.v (.e (.lst l)))) (a3 lo) (a3 hi)=a3 (.v (.o (cutD l lo hi))):=(rfl)
theorem j6g(h:¬(HT.sIx l.length 0 lo=0/\HT.sIx l.length l.length hi=l.length)):slW (a3 (.v (.e (.tup l)))) (a3 lo) (a3 hi)=a3 (.v (.e (.tup (cutD l lo hi)))):=if_neg h
variable{Γ:ah->List D->Rc}{fn:ah}
noncomputable def rcW(r:Rc):Option W:=match r with
 |.val d=>a3 (.v (.e d))
 |.fresh l=>a3 (.v (.o l))
 |_=>a9
theorem j4x:rcW (.val d)=a3 (.v (.e d)):=(rfl)
theorem j4y:rcW (.fresh l)=a3 (.v (.o l)):=(rfl)
theorem V6(h:zq xs=a3 l):Z8 Γ fn (a3 (.a xs))=rcW (Γ fn l):=by simp only[Z8,h];cases Γ fn l<;>rfl
theorem jfq{a:D}:Z8 Γ fn (a3 (.a [.e a]))=rcW (Γ fn [a]):=V6 rfl
theorem jfp{a b:D}:Z8 Γ fn (a3 (.a [.e a,.e b]))=rcW (Γ fn [a,b]):=V6 rfl
theorem jfo{a b c:D}:Z8 Γ fn (a3 (.a [.e a,.e b,.e c]))=rcW (Γ fn [a,b,c]):=V6 rfl
theorem jbd:Z8 Γ fn (a3 (.a [.o l]))=rcW (Γ fn [.lst l]):=V6 rfl
noncomputable def rcT(r:Rc):Option W:=match r with
 |.val d=>a3 (.v (.t d))
 |_=>a9
theorem jla:rcT (.val d)=a3 (.v (.t d)):=(rfl)
theorem jfn(h:zq xs=a9):Z8 Γ fn (a3 (.a xs))=rcT (Γ fn (xs.map Rk.d)):=by simp only[Z8,h];cases Γ fn (xs.map Rk.d)<;>rfl
theorem jbc{a b:D}:Z8 Γ fn (a3 (.a [.w m,.e a,.e b]))=rcT (Γ fn [.lst m,a,b]):=jfn rfl
theorem jlp:zr .len (a3 (.a [.e (.lst l)]))=a3 (.v (.e (.int l.length))):=(rfl)
theorem jlo:zr .len (a3 (.a [.e (.tup l)]))=a3 (.v (.e (.int l.length))):=(rfl)
theorem jln:zr .len (a3 (.a [.w l]))=a3 (.v (.e (.int l.length))):=(rfl)
theorem jlk{ns:List Int}(h:ns≠[]):zr .min (a3 (.a [.o (ns.map D.int)]))=a3 (.v (.e (.int (Qn ns)))):=by
 have e:ns.isEmpty=a4:=by cases ns with|nil=>exact absurd rfl h|cons _ _=>rfl
 simp only[zr,Zi,Rk.d,Jk,e,if_true];rfl
theorem j66{ks:List (List Int)}:Be (ks.map λk=>D.tup (k.map D.int))=a3 ks:=by
 induction ks with
 |nil=>rfl
 |cons k ks ih=>rw[xm,Be,ih];simp only[tupI,Jk]
theorem jeb{ks:List (List Int)}{k:List Int}(h:ks[aZ (Jq ks) (ks.length-1)]?=a3 k):Bp (a3 (.v (.o (ks.map λk=>D.tup (k.map D.int)))))=a3 (.v (.t (.tup (k.map D.int)))):=by simp only[Bp,Rk.d,j66,h];rfl
theorem Ih{ks:List (List Int)}{ds:List D}{k:List Int}{d:D}(h:zg ks ds k=a3 d):Bw (a3 (.v (.e (.dct ks ds)))) (a3 (.v (.e (.tup (k.map D.int)))))=a3 (.v (.e d)):=by simp only[Bw,Rk.d,tupI,Jk,h];rfl
theorem ji0:zr .min (a3 (.a [.e (.int i),.e (.int j)]))=a3 (.v (.e (.int (if j<i then j else i)))):=(rfl)
theorem jcx:zr .tuple (a3 (.a [.w l]))=a3 (.v (.e (.tup l))):=(rfl)
theorem jek:zr .list (a3 (.a [.e (.lst l)]))=a3 (.v (.o l)):=(rfl)
theorem j39{bs:List Bool}:boolsOf (bs.map D.bl)=a3 bs:=by
 induction bs with
 |nil=>rfl
 |cons b bs ih=>rw[xm,boolsOf,ih];rfl
theorem jme{bs:List Bool}:zr .all (a3 (.a [.o (bs.map D.bl)]))=a3 (.v (.e (.bl (bs.all id)))):=by simp only[zr,Zi,Rk.d,j39];rfl
theorem j4e(h:D.depL l<=90)(h2:d.dep<=90):Bq .count (a3 (.v (.w l))) (a3 (.a [.e d]))=a3 (.v (.e (.int (l.countP λe=>deq e d)))):=by simp[Bq,j59,Rk.d,h,h2,rkW]
theorem jin{ts:List String}:Kw (a3 (.v x)) ts=blW (qe x.d ts):=(rfl)
theorem jd9:Fo (a3 (.v (.e (.lst l))))=a3 (.i l):=(rfl)
theorem jd8:Fo (a3 (.v (.e (.tup l))))=a3 (.i l):=(rfl)
theorem jgn:Fo (a3 (.v (.o l)))=a3 (.i l):=(rfl)
theorem j9h(h:-4611686018427387904<=i/\i<4611686018427387904):O5 (a3 (.a [.e (.int i)]))=a3 (.i (upto 0 i.toNat)):=if_pos h
theorem qj{is:List Nat}{c e:En->Option W}{z:Bool}{ds l:List D}(hf:j0h is ρ=a6)(hl:ds.length<=1000000)(h:J4 (Z1 is c e ρ) ds=a3 l)(hz:z=a4\/v5 l=a6):j5o is (a3 (.i ds)) c e z ρ=a3 (.v (.o l)):=by simp only[j5o,hf,jo,vq hl,decide_true,and_self,if_true,h,kC];rcases hz with z|z<;>simp[z]
theorem Eo{f:D->Option (Option D)}{g:D->D}:∀{ds:List D},(∀d∈ds,f d=a3 (a3 (g d)))->J4 f ds=a3 (ds.map g)
 |[],_=>rfl
 |d::ds,h=>by rw[J4,h d (xq ..),Eo λd hd=>h d (xf _ hd)];rfl
theorem zj{i:Nat}{c e:En->Option W}(hc:c (ρ.set i (.val d))=a3 (.a [])){d':D}(he:e (ρ.set i (.val d))=a3 (.v (.e d'))):Z1 [i] c e ρ d=a3 (a3 d'):=by simp[Z1,za,hc,he,Rk.st]
theorem Rh{i:Nat}{c e:En->Option W}{b:Bool}{d':D}(hc:c (ρ.set i (.val d))=a3 (.a [.e (.bl b)]))(he:b=a6->e (ρ.set i (.val d))=a3 (.v (.e d'))):Z1 [i] c e ρ d=a3 (if b=a6 then a3 d' else a9):=by
 cases b with
 |true=>simp[Z1,za,hc,he rfl,Rk.st,Rk.d]
 |false=>simp[Z1,za,hc,Rk.d]
theorem j3f{i j:Nat}{c e:En->Option W}{a b:D}(hc:c ((ρ.set i (.val a)).set j (.val b))=a3 (.a [])){d':D}(he:e ((ρ.set i (.val a)).set j (.val b))=a3 (.v (.e d'))):Z1 [i,j] c e ρ (.tup [a,b])=a3 (a3 d'):=by simp[Z1,za,hc,he,Rk.st]
theorem j8w{i j:Nat}{c e:En->Option W}{a b:D}{k:Bool}{d':D}(hc:c ((ρ.set i (.val a)).set j (.val b))=a3 (.a [.e (.bl k)]))(he:k=a6->e ((ρ.set i (.val a)).set j (.val b))=a3 (.v (.e d'))):Z1 [i,j] c e ρ (.tup [a,b])=a3 (if k=a6 then a3 d' else a9):=by
 cases k with
 |true=>simp[Z1,za,hc,he rfl,Rk.st,Rk.d]
 |false=>simp[Z1,za,hc,Rk.d]
theorem J8{α:Type}{xs:List α}{n:Nat}{x:α}(h:xs[n]?=a3 x):atI xs (n:Int)=a3 x:=jft h
end
section
theorem jab:qe .non ["list","tuple"]=a3 a4:=by simp[qe,qy,D.ty]
theorem jae {b:Bool}:qe (.bl b) ["list","tuple"]=a3 a4:=by simp[qe,qy,D.ty]
theorem jew {b:Bool}:qe (.bl b) ["bool"]=a3 a6:=by simp[qe,qy,D.ty]
theorem jer {b:Bool}:qe (.bl b) ["str"]=a3 a4:=by simp[qe,qy,D.ty]
theorem jah {b:Bool}:qe (.bl b) ["int","str"]=a3 a6:=by simp[qe,qy,D.ty]
theorem jad {i:Int}:qe (.int i) ["list","tuple"]=a3 a4:=by simp[qe,qy,D.ty]
theorem jev {i:Int}:qe (.int i) ["bool"]=a3 a4:=by simp[qe,qy,D.ty]
theorem jeq {i:Int}:qe (.int i) ["str"]=a3 a4:=by simp[qe,qy,D.ty]
theorem jag {i:Int}:qe (.int i) ["int","str"]=a3 a6:=by simp[qe,qy,D.ty]
theorem jaa {z:ah}:qe (.str z) ["list","tuple"]=a3 a4:=by simp[qe,qy,D.ty]
theorem jeu {z:ah}:qe (.str z) ["bool"]=a3 a4:=by simp[qe,qy,D.ty]
theorem jep {z:ah}:qe (.str z) ["str"]=a3 a6:=by simp[qe,qy,D.ty]
theorem jaf {z:ah}:qe (.str z) ["int","str"]=a3 a6:=by simp[qe,qy,D.ty]
theorem ja9 {l:List D}:qe (.tup l) ["list","tuple"]=a3 a6:=by simp[qe,qy,D.ty]
theorem jes {l:List D}:qe (.tup l) ["list"]=a3 a4:=by simp[qe,qy,D.ty]
theorem jeo {l:List D}:qe (.tup l) ["tuple"]=a3 a6:=by simp[qe,qy,D.ty]
theorem jac {l:List D}:qe (.lst l) ["list","tuple"]=a3 a6:=by simp[qe,qy,D.ty]
theorem jet {l:List D}:qe (.lst l) ["list"]=a3 a6:=by simp[qe,qy,D.ty]
theorem jey:D.isNon .non=a6:=(rfl)
theorem jf1{b:Bool}:D.isNon (.bl b)=a4:=(rfl)
theorem jf0{i:Int}:D.isNon (.int i)=a4:=(rfl)
theorem jex{z:ah}:D.isNon (.str z)=a4:=(rfl)
theorem jez{l:List D}:D.isNon (.lst l)=a4:=(rfl)
end
section
noncomputable abbrev q9(r:List Int):D:=.tup (r.map .int)
noncomputable abbrev ql(rs:List (List Int)):List D:=rs.map q9
theorem qi{α:Type}{f:D->Option (Option D)}{h g:α->D}{L:List α}(q:∀x∈L,f (h x)=a3 (a3 (g x))):J4 f (L.map h)=a3 (L.map g):=by
 induction L with
 |nil=>rfl
 |cons x L ih=>rw[xm,J4,q x (xq ..),ih λy hy=>q y (xf _ hy)];rfl
theorem Ys{α:Type}{f:D->Option (Option D)}{h g:α->D}{p:α->Bool}{L:List α}(q:∀x∈L,f (h x)=a3 (if p x=a6 then a3 (g x)else a9)):J4 f (L.map h)=a3 ((L.filter p).map g):=by
 induction L with
 |nil=>rfl
 |cons x L ih =>
  rw[xm,J4,q x (xq ..),ih λy hy=>q y (xf _ hy)];by_cases z:p x=a6
  .rw[if_pos z,Pk z];rfl
  .rw[if_neg z,Pa z]
theorem Mh{f:D->Option (Option D)}:∀{ds:List D},(∀d∈ds,f d=a3 a9)->J4 f ds=a3 []
 |[],_=>rfl
 |d::ds,h=>by rw[J4,h d (xq ..),Mh λd hd=>h d (xf _ hd)]
theorem take_snoc{α:Type}{l:List α}{i:Nat}{x:α}(h:l[i]?=a3 x):l.take (i+1)=l.take i++[x]:=by rw[Tw,h];rfl
theorem Rz{α β:Type}{f:α->β}{l:List α}{i:Nat}{y:β}(h:(l.map f)[i]?=a3 y):∃x,l[i]?=a3 x/\y=f x:=by
 rw[xx]at h;cases e:l[i]? with
 |none=>rw[e]at h;cases h
 |some x=>rw[e]at h;cases h;exact⟨x,rfl,rfl⟩
theorem ja7{α:Type}{c:Prop}[Decidable c]{x:α}:(if c then x else x)=x:=by split<;>rfl
theorem j7b{l:List D}(h:Z4 (.tup l)):l.length<=1000/\V8 l:=by simpa [Z4]using h
theorem j7c{l:List D}(h:Z4 (.lst l)):l.length<=1000/\V8 l:=by simpa [Z4]using h
end
section
end
end L2
end
section
open PySem (Str)
open L2
noncomputable def jm3:=(k9c (k9c (k9c (k9c (k9c (k9c (k9c @jde (k9c @Ww @jda)) (k9c @jdf (k9c @j9e @jdb))) (k9c (k9c @j99 (k9c @jdg @j9d)) (k9c (k9c @jdk @jdj) (k9c @jdc @jf6)))) (k9c (k9c (k9c @jdd (k9c @jhh @jdi)) (k9c @Ub (k9c @Od @Oc))) (k9c (k9c @j9a (k9c @jdn @j9c)) (k9c (k9c @jh8 @j9f) (k9c @jf7 @jei))))) (k9c (k9c (k9c (k9c @j4n (k9c @j2s @jjk)) (k9c @j9b (k9c @jdo @jav))) (k9c (k9c @jfb (k9c @jau @jb3)) (k9c (k9c @jf4 @jno) (k9c @jib @jja)))) (k9c (k9c (k9c @jjq (k9c @jax @jaw)) (k9c (k9c @jbi @jbh) (k9c @jl9 @Ui))) (k9c (k9c @j3s (k9c @Yg @j17)) (k9c (k9c @jly @jlz) (k9c @j15 @j16)))))) (k9c (k9c (k9c (k9c (k9c @jgv (k9c @j6m @jgu)) (k9c @jdm (k9c @jdl @jhy))) (k9c (k9c @jhx (k9c @jix @jej)) (k9c (k9c @jk3 @jiw) (k9c @j45 @jar)))) (k9c (k9c (k9c @jj5 (k9c @jiy @jf9)) (k9c (k9c @jjc @jj3) (k9c @jj9 @jj8))) (k9c (k9c @jjd (k9c @jm6 @jj1)) (k9c (k9c @jj6 @jj2) (k9c @jfc @jiz))))) (k9c (k9c (k9c (k9c @jj4 (k9c @jm7 @jm5)) (k9c @jfe (k9c @jjb @jf5))) (k9c (k9c @jj7 (k9c @jfd @jj0)) (k9c (k9c @jat @jg4) (k9c @jg5 @jf3)))) (k9c (k9c (k9c @jiq (k9c @jmc @jjz)) (k9c (k9c @jbs @jbn) (k9c @jbq @j8p))) (k9c (k9c @jbr (k9c @jbp @jbo)) (k9c (k9c @jjv @jju) (k9c @jjs @jl8))))))) (k9c (k9c (k9c (k9c (k9c (k9c @jhv (k9c @jjm @d_e)) (k9c @d_o (k9c @d_w @jjn))) (k9c (k9c @jb8 (k9c @jbb @jb9)) (k9c (k9c @j8c @ja7) (k9c @j82 @j83)))) (k9c (k9c (k9c @j84 (k9c @j85 @j86)) (k9c @j87 (k9c @j88 @j89))) (k9c (k9c @j8a (k9c @j8b @j80)) (k9c (k9c @j81 @jio) (k9c @jgw @jcy))))) (k9c (k9c (k9c (k9c @jk5 (k9c @jk4 @jli)) (k9c @jht (k9c @jl4 @jil))) (k9c (k9c @jim (k9c @jfk @jga)) (k9c (k9c @jg9 @jg8) (k9c @ji8 @ji7)))) (k9c (k9c (k9c @ji6 (k9c @ji5 @ji4)) (k9c (k9c @jg7 @j40) (k9c @jii @jih))) (k9c (k9c @jlw (k9c @jlu @jbk)) (k9c (k9c @jbj @jgm) (k9c @j4x @j4y)))))) (k9c (k9c (k9c (k9c (k9c @jla (k9c @jfq @jfp)) (k9c @jfo (k9c @jbd @jlp))) (k9c (k9c @jlo (k9c @jln @ji0)) (k9c (k9c @jcx @jek) (k9c @jme @jin)))) (k9c (k9c (k9c @jd9 (k9c @jd8 @jgn)) (k9c (k9c @j9h @jf8) (k9c @jfa @jgi))) (k9c (k9c @jjo (k9c @jlv @jl6)) (k9c (k9c @jjt @jlx) (k9c @jc3 @jl3))))) (k9c (k9c (k9c (k9c @jgh (k9c @jff @jb2)) (k9c @jb1 (k9c @jab @jae))) (k9c (k9c @jew (k9c @jer @jah)) (k9c (k9c @jad @jev) (k9c @jeq @jag)))) (k9c (k9c (k9c @jaa (k9c @jeu @jep)) (k9c (k9c @jaf @ja9) (k9c @jes @jeo))) (k9c (k9c @jac (k9c @jet @jey)) (k9c (k9c @jf1 @jf0) (k9c @jex @jez))))))))
local macro_rules | `(tactic| walk_at "go")=>`(tactic| try simp (disch:=first | omega | assumption | (simp only [List.length_map,List.length_append,List.length_cons,List.length_nil,List.length_take,List.length_drop,List.length_reverse] <;> omega)) only [jm3,Uo,beq_self_eq_true,frz,Jj,jap,List.getElem?_cons_zero,List.getElem?_cons_succ,List.set_cons_zero,List.set_cons_succ,List.map_cons,List.map_nil,List.cons_append,List.nil_append,List.replicate,List.length_map,List.length_append,List.length_cons,List.length_nil,Bool.not_true,Bool.not_false,bne_self_eq_false,Nat.reduceSub,Nat.reduceAdd,Int.reduceToNat,Int.reducePow])
local macro_rules | `(tactic| ext)=>`(tactic| walk_at "go")
local macro_rules | `(tactic| erw [$r])=>`(tactic| (rw [$r]; ext)) | `(tactic| erw [$r,$rs,*])=>`(tactic| (rw [$r]; ext; erw [$rs,*]))
namespace KL
noncomputable def Za:Sx:=(.seq (.ret (.call "all_choices" (.cons (.comp [1] (.ite (.cmp .eq (.var 1) (.glob "NOT_TOLD")) (.glob "ANSWERS") (.tup (.cons (.var 1) .nil))) (.seq (.var 0)) .nil) .nil))) .nop)
noncomputable def fP_rows_in:Fi:=⟨1,2,Za,a4⟩
noncomputable def J9:Sx:=(.seq (.set 1 (.lst (.cons (.tup .nil) .nil))) (.seq (.loop [2] (.seq (.var 0)) (.seq (.set 3 (.lst .nil)) (.seq (.loop [4] (.seq (.var 1)) (.seq (.ext 3 (.comp [5] (.bin .add (.var 4) (.tup (.cons (.var 5) .nil))) (.seq (.var 2)) .nil)) .nop)) (.seq (.mov 1 3) .nop)))) (.seq (.retV 1) .nop)))
noncomputable def fP_all_choices:Fi:=⟨1,6,J9,a4⟩
noncomputable def U6:Sx:=(.seq (.ife (.cmp .lt (.var 1) (.blt .len (.cons (.var 0) .nil))) (.seq (.ret (.ix (.var 0) (.var 1))) .nop) .nop) (.seq (.set 2 (.bin .add (.lit (.int 70001)) (.bin .mul (.bin .mul (.lit (.int 911)) (.var 1)) (.var 1)))) (.seq (.ife (.cmp .gt (.blt .len (.cons (.var 0) .nil)) (.lit (.int 0))) (.seq (.set 2 (.bin .add (.var 2) (.bin .mul (.bin .mod (.ix (.var 0) (.lit (.int 0))) (.lit (.int 9973))) (.bin .add (.bin .mul (.lit (.int 3)) (.var 1)) (.lit (.int 1)))))) .nop) .nop) (.seq (.retV 2) .nop))))
noncomputable def fL_cell:Fi:=⟨2,3,U6,a4⟩
noncomputable def Vu:Sx:=(.seq (.ife (.isi (.var 1) ["list","tuple"]) (.seq (.ife (.or (.cmp .ne (.isi (.var 0) ["list"]) (.isi (.var 1) ["list"])) (.not (.isi (.var 0) ["list","tuple"]))) (.seq (.ret (.lit (.bl a4))) .nop) .nop) (.seq (.set 2 (.comp [3] (.var 3) (.range (.cons (.blt .min (.cons (.blt .len (.cons (.var 0) .nil)) (.cons (.blt .len (.cons (.var 1) .nil)) .nil))) .nil)) (.cons (.not (.call "_law_same" (.cons (.ix (.var 0) (.var 3)) (.cons (.ix (.var 1) (.var 3)) .nil)))) .nil))) (.seq (.ret (.and (.cmp .eq (.blt .len (.cons (.var 0) .nil)) (.blt .len (.cons (.var 1) .nil))) (.cmp .eq (.var 2) (.lst .nil)))) .nop))) .nop) (.seq (.ife (.isN (.var 1)) (.seq (.ret (.isN (.var 0))) .nop) .nop) (.seq (.ife (.or (.cmp .ne (.isi (.var 0) ["bool"]) (.isi (.var 1) ["bool"])) (.cmp .ne (.isi (.var 0) ["str"]) (.isi (.var 1) ["str"]))) (.seq (.ret (.lit (.bl a4))) .nop) .nop) (.seq (.ret (.and (.isi (.var 0) ["int","str"]) (.cmp .eq (.var 0) (.var 1)))) .nop))))
noncomputable def fL_same:Fi:=⟨2,4,Vu,a4⟩
section
variable{G:ah->Option D}{T:ah->Option Fi}
noncomputable def qb(ns:List Int)(k:Nat):Int:=match ns[k]? with
 |some v=>v
 |none=>match ns with
  |[]=>70001+911*k*k
  |v::_=>70001+911*k*k+v%9973*(3*k+1)
theorem Wa {fu n:Nat} (hT:T "_law_cell" = a3 fL_cell) {ns:List Int} {k:Nat} (hk:k<=100):evP fu G T (n+1) "_law_cell" [.lst (ns.map .int),.int k]=.val (.int (qb ns k)):=by
 rw[jd (F:=fL_cell) hT rfl];simp only[fL_cell,U6,enter];by_cases h:k<ns.length
 .have e:atI (ns.map D.int) (k:Int)=a3 (.int ns[k]):=J8 (by simp[h]);have q:qb ns k=ns[k]:=by simp[qb,h]
  ext;simp only[e,j40,j6m,j3s,j17,j45,q]
 .cases ns with
  |nil =>ext;simp[qb]
  |cons v r =>
   have e:atI (D.int v::r.map D.int) 0=a3 (.int v):=by simp[atI,ixN]
   have q:qb (v::r) k=70001+911*k*k+v%9973*(3*k+1):=by unfold qb;rw[Xu nofun]
   rw[xm];rw[X7]at h;ext;simp only[e];ext;rw[q]
theorem j94(f:List Int):step [] f=[]:=rfl
theorem j6e(acc:List (List Int))(a f:List Int):step (acc++[a]) f=step acc f++f.map λx=>a++[x]:=by simp[step]
theorem j2d(fs:List (List Int))(f:List Int):qw (fs++[f])=step (qw fs) f:=by simp[qw]
theorem j0x(acc:List (List Int)){f:List Int}{k:Nat}(h:f.length<=k):(step acc f).length<=acc.length*k:=by
 unfold step;induction acc with
 |nil=>simp
 |cons a acc ih =>rw[List.flatMap_cons,Xa,km,X7,lA];omega
theorem j36{fs:List (List Int)}{k:Nat}(h:∀f∈fs,f.length<=k):(qw fs).length<=k^fs.length:=by
 have go:∀(fs acc:List (List Int)),(∀f∈fs,f.length<=k)->(fs.foldl step acc).length<=acc.length*k^fs.length:=by
  intro fs;induction fs with
  |nil=>intro acc _;simp
  |cons f fs ih =>intro acc hf;have h1:=ih (step acc f) λg hg=>hf g (xf _ hg);have h2:=j0x acc (hf f (xq ..));rw[Tt,X7,T4,fB (k^fs.length) k,<-Nat.mul_assoc];exact Xl h1 (Nat.mul_le_mul_right _ h2)
 have:=go fs [[]] h;simpa [qw]using this
theorem j2e{fs:List (List Int)}{r:List Int}(h:r∈qw fs):r.length=fs.length:=by
 have go:∀(fs acc:List (List Int)) (k:Nat),(∀a∈acc,a.length=k)->∀r∈fs.foldl step acc,r.length=k+fs.length:=by
  intro fs;induction fs with
  |nil=>intro acc k ha r hr;exact ha r hr
  |cons f fs ih =>
   intro acc k ha r hr;have:=ih (step acc f) (k+1) (λa hm=>by
    obtain⟨b,hb,hx⟩:=List.mem_flatMap.mp hm
    obtain⟨x,_,rfl⟩:=Xm.mp hx
    rw[Xa,ha b hb];rfl) r hr
   rw[this,X7];omega
 have:=go fs [[]] 0 (λa ha=>by rw[xr.mp ha];rfl) r h;omega
theorem Ur {fu n:Nat} (hT:T "all_choices" = a3 fP_all_choices) {fs:List (List Int)} (hf:∀f∈fs,f.length<=3) (hl:fs.length<=6):evP fu G T (n+1) "all_choices" [.lst (ql fs)]=.fresh (ql (qw fs)):=by
 rw[jd (F:=fP_all_choices) hT rfl];simp only[fP_all_choices,J9,enter];ext;have small:∀i,(qw (fs.take i)).length<=729:=λi=>by
  have h:=j36 (fs:=fs.take i) (k:=3) λf hm=>hf f (List.mem_of_mem_take hm);have h2:(fs.take i).length<=6:=by rw[Xq];omega
  exact Xl h (cR (by decide) h2)
 refine Zw (λi ρ=>∃s2 s4,ρ=[.val (.lst (ql fs)),.own (ql (qw (fs.take i))),s2,.un,s4,.un]) ⟨.un,.un,by simp[qw,ql,q9]⟩ ?_ ?_
 .rintro i d ρ hi ⟨s2,s4,rfl⟩;obtain⟨f,hfi,rfl⟩:=Rz hi;have hf3:f.length<=3:=hf f (Xf hfi);have sm:=small i;simp only[zu];ext;refine O3 (λj ρ=>∃s4,ρ=[.val (.lst (ql fs)),.val (.lst (ql (qw (fs.take i)))),.val (q9 f),.own (ql (step ((qw (fs.take i)).take j) f)),s4,.un]) ⟨s4,by simp[j94]⟩ ?_ ?_
  .rintro j d ρ hj ⟨s4,rfl⟩;obtain⟨a,haj,rfl⟩:=Rz hj;have hs:=j0x ((qw (fs.take i)).take j) hf3;have hs2:((qw (fs.take i)).take j).length<=729:=by rw[Xq];omega
   have ha:a.length<=6:=by have:=j2e (Xf haj);rw[Xq]at this;omega
   simp only[zu];ext;rw[qj (l:=(f.map λx=>q9 (a++[x]))) (by rfl) ?_ ?_ (.inl rfl)]
   .ext;refine⟨_,rfl,.val (q9 a),?_⟩;rw[take_snoc haj,j6e];simp only[ql,Xe,Xj];rfl
   .simp only[km];omega
   .refine qi λx _=>zj (by ext) ?_;ext;simp
  .rintro ρ' ⟨s4,rfl⟩;ext;refine⟨_,rfl,.val (q9 f),s4,?_⟩;rw[take_snoc hfi,j2d,cN]
 .rintro ρ' ⟨s2,s4,rfl⟩;ext;rw[cN]
theorem jas(t:Int):(Ze t).length<=3:=by unfold Ze;split<;>simp
theorem Nm {fu n:Nat} (hT:T "rows_in" = a3 fP_rows_in) (hC:T "all_choices" = a3 fP_all_choices) (gNT:G "NOT_TOLD" = a3 (.int 2)) (gAN:G "ANSWERS" = a3 (.tup [.int 0,.int 1])) {p:List Int} (hp:p.length<=6):evP fu G T (n+2) "rows_in" [q9 p]=.fresh (ql (qw (p.map Ze))):=by
 rw[jd (F:=fP_rows_in) hT rfl];simp only[fP_rows_in,Za,enter];ext;rw[qj (l:=ql (p.map Ze)) (by rfl) ?_ ?_ (.inl rfl)]
 .ext;rw[Ur hC (λf hf=>by obtain⟨t,_,rfl⟩:=Xm.mp hf;exact jas t) (by rw[km];exact hp)];ext
 .rw[km];omega
 .rw[ql,Xj];refine qi λt _=>zj (by ext) ?_;by_cases h:t=2
  .ext;simp only[gNT];ext;simp only[gAN];ext;simp[Ze,h]
  .ext;simp only[gNT];ext;simp[Ze,h]
theorem Iz {fu:Nat} (hT:T "_law_same" = a3 fL_same):∀(k:Nat){x:D}{n:Nat},x.dep<=k->Z4 x->evP fu G T (n+k+1) "_law_same" [x,x]=.val (.bl a6):=by
 intro k;induction k with
 |zero =>
  intro x n hk hx;rw[jd (F:=fL_same) hT rfl];simp only[fL_same,Vu,enter];cases x with
  |tup l=>simp[D.dep]at hk
  |lst l=>simp[D.dep]at hk
  |dct ks l=>simp[D.dep]at hk
  |sct k=>simp[D.dep]at hk
  |fn x l=>simp[D.dep]at hk
  |non=>ext
  |bl b=>ext
  |int i=>ext
  |str z=>ext
 |succ k ih =>
  intro x n hk hx;have ih':∀{x:D},x.dep<=k->Z4 x->evP fu G T (n+(k+1)) "_law_same" [x,x]=.val (.bl a6):=λh1 h2=>ih h1 h2;rw[jd (F:=fL_same) hT rfl];simp only[fL_same,Vu,enter];cases x with
  |dct ks l=>exact aR (by simpa [Z4]using hx)
  |sct k=>exact aR (by simpa [Z4]using hx)
  |fn x l=>exact aR (by simpa [Z4]using hx)
  |tup l =>
   obtain⟨hl,hx⟩:=j7b hx;have hk:D.depL l<=k:=by simp only[D.dep]at hk;omega
   ext;rw[X6,qj (l:=[]) (by rfl) (by rw[jn];omega) ?_ (.inl rfl)]
   .ext
   .refine Mh λd hd=>?_;obtain⟨j,hj,rfl⟩:=j1p hd;have hg:atI l (0+(j:Int))=a3 l[j]:=by rw[Tn];exact J8 (kh hj)
    have hm:l[j]∈l:=pq hj;refine Rh (b:=a4) (d':=.non) ?_ λz=>by cases z
    ext;simp only[hg];ext;rw[ih' (Xl (D.depL_mem hm) hk) (Ru hx hm)];ext
  |lst l =>
   obtain⟨hl,hx⟩:=j7c hx;have hk:D.depL l<=k:=by simp only[D.dep]at hk;omega
   ext;rw[X6,qj (l:=[]) (by rfl) (by rw[jn];omega) ?_ (.inl rfl)]
   .ext
   .refine Mh λd hd=>?_;obtain⟨j,hj,rfl⟩:=j1p hd;have hg:atI l (0+(j:Int))=a3 l[j]:=by rw[Tn];exact J8 (kh hj)
    have hm:l[j]∈l:=pq hj;refine Rh (b:=a4) (d':=.non) ?_ λz=>by cases z
    ext;simp only[hg];ext;rw[ih' (Xl (D.depL_mem hm) hk) (Ru hx hm)];ext
  |non=>ext
  |bl b=>ext
  |int i=>ext
  |str z=>ext
theorem Qa(n:Nat):upto 0 n=(aq n).map λ(k:Nat)=>D.int (0+(k:Int)):=rfl
theorem Kg{m:Nat}(h:m<=6):(1:Int)<=2^m/\(2:Int)^m<=64:=by
 have:m=0\/m=1\/m=2\/m=3\/m=4\/m=5\/m=6:=by omega
 rcases this with e|e|e|e|e|e|e<;>subst e<;>decide
theorem j44{p:List Int}{k:Nat}(h:k<p.length):atI (p.map D.int) (0+(k:Int))=a3 (.int (p.getD k 0)):=by rw[Tn];refine J8 ?_;rw[xx,kh h,kj,kh h];rfl
end
end KL
namespace KV
open PySem
noncomputable def letters:List Nat:=[109,100,107,98,118,113,104,122,99,103,114,110,97,112,120,111,108,115,105,101,102,119,116,121,106,117]
theorem jef:("mdkbvqhzcgrnapxolsiefwtyju":ah).cps.toList=letters:=by decide +kernel
noncomputable def lt(n:Int):Nat:=letters.getD n.toNat 0
noncomputable def sL(l:List Nat):ah:=⟨l.toArray⟩
theorem Jf{l:List Nat}:(sL l).length=l.length:=by simp[sL,mf]
theorem jgp{l m:List Nat}(h:sL l=sL m):l=m:=by have:=congrArg (λz=>z.cps.toList) h;simpa [sL]using this
theorem W0{l m:List Nat}:sL l++sL m=sL (l++m):=by show(⟨l.toArray++m.toArray⟩:ah)=_;simp[sL]
theorem Cy:∀l:List Nat,eJ ("":ah) (l.map λc=>(⟨#[c]⟩:ah))=sL l:=by
 intro l;show mh _ _=_;rw[StrLaws.glued_eq_join];induction l with
 |nil=>rfl
 |cons a r ih =>
  cases r with
  |nil=>rfl
  |cons b r =>
   rw[xm,xm,Str.join,<-xm (f:=λc=>(⟨#[c]⟩:ah)),ih]
   .show(⟨(#[a] ++ #[])++(b::r).toArray⟩:ah)=⟨(a::b::r).toArray⟩
    simp
   .intro z;cases z
theorem jgq{l:List Nat}:(sL l).cps.toList=l:=by simp[sL]
theorem Lb{k n:Nat}:aE a9 (a3 (k:Int)) 1 n=aE (a3 ((0:Nat):Int)) (a3 (k:Int)) 1 n:=by
 have e:max (0:Int) (min 0 (n:Int))=0:=by omega
 simp[aE,e]
theorem Ld{k n:Nat}:aE (a3 (k:Int)) a9 1 n=aE (a3 (k:Int)) (a3 (n:Int)) 1 n:=by
 have e:max (0:Int) (min (n:Int) (n:Int))=n:=by omega
 have e2:¬((n:Int)<0):=by omega
 simp[aE,e,e2]
theorem j11{l:List Nat}{a b:Nat}{lo hi:Option Int}(he:aE lo hi 1 (sL l).length=aE (a3 (a:Int)) (a3 (b:Int)) 1 (sL l).length)(hab:a<=b)(hb:b<=l.length):bM (sL l) lo hi=sL ((l.drop a).take (b-a)):=by
 have hb':b<=(sL l).length:=by rw[Jf];exact hb
 have q:=StrLaws.sliced_plain (sL l) hab hb';rw[jgq]at q;have e1:=StrLaws.strSliceIndices_plain hab hb';unfold bM;rw[he];by_cases h:((1:Int)==1&&(aE (a3 (a:Int)) (a3 (b:Int)) 1 (sL l).length).length==(sL l).length)=a6
 .rw[if_pos h];rw[e1,Jf,km,Xh]at h;have:b-a=l.length:=by simpa using h
  have ha:a=0:=by omega
  subst ha;rw[this,bU,cN]
 .rw[if_neg h,q];rfl
theorem Cg{l:List Nat}{k:Nat}(h:k<=l.length):bM (sL l) a9 (a3 (k:Int))=sL (l.take k):=by rw[j11 (a:=0) (b:=k) Lb (cy _) h];simp
theorem Ci{l:List Nat}{k:Nat}(h:k<=l.length):bM (sL l) (a3 (k:Int)) a9=sL (l.drop k):=by rw[j11 (a:=k) (b:=l.length) (by rw[Ld,Jf]) h (xu _),T6 (by rw[Tp];omega)]
theorem Oe {l:List Nat} (h:l.length<=100):fc ("":ah) (l.map λc=>(⟨#[c]⟩:ah))=a6:=by
 unfold fc;rw[jI];have e:∀(r:List Nat)(k:Nat),(r.map λc=>(⟨#[c]⟩:ah)).foldl (λ(x:Nat) (y:ah)=>x+y.length+("":ah).length) k=k+r.length:=by
  intro r;induction r with
  |nil=>intro k;rfl
  |cons a r ih =>intro k;rw[xm,Tt,ih,X7];show k+1+0+r.length=_;omega
 show cK _=a4;have:=e l 0;rw[List.foldl_toArray];show cK (de (λ(x:Nat) (y:ah)=>x+y.length+("":ah).length) 0 _)=a4;rw[this];unfold cK;simp;have:=fE;omega
noncomputable def Yv(c:Int):List Nat:=(aq 8).map λ(k:Nat)=>lt (c/(4+5*(k:Int))%26)
noncomputable def Vy(c:Int)(s:Nat):List Nat:=(aq s).map λ(k:Nat)=>lt ((c/32+3*(k:Int)*(k:Int)+(k:Int))%26)
theorem Qw(c:Int):(Yv c).length=8:=by simp[Yv]
theorem vh(c:Int)(s:Nat):(Vy c s).length=s:=by simp[Vy]
noncomputable def stN(c:Int)(m:Nat):Nat:=(c/8%(9-(m:Int))).toNat
noncomputable def szN(c:Int):Nat:=(c/4%8).toNat
noncomputable def atN(c:Int):Nat:=(c/512%((szN c:Int)+1)).toNat
noncomputable def wrd(c:Int)(m k:Nat):List Nat :=
 if c%4<2 then(if c%4=0 then(Yv c).take (stN c m+k+1) else(Yv c).drop (8-stN c m-k-1))
 else(Vy c (szN c)).take (atN c)++lt ((c/9+7*(k:Int))%26)::(Vy c (szN c)).drop (atN c)
noncomputable def Qs(c:Int)(m:Nat):List ah:=(aq m).map λ(k:Nat)=>sL (wrd c m k)
theorem ji1{a b:Int}(ha:0<=a/\a<26)(hb:0<=b/\b<26)(h:lt a=lt b):a=b:=by
 obtain⟨i,rfl⟩:∃i:Nat,a=(i:Int):=⟨a.toNat,by omega⟩
 obtain⟨j,rfl⟩:∃j:Nat,b=(j:Int):=⟨b.toNat,by omega⟩
 have key:∀i j:Fin 26,letters.getD i.val 0=letters.getD j.val 0->i=j:=by decide +kernel
 have:=key ⟨i,by omega⟩ ⟨j,by omega⟩ h;have:=congrArg Fin.val this;simp at this;omega
theorem jc5{c:Int}{m:Nat}(h:m<=6):stN c m+m<=8:=by unfold stN;have h1:=Th (c/8) (show(9-(m:Int))≠0 by omega);have h2:=Sd (c/8) (show(0:Int)<9-(m:Int)by omega);omega
theorem jcn(c:Int):atN c<=szN c/\szN c<=7:=by unfold atN;have h1:=Th (c/512) (show((szN c:Int)+1)≠0 by omega);have h2:=Sd (c/512) (show(0:Int)<(szN c:Int)+1 by omega);refine⟨by omega,?_⟩;unfold szN;omega
theorem jcw{c:Int}{m i j:Nat}(hm:m<=6)(hi:i<m)(hj:j<m)(h:wrd c m i=wrd c m j):i=j:=by
 have s:=jc5 (c:=c) hm;have a:=jcn c;have l8:=Qw c;have ls:=vh c (szN c);unfold wrd at h;split at h
 .split at h
  .have:=congrArg cP h;rw[Xq,Xq]at this;omega
  .have:=congrArg cP h;rw[Tp,Tp]at this;omega
 .have h2:=List.append_cancel_left h;have h3:=(List.cons.inj h2).1;have:=ji1 nofun nofun h3;omega
theorem Ez(c:Int)(m:Nat):(Qs c m).length=m:=by simp[Qs]
theorem j0n{c:Int}{m:Nat}(hm:m<=6):(Qs c m).Nodup:=by unfold Qs;unfold List.Nodup;rw[jF];exact lE (λhi hj h e=>h (jcw hm (Xb.mp hi) (Xb.mp hj) (jgp e))) (fG (n:=m))
end KV
open PySem (Str)
open L2
namespace KW
open KL KV PySem
noncomputable def Rg:Sx:=(.seq (.set 3 (.comp [4] (.var 4) (.range (.cons (.blt .len (.cons (.var 0) .nil)) .nil)) (.cons (.cmp .eq (.bin .mod (.bin .fdiv (.var 2) (.bin .shl (.lit (.int 1)) (.var 4))) (.lit (.int 2))) (.lit (.int 1))) .nil))) (.seq (.set 5 (.blt .sum (.cons (.comp [4] (.bin .shl (.ix (.var 0) (.var 4)) (.var 4)) (.seq (.var 3)) .nil) .nil))) (.seq (.set 6 (.blt .sum (.cons (.comp [4,7] (.bin .shl (.var 7) (.var 4)) (.enum (.var 0)) .nil) .nil))) (.seq (.ife (.cmp .eq (.var 1) (.lit (.int 1))) (.seq (.ret (.blt .int (.cons (.cmp .gt (.blt .sum (.cons (.var 0) .nil)) (.bin .mod (.bin .fdiv (.var 2) (.lit (.int 64))) (.blt .len (.cons (.var 0) .nil)))) .nil))) .nop) .nop) (.seq (.ife (.cmp .eq (.var 1) (.lit (.int 2))) (.seq (.set 8 (.bin .mod (.bin .mul (.bin .add (.var 6) (.lit (.int 1))) (.bin .add (.lit (.int 1)) (.bin .mod (.var 2) (.lit (.int 1000003))))) (.lit (.int 2147483629)))) (.seq (.ret (.blt .int (.cons (.cmp .eq (.bin .mod (.bin .fdiv (.var 8) (.lit (.int 32))) (.lit (.int 5))) (.lit (.int 0))) .nil))) .nop)) .nop) (.seq (.ife (.cmp .eq (.var 1) (.lit (.int 3))) (.seq (.set 8 (.bin .mul (.bin .add (.bin .add (.bin .mul (.var 5) (.var 5)) (.bin .mul (.lit (.int 17)) (.var 5))) (.lit (.int 69621))) (.bin .add (.lit (.int 1)) (.bin .mod (.var 2) (.lit (.int 1000003)))))) (.seq (.ret (.bin .mod (.bin .fdiv (.bin .mod (.var 8) (.lit (.int 2147483647))) (.lit (.int 16))) (.lit (.int 2)))) .nop)) .nop) (.seq (.ife (.cmp .eq (.var 1) (.lit (.int 4))) (.seq (.ret (.bin .mod (.bin .add (.blt .sum (.cons (.comp [4] (.ix (.var 0) (.var 4)) (.seq (.var 3)) .nil) .nil)) (.bin .fdiv (.var 2) (.lit (.int 64)))) (.lit (.int 2)))) .nop) .nop) (.seq (.set 8 (.bin .mul (.bin .add (.bin .mul (.var 6) (.var 6)) (.lit (.int 48271))) (.bin .add (.bin .add (.bin .mod (.var 2) (.lit (.int 1000003))) (.var 6)) (.lit (.int 1))))) (.seq (.ret (.bin .mod (.bin .fdiv (.bin .mod (.var 8) (.lit (.int 2147483647))) (.lit (.int 64))) (.lit (.int 2)))) .nop)))))))))
noncomputable def fL_bit:Fi:=⟨3,9,Rg,a4⟩
section
variable{G:ah->Option D}{T:ah->Option Fi}
theorem j0e {n:Int} (h:0<=n/\n<26):atI ("mdkbvqhzcgrnapxolsiefwtyju":ah).cps.toList n=a3 (lt n):=by
 obtain⟨k,rfl⟩:∃k:Nat,n=(k:Int):=⟨n.toNat,by omega⟩
 have hk:k<letters.length:=by show k<26;omega
 rw[jef];refine J8 ?_;unfold lt;rw[kh hk,X6,kj,kh hk];rfl
theorem jlq:("mdkbvqhzcgrnapxolsiefwtyju":ah).length<=1000000:=by decide +kernel
theorem Wt:∀{l:List Int},(∀x∈l,0<=x/\x<=32)->0<=l.sum/\l.sum<=32*(l.length:Int)
 |[],_=>by simp
 |a::r,h=>by have h1:=h a (xq ..);have h2:=Wt (l:=r) λx hx=>h x (xf _ hx);rw[Xr,X7];omega
theorem p2k{k:Nat}(h:k<=5):0<(2:Int)^k/\(2:Int)^k<=32:=by
 have:k=0\/k=1\/k=2\/k=3\/k=4\/k=5:=by omega
 rcases this with e|e|e|e|e|e<;>subst e<;>decide
noncomputable def Yt(row:List Int)(c:Int):List Nat:=(aq row.length).filter λ(k:Nat)=>decide (c/(1*2^(0+(k:Int)).toNat)%2=1)
noncomputable def W7(row:List Int)(c:Int):List Int:=(Yt row c).map λ(k:Nat)=>row.getD k 0*2^(0+(k:Int)).toNat
noncomputable def byL(row:List Int):List Int:=row.zipIdx.map λp=>p.1*2^((p.2:Nat):Int).toNat
theorem t0k(k:Nat):(0+(k:Int)).toNat=k:=by omega
theorem j0j{row:List Int}(h01:∀x∈row,x=0\/x=1)(k:Nat):row.getD k 0=0\/row.getD k 0=1:=by
 rw[kj];cases h:row[k]? with
 |none=>exact .inl rfl
 |some v=>exact h01 v (Xf h)
theorem jem{row:List Int}{c:Int}(h01:∀x∈row,x=0\/x=1)(hl:row.length<=6):0<=(W7 row c).sum/\(W7 row c).sum<=192:=by
 have h:=Wt (l:=W7 row c) λx hx=>by
  obtain⟨k,hk,rfl⟩:=Xm.mp hx;have hk2:=Xb.mp (Xk.mp hk).1;have p:=p2k (k:=k) nofun
  rw[t0k];rcases j0j h01 k with e|e<;>rw[e]<;>omega
 have l:(W7 row c).length<=6:=by unfold W7 Yt;rw[km];exact Xl (t7 _ _) (by rw[Xh];exact hl)
 omega
theorem jm9{row:List Int}(h01:∀x∈row,x=0\/x=1)(hl:row.length<=6):0<=(byL row).sum/\(byL row).sum<=192:=by
 have h:=Wt (l:=byL row) λx hx=>by
  obtain⟨p,hp,rfl⟩:=Xm.mp hx;obtain⟨a,k⟩:=p;have hm:=k6 hp;have p:=p2k (k:=k) nofun
  show 0<=a*2^((k:Nat):Int).toNat/\a*2^((k:Nat):Int).toNat<=32;rw[X6];have:=h01 a (by rw[hm.2.2];exact pq _);rcases this with e|e<;>rw[e]<;>omega
 have l:(byL row).length<=6:=by unfold byL;rw[km,d9];exact hl
 omega
theorem jjx {fu n:Nat} (hT:T "_law_bit" = a3 fL_bit) {row:List Int} {kd c:Int} (h01:∀x∈row,x=0\/x=1) (hl:1<=row.length/\row.length<=6):∃b:Int,(b=0\/b=1)/\evP fu G T (n+1) "_law_bit" [.lst (row.map D.int),.int kd,.int c]=.val (.int b):=by
 rw[jd (F:=fL_bit) hT rfl];simp only[fL_bit,Rg,enter];have kb:=jem (c:=c) h01 hl.2;have bb:=jm9 h01 hl.2;have sl:(Yt row c).length<=6:=by unfold Yt;exact Xl (t7 _ _) (by rw[Xh];exact hl.2)
 have get:∀k:Nat,k∈Yt row c->atI (row.map D.int) (0+(k:Int))=a3 (.int (row.getD k 0)):=λk hk=>j44 (Xb.mp (Xk.mp hk).1);ext;rw[qj (l:=(Yt row c).map λ(k:Nat)=>D.int (0+(k:Int))) (by rfl) (by rw[jn];omega) ?_ (.inl rfl)];rotate_left
 .rw[X6,Qa,Yt];refine Ys λk hk'=>?_;have hk:=Xb.mp hk';have p:0<(2:Int)^(0+(k:Int)).toNat/\(2:Int)^(0+(k:Int)).toNat<=32:=by rw[t0k];exact p2k nofun
  refine Rh ?_ λ_=>?_
  .ext;simp only[Ik];ext
  .ext
 ext;rw[qj (l:=(W7 row c).map D.int) (by rfl) (by rw[km];omega) ?_ (.inr (J7 _))];rotate_left
 .rw[W7,Xj];refine qi λk hk'=>zj (by ext) ?_;have b:=j0j h01 k;have hk:=Xb.mp (Xk.mp hk').1;ext;rw[get k hk'];ext;rfl
 ext;rw[qj (l:=(byL row).map D.int) (by rfl) (by simp only[Jl,km,d9];omega) ?_ (.inl rfl)];rotate_left
 .rw[byL,Xj,Jl,List.zipIdx_map,Xj];refine qi λq hq=>?_;obtain⟨a,k⟩:=q;have hm:=k6 hq;have h1:=h01 a (by rw[hm.2.2];exact pq _);show Z1 _ _ _ _ (D.tup [.int (k:Int),.int a])=_;refine j3f (by ext) ?_;ext;rfl
 ext;generalize (W7 row c).sum=kept at *;generalize (byL row).sum=byr at *;by_cases k1:kd=1
 .refine⟨if decide (c/64%(row.length:Int)<row.sum)=a6 then 1 else 0,by split<;>simp,?_⟩;ext;simp only[jfl];ext
 .by_cases k2:kd=2
  .refine⟨if decide ((byr+1)*(1+c%1000003)%2147483629/32%5=0)=a6 then 1 else 0,by split<;>simp,?_⟩;ext;simp only[Ik];ext
  .by_cases k3:kd=3
   .refine⟨(kept*kept+17*kept+69621)*(1+c%1000003)%2147483647/16%2,by omega,?_⟩;ext
   .by_cases k4:kd=4
    .refine⟨(((Yt row c).map λ(k:Nat)=>row.getD k 0).sum+c/64)%2,by omega,?_⟩;ext;rw[qj (l:=((Yt row c).map λ(k:Nat)=>row.getD k 0).map D.int) (by rfl) (by rw[km];omega) ?_ (.inr (J7 _))]
     .ext
     .rw[Xj];refine qi λk hk'=>zj (by ext) ?_;ext;rw[get k hk'];ext;rfl
    .refine⟨(byr*byr+48271)*(c%1000003+byr+1)%2147483647/64%2,by omega,?_⟩;ext
noncomputable def Dq(fu:Nat)(G:ah->Option D)(T:ah->Option Fi)(n:Nat)(row:List Int)(kd c:Int):Int:=match evP fu G T (n+1) "_law_bit" [.lst (row.map D.int),.int kd,.int c] with
 |.val (.int b)=>b
 |_=>0
theorem j2m {fu n:Nat} (hT:T "_law_bit" = a3 fL_bit) {row:List Int} {kd c:Int} (h01:∀x∈row,x=0\/x=1) (hl:1<=row.length/\row.length<=6):(Dq fu G T n row kd c=0\/Dq fu G T n row kd c=1)/\evP fu G T (n+1) "_law_bit" [.lst (row.map D.int),.int kd,.int c]=.val (.int (Dq fu G T n row kd c)):=by obtain⟨b,hb,e⟩:=jjx (fu:=fu) (n:=n) (G:=G) hT h01 hl (kd:=kd) (c:=c);unfold Dq;rw[e];exact⟨hb,rfl⟩
theorem j5l(m:Nat)(z:Int):∀x∈j5 2 m z,x=0\/x=1:=by
 intro x hx;obtain⟨i,hi⟩:=List.mem_iff_getElem?.mp hx;have hl:i<m:=by have:=(X8.mp hi).1;rw[jw]at this;exact this
 rw[Qy 2 hl]at hi;cases hi;omega
noncomputable def V7(ns:List Int)(a most:Nat):Nat:=(1+qb ns a%(most:Int)).toNat
theorem Kp{ns:List Int}{a most:Nat}(h:1<=most/\most<=6):1<=V7 ns a most/\V7 ns a most<=most:=by unfold V7;have h1:=Th (qb ns a) (show(most:Int)≠0 by omega);have h2:=Sd (qb ns a) (show(0:Int)<most by omega);omega
end
end KW
section
namespace K31
open PySem PySem.Spec PyProof.Rows L2
noncomputable def top(i:Nat):aX:=PySem.Challenge.pw_leastasks_k31_whole_plans_cost_least.main.body.getD i (.Pass ⟨0,0,0,0⟩)
noncomputable def Yb:Sx:=(.seq (.set 2 (.call "common_divisor" (.cons (.var 0) (.cons (.var 1) .nil)))) (.seq (.ret (.tup (.cons (.bin .fdiv (.var 0) (.var 2)) (.cons (.bin .fdiv (.var 1) (.var 2)) .nil)))) .nop))
noncomputable def Wj:Fi:=⟨2,3,Yb,a4⟩
noncomputable def Jt:Sx:=(.seq (.whl (.cmp .ne (.var 1) (.lit (.int 0))) (.seq (.set 2 (.bin .mod (.var 0) (.var 1))) (.seq (.mov 0 1) (.seq (.mov 1 2) .nop)))) (.seq (.retV 0) .nop))
noncomputable def Zh:Fi:=⟨2,3,Jt,a4⟩
noncomputable def Y8:Sx:=(.seq (.expr (.call "refuse_wrong_size" (.cons (.var 0) .nil))) (.seq (.ret (.call "all_choices" (.cons (.bin .mul (.lst (.cons (.glob "TELLINGS") .nil)) (.var 0)) .nil))) .nop))
noncomputable def Wh:Fi:=⟨1,1,Y8,a4⟩
noncomputable def Zq:Sx:=(.seq (.ret (.call "number_of" (.cons (.var 0) (.cons (.blt .len (.cons (.glob "ANSWERS") .nil)) .nil)))) .nop)
noncomputable def Yn:Fi:=⟨1,1,Zq,a4⟩
noncomputable def Za:Sx:=(.seq (.ret (.call "all_choices" (.cons (.comp [1] (.ite (.cmp .eq (.var 1) (.glob "NOT_TOLD")) (.glob "ANSWERS") (.tup (.cons (.var 1) .nil))) (.seq (.var 0)) .nil) .nil))) .nop)
noncomputable def fP_rows_in:Fi:=⟨1,2,Za,a4⟩
noncomputable def Y9:Sx:=(.seq (.ret (.call "all_choices" (.cons (.comp [1] (.ite (.cmp .eq (.var 1) (.glob "NOT_TOLD")) (.glob "TELLINGS") (.tup (.cons (.var 1) .nil))) (.seq (.var 0)) .nil) .nil))) .nop)
noncomputable def Wi:Fi:=⟨1,2,Y9,a4⟩
noncomputable def Qp:Sx:=(.seq (.ife (.or (.cmp .lt (.var 1) (.lit (.int 0))) (.or (.cmp .ge (.var 1) (.blt .len (.cons (.var 0) .nil))) (.cmp .ne (.ix (.var 0) (.var 1)) (.glob "NOT_TOLD")))) (.seq .fail .nop) .nop) (.seq (.ret (.bin .add (.bin .add (.sl (.var 0) .nil (.cons (.var 1) .nil)) (.tup (.cons (.var 2) .nil))) (.sl (.var 0) (.cons (.bin .add (.var 1) (.lit (.int 1))) .nil) .nil))) .nop))
noncomputable def Va:Fi:=⟨3,3,Qp,a4⟩
noncomputable def J6:Sx:=(.seq (.ife (.or (.cmp .lt (.var 0) (.glob "FEWEST_PLACES")) (.cmp .gt (.var 0) (.glob "MOST_PLACES"))) (.seq .fail .nop) .nop) .nop)
noncomputable def Qf:Fi:=⟨1,1,J6,a4⟩
noncomputable def J9:Sx:=(.seq (.set 1 (.lst (.cons (.tup .nil) .nil))) (.seq (.loop [2] (.seq (.var 0)) (.seq (.set 3 (.lst .nil)) (.seq (.loop [4] (.seq (.var 1)) (.seq (.ext 3 (.comp [5] (.bin .add (.var 4) (.tup (.cons (.var 5) .nil))) (.seq (.var 2)) .nil)) .nop)) (.seq (.mov 1 3) .nop)))) (.seq (.retV 1) .nop)))
noncomputable def fP_all_choices:Fi:=⟨1,6,J9,a4⟩
noncomputable def Ve:Sx:=(.seq (.set 2 (.lit (.int 0))) (.seq (.loop [3] (.seq (.var 0)) (.seq (.set 2 (.bin .add (.bin .mul (.var 2) (.var 1)) (.var 3))) .nop)) (.seq (.retV 2) .nop)))
noncomputable def Ul:Fi:=⟨2,4,Ve,a4⟩
noncomputable def Vf:Sx:=(.seq (.ret (.ix (.ix (.var 0) (.lit (.int 1))) (.call "row_number" (.cons (.var 1) .nil)))) .nop)
noncomputable def Um:Fi:=⟨2,2,Vf,a4⟩
noncomputable def Zo:Sx:=(.seq (.set 2 (.call "counted_in" (.cons (.var 0) (.cons (.var 1) .nil)))) (.seq (.ife (.cmp .eq (.ix (.var 2) (.lit (.int 1))) (.lit (.int 0))) (.seq (.ret (.lit (.int 0))) .nop) .nop) (.seq (.ife (.cmp .eq (.ix (.var 2) (.lit (.int 0))) (.lit (.int 0))) (.seq (.ret (.lit (.int 1))) .nop) .nop) (.seq (.ret (.lit (.non))) .nop))))
noncomputable def Ym:Fi:=⟨2,3,Zo,a4⟩
noncomputable def Zu:Sx:=(.seq (.set 2 (.comp [3] (.call "answer_to" (.cons (.var 0) (.cons (.var 3) .nil))) (.seq (.call "rows_in" (.cons (.var 1) .nil))) .nil)) (.seq (.ret (.tup (.cons (.meth .count (.var 2) (.cons (.lit (.int 0)) .nil)) (.cons (.meth .count (.var 2) (.cons (.lit (.int 1)) .nil)) .nil)))) .nop))
noncomputable def Yq:Fi:=⟨2,4,Zu,a4⟩
noncomputable def Yc:Sx:=(.seq (.ret (.bin .mul (.tup (.cons (.glob "NOT_TOLD") .nil)) (.blt .len (.cons (.ix (.var 0) (.lit (.int 0))) .nil)))) .nop)
noncomputable def Wl:Fi:=⟨1,1,Yc,a4⟩
noncomputable def Qi:Sx:=(.seq (.ret (.bin .add (.call "row_number" (.cons (.bin .mul (.tup (.cons (.lit (.int 1)) .nil)) (.var 0)) .nil)) (.lit (.int 1)))) .nop)
noncomputable def Zz:Fi:=⟨1,1,Qi,a4⟩
noncomputable def Yw:Sx:=(.seq (.ret (.tup (.cons (.lit (.str "tell")) (.cons (.var 0) .nil)))) .nop)
noncomputable def M4:Fi:=⟨1,1,Yw,a4⟩
noncomputable def Wb:Sx:=(.seq (.ret (.tup (.cons (.lit (.str "ask")) (.cons (.var 0) (.cons (.var 1) (.cons (.var 2) .nil)))))) .nop)
noncomputable def Oi:Fi:=⟨3,3,Wb,a4⟩
noncomputable def Q5:Sx:=(.seq (.ife (.isN (.var 1)) (.seq (.ret (.bin .mul (.lst (.cons (.lit (.int 1)) .nil)) (.var 0))) .nop) .nop) (.seq (.ife (.or (.cmp .ne (.blt .len (.cons (.var 1) .nil)) (.var 0)) (.not (.call "all_between" (.cons (.var 1) (.cons (.glob "LEAST_PRICE") .nil))))) (.seq .fail .nop) .nop) (.seq (.ret (.blt .list (.cons (.var 1) .nil))) .nop)))
noncomputable def Jz:Fi:=⟨2,2,Q5,a4⟩
noncomputable def zy:Sx:=(.seq (.ife (.or (.cmp .ne (.blt .len (.cons (.var 0) .nil)) (.call "count_of_rows" (.cons (.var 1) .nil))) (.not (.call "all_between" (.cons (.var 0) (.cons (.glob "LEAST_WEIGHT") .nil))))) (.seq .fail .nop) .nop) (.seq (.ife (.cmp .eq (.blt .sum (.cons (.var 0) .nil)) (.lit (.int 0))) (.seq .fail .nop) .nop) .nop))
noncomputable def Je:Fi:=⟨2,2,zy,a4⟩
noncomputable def Zc:Sx:=(.seq (.ret (.blt .all (.cons (.comp [2] (.and (.cmp .ge (.var 2) (.var 1)) (.cmp .le (.var 2) (.glob "GREATEST_NUMBER"))) (.seq (.var 0)) .nil) .nil))) .nop)
noncomputable def Vr:Fi:=⟨2,3,Zc,a4⟩
noncomputable def Zb:Sx:=(.seq (.ret (.dvals (.call "least_numbers" (.cons (.call "all_open" (.cons (.var 0) .nil)) (.cons (.var 0) (.cons (.var 1) .nil)))))) .nop)
noncomputable def Vq:Fi:=⟨2,2,Zb,a4⟩
noncomputable def Zt:Sx:=(.seq (.set 2 (.call "all_open" (.cons (.var 0) .nil))) (.seq (.ret (.call "least_plan_at" (.cons (.var 2) (.cons (.var 0) (.cons (.var 1) (.cons (.call "least_numbers" (.cons (.var 2) (.cons (.var 0) (.cons (.var 1) .nil)))) .nil)))))) .nop))
noncomputable def Yp:Fi:=⟨2,3,Zt,a4⟩
noncomputable def Qh:Sx:=(.seq (.retC "numbers_within" "least_numbers" (.var 0) (.var 1) [2]) .nop)
noncomputable def Zy:Fi:=⟨3,3,Qh,a4⟩
noncomputable def Jr:Sx:=(.nmake 3 4 5 (.seq (.call "parts_in" (.cons (.var 0) .nil))) (.not (.isN (.call "settled_by" (.cons (.var 1) (.cons (.var 4) .nil))))) (.ite (.var 5) (.lit (.int 0)) (.callV 2 (.cons (.var 3) (.cons (.var 4) .nil)))))
noncomputable def Zf:Fi:=⟨3,6,Jr,a4⟩
noncomputable def Jb:Sx:=(.seq (.set 4 (.call "settled_by" (.cons (.var 1) (.cons (.var 0) .nil)))) (.seq (.ife (.not (.isN (.var 4))) (.seq (.ret (.call "telling" (.cons (.var 4) .nil))) .nop) .nop) (.seq (.set 5 (.ix (.call "cheapest_ask" (.cons (.var 3) (.cons (.var 0) (.cons (.var 2) .nil)))) (.lit (.int 1)))) (.seq (.set 6 (.call "least_plan_at" (.cons (.call "told_further" (.cons (.var 0) (.cons (.var 5) (.cons (.lit (.int 0)) .nil)))) (.cons (.var 1) (.cons (.var 2) (.cons (.var 3) .nil)))))) (.seq (.set 7 (.call "least_plan_at" (.cons (.call "told_further" (.cons (.var 0) (.cons (.var 5) (.cons (.lit (.int 1)) .nil)))) (.cons (.var 1) (.cons (.var 2) (.cons (.var 3) .nil)))))) (.seq (.ret (.call "asking" (.cons (.ix (.ix (.var 1) (.lit (.int 0))) (.var 5)) (.cons (.var 6) (.cons (.var 7) .nil))))) .nop))))))
noncomputable def Ja:Fi:=⟨4,8,Jb,a4⟩
noncomputable def Qq:Sx:=(.seq (.ret (.minT (.comp [3,4] (.tup (.cons (.callV 2 (.cons (.var 0) (.cons (.var 1) (.cons (.var 3) .nil)))) (.cons (.var 3) .nil))) (.enum (.var 1)) (.cons (.cmp .eq (.var 4) (.glob "NOT_TOLD")) .nil)))) .nop)
noncomputable def Vb:Fi:=⟨3,5,Qq,a4⟩
noncomputable def Js:Sx:=(.seq (.ret (.comp [3] (.dget (.var 0) (.call "told_further" (.cons (.var 1) (.cons (.var 2) (.cons (.var 3) .nil))))) (.seq (.glob "ANSWERS")) .nil)) .nop)
noncomputable def Zg:Fi:=⟨3,4,Js,a4⟩
noncomputable def Z9:Sx:=(.seq (.ret (.call "least_table" (.cons (.var 0) (.cons (.call "whole_cost_of_ask" (.cons (.var 0) (.cons (.var 1) (.cons (.var 2) .nil)))) .nil)))) .nop)
noncomputable def Vp:Fi:=⟨3,3,Z9,a4⟩
noncomputable def Zn:Sx:=(.seq (.ret (.call "least_plan" (.cons (.var 0) (.cons (.call "whole_cost_of_ask" (.cons (.var 0) (.cons (.var 1) (.cons (.var 2) .nil)))) .nil)))) .nop)
noncomputable def Yl:Fi:=⟨3,3,Zn,a4⟩
noncomputable def Zr:Sx:=(.seq (.ret (.call "fraction" (.cons (.ix (.call "whole_table" (.cons (.var 0) (.cons (.var 1) (.cons (.var 2) .nil)))) (.neg (.lit (.int 1)))) (.cons (.blt .sum (.cons (.var 1) .nil)) .nil)))) .nop)
noncomputable def Yo:Fi:=⟨3,3,Zr,a4⟩
noncomputable def J5:Sx:=(.seq (.set 3 (.blt .len (.cons (.ix (.var 0) (.lit (.int 0))) .nil))) (.seq (.set 4 (.call "prices_told" (.cons (.var 3) (.cons (.var 2) .nil)))) (.seq (.keep 4) (.seq (.expr (.call "refuse_wrong_weights" (.cons (.var 1) (.cons (.var 3) .nil)))) (.seq (.set 5 (.call "weights_by_part" (.cons (.var 3) (.cons (.var 1) .nil)))) (.seq (.retL "whole_cost_of_ask" [5,4]) .nop))))))
noncomputable def Qe:Fi:=⟨3,6,J5,a4⟩
noncomputable def Jm:Sx:=(.wmake 2 3 (.seq (.call "parts_of" (.cons (.var 0) .nil))) (.blt .sum (.cons (.comp [4] (.ix (.var 1) (.call "row_number" (.cons (.var 4) .nil))) (.seq (.call "rows_in" (.cons (.var 3) .nil))) .nil) .nil)))
noncomputable def Qx:Fi:=⟨2,5,Jm,a4⟩
noncomputable def U6:Sx:=(.seq (.ife (.cmp .lt (.var 1) (.blt .len (.cons (.var 0) .nil))) (.seq (.ret (.ix (.var 0) (.var 1))) .nop) .nop) (.seq (.set 2 (.bin .add (.lit (.int 70001)) (.bin .mul (.bin .mul (.lit (.int 911)) (.var 1)) (.var 1)))) (.seq (.ife (.cmp .gt (.blt .len (.cons (.var 0) .nil)) (.lit (.int 0))) (.seq (.set 2 (.bin .add (.var 2) (.bin .mul (.bin .mod (.ix (.var 0) (.lit (.int 0))) (.lit (.int 9973))) (.bin .add (.bin .mul (.lit (.int 3)) (.var 1)) (.lit (.int 1)))))) .nop) .nop) (.seq (.retV 2) .nop))))
noncomputable def fL_cell:Fi:=⟨2,3,U6,a4⟩
noncomputable def Ml:Sx:=(.seq (.set 2 (.lit (.str "mdkbvqhzcgrnapxolsiefwtyju"))) (.seq (.set 3 (.lst .nil)) (.seq (.mov 4 0) (.seq (.loop [5] (.range (.cons (.bin .mul (.var 1) (.blt .int (.cons (.cmp .ge (.var 0) (.bin .pow (.lit (.int 10)) (.lit (.int 18)))) .nil))) .nil)) (.seq (.set 6 (.bin .add (.lit (.int 1)) (.bin .mod (.var 4) (.lit (.int 8))))) (.seq (.set 4 (.bin .fdiv (.var 4) (.lit (.int 8)))) (.seq (.set 7 (.lit (.str ""))) (.seq (.loop [8] (.range (.cons (.var 6) .nil)) (.seq (.set 7 (.bin .add (.var 7) (.ix (.var 2) (.bin .mod (.var 4) (.lit (.int 26)))))) (.seq (.set 4 (.bin .fdiv (.var 4) (.lit (.int 26)))) .nop))) (.seq (.app 3 (.var 7)) .nop)))))) (.seq (.ife (.cmp .eq (.lset (.var 3)) (.var 1)) (.seq (.retV 3) .nop) .nop) (.seq (.ife (.cmp .lt (.bin .mod (.var 0) (.lit (.int 4))) (.lit (.int 2))) (.seq (.fgt 5) (.seq (.set 9 (.join "" (.comp [5] (.ix (.var 2) (.bin .mod (.bin .fdiv (.var 0) (.bin .add (.lit (.int 4)) (.bin .mul (.lit (.int 5)) (.var 5)))) (.lit (.int 26)))) (.range (.cons (.lit (.int 8)) .nil)) .nil))) (.seq (.set 10 (.bin .mod (.bin .fdiv (.var 0) (.lit (.int 8))) (.bin .sub (.lit (.int 9)) (.var 1)))) (.seq (.ife (.cmp .eq (.bin .mod (.var 0) (.lit (.int 4))) (.lit (.int 0))) (.seq (.fgt 5) (.seq (.ret (.comp [5] (.sl (.var 9) .nil (.cons (.bin .add (.bin .add (.var 10) (.var 5)) (.lit (.int 1))) .nil)) (.range (.cons (.var 1) .nil)) .nil)) .nop)) .nop) (.seq (.fgt 5) (.seq (.ret (.comp [5] (.sl (.var 9) (.cons (.bin .sub (.bin .sub (.bin .sub (.lit (.int 8)) (.var 10)) (.var 5)) (.lit (.int 1))) .nil) .nil) (.range (.cons (.var 1) .nil)) .nil)) .nop)))))) .nop) (.seq (.set 6 (.bin .mod (.bin .fdiv (.var 0) (.lit (.int 4))) (.lit (.int 8)))) (.seq (.fgt 5) (.seq (.set 11 (.join "" (.comp [5] (.ix (.var 2) (.bin .mod (.bin .add (.bin .add (.bin .fdiv (.var 0) (.lit (.int 32))) (.bin .mul (.bin .mul (.lit (.int 3)) (.var 5)) (.var 5))) (.var 5)) (.lit (.int 26)))) (.range (.cons (.var 6) .nil)) .nil))) (.seq (.set 12 (.bin .mod (.bin .fdiv (.var 0) (.lit (.int 512))) (.bin .add (.var 6) (.lit (.int 1))))) (.seq (.fgt 5) (.seq (.ret (.comp [5] (.bin .add (.bin .add (.sl (.var 11) .nil (.cons (.var 12) .nil)) (.ix (.var 2) (.bin .mod (.bin .add (.bin .fdiv (.var 0) (.lit (.int 9))) (.bin .mul (.lit (.int 7)) (.var 5))) (.lit (.int 26))))) (.sl (.var 11) (.cons (.var 12) .nil) .nil)) (.range (.cons (.var 1) .nil)) .nil)) .nop))))))))))))
noncomputable def Dc:Fi:=⟨2,13,Ml,a4⟩
noncomputable def Rg:Sx:=(.seq (.set 3 (.comp [4] (.var 4) (.range (.cons (.blt .len (.cons (.var 0) .nil)) .nil)) (.cons (.cmp .eq (.bin .mod (.bin .fdiv (.var 2) (.bin .shl (.lit (.int 1)) (.var 4))) (.lit (.int 2))) (.lit (.int 1))) .nil))) (.seq (.set 5 (.blt .sum (.cons (.comp [4] (.bin .shl (.ix (.var 0) (.var 4)) (.var 4)) (.seq (.var 3)) .nil) .nil))) (.seq (.set 6 (.blt .sum (.cons (.comp [4,7] (.bin .shl (.var 7) (.var 4)) (.enum (.var 0)) .nil) .nil))) (.seq (.ife (.cmp .eq (.var 1) (.lit (.int 1))) (.seq (.ret (.blt .int (.cons (.cmp .gt (.blt .sum (.cons (.var 0) .nil)) (.bin .mod (.bin .fdiv (.var 2) (.lit (.int 64))) (.blt .len (.cons (.var 0) .nil)))) .nil))) .nop) .nop) (.seq (.ife (.cmp .eq (.var 1) (.lit (.int 2))) (.seq (.set 8 (.bin .mod (.bin .mul (.bin .add (.var 6) (.lit (.int 1))) (.bin .add (.lit (.int 1)) (.bin .mod (.var 2) (.lit (.int 1000003))))) (.lit (.int 2147483629)))) (.seq (.ret (.blt .int (.cons (.cmp .eq (.bin .mod (.bin .fdiv (.var 8) (.lit (.int 32))) (.lit (.int 5))) (.lit (.int 0))) .nil))) .nop)) .nop) (.seq (.ife (.cmp .eq (.var 1) (.lit (.int 3))) (.seq (.set 8 (.bin .mul (.bin .add (.bin .add (.bin .mul (.var 5) (.var 5)) (.bin .mul (.lit (.int 17)) (.var 5))) (.lit (.int 69621))) (.bin .add (.lit (.int 1)) (.bin .mod (.var 2) (.lit (.int 1000003)))))) (.seq (.ret (.bin .mod (.bin .fdiv (.bin .mod (.var 8) (.lit (.int 2147483647))) (.lit (.int 16))) (.lit (.int 2)))) .nop)) .nop) (.seq (.ife (.cmp .eq (.var 1) (.lit (.int 4))) (.seq (.ret (.bin .mod (.bin .add (.blt .sum (.cons (.comp [4] (.ix (.var 0) (.var 4)) (.seq (.var 3)) .nil) .nil)) (.bin .fdiv (.var 2) (.lit (.int 64)))) (.lit (.int 2)))) .nop) .nop) (.seq (.set 8 (.bin .mul (.bin .add (.bin .mul (.var 6) (.var 6)) (.lit (.int 48271))) (.bin .add (.bin .add (.bin .mod (.var 2) (.lit (.int 1000003))) (.var 6)) (.lit (.int 1))))) (.seq (.ret (.bin .mod (.bin .fdiv (.bin .mod (.var 8) (.lit (.int 2147483647))) (.lit (.int 64))) (.lit (.int 2)))) .nop)))))))))
noncomputable def fL_bit:Fi:=⟨3,9,Rg,a4⟩
noncomputable def Yd:Sx:=(.seq (.set 3 (.bin .add (.lit (.int 1)) (.bin .mod (.call "_law_cell" (.cons (.var 0) (.cons (.var 1) .nil))) (.var 2)))) (.seq (.set 4 (.call "_law_words" (.cons (.call "_law_cell" (.cons (.var 0) (.cons (.bin .add (.var 1) (.lit (.int 1))) .nil))) (.cons (.var 3) .nil)))) (.seq (.set 5 (.bin .mod (.bin .fdiv (.call "_law_cell" (.cons (.var 0) (.cons (.var 1) .nil))) (.var 2)) (.lit (.int 5)))) (.seq (.set 6 (.call "_law_cell" (.cons (.var 0) (.cons (.bin .add (.var 1) (.lit (.int 2))) .nil)))) (.seq (.set 7 (.lst .nil)) (.seq (.loop [8] (.range (.cons (.bin .shl (.lit (.int 1)) (.var 3)) .nil)) (.seq (.set 9 (.comp [10] (.bin .mod (.bin .fdiv (.var 8) (.bin .shl (.lit (.int 1)) (.bin .sub (.bin .sub (.var 3) (.var 10)) (.lit (.int 1))))) (.lit (.int 2))) (.range (.cons (.var 3) .nil)) .nil)) (.seq (.app 7 (.ix (.lst (.cons (.call "_law_bit" (.cons (.var 9) (.cons (.var 5) (.cons (.var 6) .nil)))) (.cons (.bin .mod (.bin .fdiv (.var 6) (.bin .shl (.lit (.int 1)) (.var 8))) (.lit (.int 2))) .nil))) (.blt .int (.cons (.cmp .ge (.var 6) (.bin .pow (.lit (.int 10)) (.lit (.int 18)))) .nil)))) .nop))) (.seq (.ret (.tup (.cons (.blt .tuple (.cons (.var 4) .nil)) (.cons (.blt .tuple (.cons (.var 7) .nil)) .nil)))) .nop)))))))
noncomputable def Wm:Fi:=⟨3,11,Yd,a4⟩
noncomputable def Vu:Sx:=(.seq (.ife (.isi (.var 1) ["list","tuple"]) (.seq (.ife (.or (.cmp .ne (.isi (.var 0) ["list"]) (.isi (.var 1) ["list"])) (.not (.isi (.var 0) ["list","tuple"]))) (.seq (.ret (.lit (.bl a4))) .nop) .nop) (.seq (.set 2 (.comp [3] (.var 3) (.range (.cons (.blt .min (.cons (.blt .len (.cons (.var 0) .nil)) (.cons (.blt .len (.cons (.var 1) .nil)) .nil))) .nil)) (.cons (.not (.call "_law_same" (.cons (.ix (.var 0) (.var 3)) (.cons (.ix (.var 1) (.var 3)) .nil)))) .nil))) (.seq (.ret (.and (.cmp .eq (.blt .len (.cons (.var 0) .nil)) (.blt .len (.cons (.var 1) .nil))) (.cmp .eq (.var 2) (.lst .nil)))) .nop))) .nop) (.seq (.ife (.isN (.var 1)) (.seq (.ret (.isN (.var 0))) .nop) .nop) (.seq (.ife (.or (.cmp .ne (.isi (.var 0) ["bool"]) (.isi (.var 1) ["bool"])) (.cmp .ne (.isi (.var 0) ["str"]) (.isi (.var 1) ["str"]))) (.seq (.ret (.lit (.bl a4))) .nop) .nop) (.seq (.ret (.and (.isi (.var 0) ["int","str"]) (.cmp .eq (.var 0) (.var 1)))) .nop))))
noncomputable def fL_same:Fi:=⟨2,4,Vu,a4⟩
noncomputable def Wc:Sx:=(.seq (.set 1 (.lit (.int 1))) (.seq (.loop [2] (.range (.cons (.var 0) .nil)) (.seq (.set 1 (.bin .mul (.lit (.int 3)) (.var 1))) .nop)) (.seq (.retV 1) .nop)))
noncomputable def Oj:Fi:=⟨1,3,Wc,a4⟩
noncomputable def We:Sx:=(.seq (.set 2 (.lst .nil)) (.seq (.loop [3] (.range (.cons (.var 0) .nil)) (.seq (.set 2 (.bin .add (.lst (.cons (.bin .mod (.var 1) (.lit (.int 3))) .nil)) (.var 2))) (.seq (.set 1 (.bin .fdiv (.var 1) (.lit (.int 3)))) .nop))) (.seq (.retV 2) .nop)))
noncomputable def Om:Fi:=⟨2,4,We,a4⟩
noncomputable def Mp:Sx:=(.seq (.set 2 (.call "_law_digits" (.cons (.var 0) (.cons (.var 1) .nil)))) (.seq (.set 3 (.lst .nil)) (.seq (.loop [4] (.range (.cons (.var 0) .nil)) (.seq (.ife (.cmp .eq (.ix (.var 2) (.var 4)) (.lit (.int 2))) (.seq (.set 5 (.call "_law_threes" (.cons (.bin .sub (.bin .sub (.var 0) (.lit (.int 1))) (.var 4)) .nil))) (.seq (.app 3 (.tup (.cons (.var 4) (.cons (.bin .sub (.var 1) (.bin .mul (.lit (.int 2)) (.var 5))) (.cons (.bin .sub (.var 1) (.var 5)) .nil))))) .nop)) .nop) .nop)) (.seq (.retV 3) .nop))))
noncomputable def Df:Fi:=⟨2,6,Mp,a4⟩
noncomputable def N6:Sx:=(.seq (.set 1 (.blt .len (.cons (.ix (.var 0) (.lit (.int 0))) .nil))) (.seq (.set 2 (.lst .nil)) (.seq (.loop [3] (.range (.cons (.call "_law_threes" (.cons (.var 1) .nil)) .nil)) (.seq (.set 4 (.call "_law_steps" (.cons (.var 1) (.cons (.var 3) .nil)))) (.seq (.ife (.cmp .eq (.blt .len (.cons (.var 4) .nil)) (.lit (.int 0))) (.seq (.set 5 (.lit (.int 0))) (.seq (.loop [6] (.seq (.call "_law_digits" (.cons (.var 1) (.cons (.var 3) .nil)))) (.seq (.set 5 (.bin .add (.bin .mul (.lit (.int 2)) (.var 5)) (.var 6))) .nop)) (.seq (.app 2 (.tup (.cons (.ix (.ix (.var 0) (.lit (.int 1))) (.var 5)) (.cons (.lit (.int 1)) .nil)))) .nop))) (.seq (.set 7 (.ix (.var 2) (.ix (.ix (.var 4) (.lit (.int 0))) (.lit (.int 1))))) (.seq (.set 8 (.ix (.var 2) (.ix (.ix (.var 4) (.lit (.int 0))) (.lit (.int 2))))) (.seq (.app 2 (.tup (.cons (.bin .add (.ix (.var 7) (.lit (.int 0))) (.ix (.var 8) (.lit (.int 0)))) (.cons (.bin .add (.ix (.var 7) (.lit (.int 1))) (.ix (.var 8) (.lit (.int 1)))) .nil)))) .nop)))) .nop))) (.seq (.retV 2) .nop))))
noncomputable def Ib:Fi:=⟨1,9,N6,a4⟩
noncomputable def Yy:Sx:=(.seq (.ret (.chn (.lit (.int 0)) (.ix (.var 0) (.lit (.int 0))) (.ix (.var 0) (.lit (.int 1))))) .nop)
noncomputable def M6:Fi:=⟨1,1,Yy,a4⟩
noncomputable def Wd:Sx:=(.seq (.ife (.cmp .eq (.bin .mod (.var 0) (.lit (.int 4))) (.lit (.int 0))) (.seq (.ret (.lit (.non))) .nop) .nop) (.seq (.set 2 (.bin .mod (.var 0) (.lit (.int 2147483647)))) (.seq (.set 3 (.bin .fdiv (.var 0) (.lit (.int 8)))) (.seq (.set 4 (.lst .nil)) (.seq (.loop [5] (.range (.cons (.var 1) .nil)) (.seq (.set 2 (.bin .mod (.bin .add (.bin .add (.bin .mul (.var 2) (.lit (.int 48271))) (.bin .mul (.lit (.int 13)) (.var 5))) (.lit (.int 5))) (.lit (.int 2147483647)))) (.seq (.app 4 (.ix (.lst (.cons (.bin .add (.lit (.int 1)) (.bin .mod (.bin .fdiv (.var 2) (.lit (.int 16))) (.lit (.int 5)))) (.cons (.bin .add (.lit (.int 1)) (.bin .mod (.bin .fdiv (.var 2) (.lit (.int 16))) (.bin .pow (.lit (.int 10)) (.lit (.int 6))))) .nil))) (.bin .mod (.bin .fdiv (.var 0) (.lit (.int 4))) (.lit (.int 2))))) (.seq (.ife (.cmp .ge (.var 0) (.bin .pow (.lit (.int 10)) (.lit (.int 18)))) (.seq (.put 4 (.var 5) (.bin .add (.lit (.int 1)) (.bin .mod (.var 3) (.bin .pow (.lit (.int 10)) (.lit (.int 6)))))) (.seq (.set 3 (.bin .fdiv (.var 3) (.bin .pow (.lit (.int 10)) (.lit (.int 6))))) .nop)) .nop) .nop)))) (.seq (.retV 4) .nop))))))
noncomputable def Ol:Fi:=⟨2,6,Wd,a4⟩
noncomputable def Mr:Sx:=(.seq (.ife (.isN (.var 0)) (.seq (.ret (.comp [2] (.lit (.int 1)) (.range (.cons (.var 1) .nil)) .nil)) .nop) .nop) (.seq (.retV 0) .nop))
noncomputable def Dh:Fi:=⟨2,3,Mr,a4⟩
noncomputable def Yx:Sx:=(.seq (.set 2 (.bin .mod (.var 0) (.lit (.int 2147483647)))) (.seq (.mov 3 0) (.seq (.set 4 (.lst .nil)) (.seq (.loop [5] (.range (.cons (.bin .shl (.lit (.int 1)) (.var 1)) .nil)) (.seq (.set 2 (.bin .mod (.bin .add (.bin .add (.bin .mul (.var 2) (.lit (.int 48271))) (.bin .mul (.lit (.int 17)) (.var 5))) (.lit (.int 3))) (.lit (.int 2147483647)))) (.seq (.app 4 (.ix (.lst (.cons (.bin .mod (.bin .fdiv (.var 2) (.lit (.int 16))) (.lit (.int 4))) (.cons (.bin .mod (.bin .fdiv (.var 2) (.lit (.int 16))) (.bin .add (.bin .pow (.lit (.int 10)) (.lit (.int 6))) (.lit (.int 1)))) (.cons (.lit (.int 1)) .nil)))) (.bin .mod (.var 0) (.lit (.int 3))))) (.seq (.ife (.cmp .ge (.var 0) (.bin .pow (.lit (.int 10)) (.lit (.int 18)))) (.seq (.put 4 (.var 5) (.bin .mod (.var 3) (.bin .add (.bin .pow (.lit (.int 10)) (.lit (.int 6))) (.lit (.int 1))))) (.seq (.set 3 (.bin .fdiv (.var 3) (.bin .add (.bin .pow (.lit (.int 10)) (.lit (.int 6))) (.lit (.int 1))))) .nop)) .nop) .nop)))) (.seq (.ife (.cmp .eq (.blt .sum (.cons (.var 4) .nil)) (.lit (.int 0))) (.seq (.put 4 (.bin .mod (.bin .fdiv (.var 0) (.lit (.int 3))) (.bin .shl (.lit (.int 1)) (.var 1))) (.lit (.int 1))) .nop) .nop) (.seq (.retV 4) .nop))))))
noncomputable def M5:Fi:=⟨2,6,Yx,a4⟩
noncomputable def Mq:Sx:=(.seq (.ret (.comp [2] (.ix (.var 2) (.lit (.int 0))) (.seq (.call "_law_ones" (.cons (.tup (.cons (.ix (.var 0) (.lit (.int 0))) (.cons (.var 1) .nil))) .nil))) .nil)) .nop)
noncomputable def Dg:Fi:=⟨2,3,Mq,a4⟩
noncomputable def Mm:Sx:=(.seq (.set 3 (.blt .len (.cons (.ix (.var 0) (.lit (.int 0))) .nil))) (.seq (.set 4 (.call "_law_heavy" (.cons (.var 0) (.cons (.var 1) .nil)))) (.seq (.set 5 (.lst .nil)) (.seq (.loop [6,7] (.enum (.call "_law_ones" (.cons (.var 0) .nil))) (.seq (.set 8 (.lit (.int 0))) (.seq (.ife (.call "_law_is_open" (.cons (.var 7) .nil)) (.seq (.set 9 (.lst .nil)) (.seq (.loop [10,11,12,12] (.seq (.call "_law_steps" (.cons (.var 3) (.cons (.var 6) .nil)))) (.seq (.set 13 (.bin .mul (.ix (.var 2) (.var 10)) (.ix (.var 4) (.var 6)))) (.seq (.app 9 (.bin .add (.bin .add (.var 13) (.ix (.var 5) (.var 11))) (.ix (.var 5) (.var 12)))) .nop))) (.seq (.set 8 (.blt .min (.cons (.var 9) .nil))) .nop))) .nop) (.seq (.app 5 (.var 8)) .nop)))) (.seq (.retV 5) .nop)))))
noncomputable def De:Fi:=⟨3,14,Mm,a4⟩
noncomputable def Zv:Sx:=(.seq (.set 3 (.ix (.var 0) (.lit (.int 0)))) (.seq (.set 4 (.blt .len (.cons (.var 3) .nil))) (.seq (.set 5 (.call "_law_ones" (.cons (.var 0) .nil))) (.seq (.set 6 (.lst .nil)) (.seq (.set 7 (.lst (.cons (.tup (.cons (.var 1) (.cons (.bin .sub (.call "_law_threes" (.cons (.var 4) .nil)) (.lit (.int 1))) (.cons (.lit (.int 0)) .nil)))) .nil))) (.seq (.whl (.cmp .gt (.blt .len (.cons (.var 7) .nil)) (.lit (.int 0))) (.seq (.pop3 8 9 10 7) (.seq (.ife (.or (.not (.isi (.var 8) ["tuple"])) (.cmp .lt (.blt .len (.cons (.var 8) .nil)) (.lit (.int 2)))) (.seq (.ret (.lit (.non))) .nop) .nop) (.seq (.ife (.not (.call "_law_is_open" (.cons (.ix (.var 5) (.var 9)) .nil))) (.seq (.ife (.not (.call "_law_same" (.cons (.var 8) (.cons (.tup (.cons (.lit (.str "tell")) (.cons (.blt .int (.cons (.cmp .gt (.ix (.ix (.var 5) (.var 9)) (.lit (.int 0))) (.lit (.int 0))) .nil)) .nil))) .nil)))) (.seq (.ret (.lit (.non))) .nop) .nop) (.seq (.app 6 (.tup (.cons (.var 9) (.cons (.var 10) .nil)))) .nop)) (.seq (.set 11 (.comp [12] (.var 12) (.seq (.call "_law_steps" (.cons (.var 4) (.cons (.var 9) .nil)))) (.cons (.and (.cmp .eq (.blt .len (.cons (.var 8) .nil)) (.lit (.int 4))) (.cmp .eq (.ix (.var 3) (.ix (.var 12) (.lit (.int 0)))) (.ix (.var 8) (.lit (.int 1))))) .nil))) (.seq (.ife (.or (.cmp .ne (.ix (.var 8) (.lit (.int 0))) (.lit (.str "ask"))) (.cmp .ne (.blt .len (.cons (.var 11) .nil)) (.lit (.int 1)))) (.seq (.ret (.lit (.non))) .nop) .nop) (.seq (.set 10 (.bin .add (.var 10) (.ix (.var 2) (.ix (.ix (.var 11) (.lit (.int 0))) (.lit (.int 0)))))) (.seq (.app 7 (.tup (.cons (.ix (.var 8) (.lit (.int 2))) (.cons (.ix (.ix (.var 11) (.lit (.int 0))) (.lit (.int 1))) (.cons (.var 10) .nil))))) (.seq (.app 7 (.tup (.cons (.ix (.var 8) (.lit (.int 3))) (.cons (.ix (.ix (.var 11) (.lit (.int 0))) (.lit (.int 2))) (.cons (.var 10) .nil))))) .nop)))))) .nop)))) (.seq (.retV 6) .nop)))))))
noncomputable def Yr:Fi:=⟨3,13,Zv,a4⟩
noncomputable def N7:Sx:=(.seq (.set 3 (.call "_law_heavy" (.cons (.var 0) (.cons (.var 1) .nil)))) (.seq (.ret (.blt .sum (.cons (.comp [4,5] (.bin .mul (.var 5) (.ix (.var 3) (.var 4))) (.seq (.var 2)) .nil) .nil))) .nop))
noncomputable def Ie:Fi:=⟨3,6,N7,a4⟩
noncomputable def Ye:Sx:=(.seq (.set 4 (.blt .len (.cons (.ix (.var 0) (.lit (.int 0))) .nil))) (.seq (.set 5 (.call "_law_ones" (.cons (.var 0) .nil))) (.seq (.set 6 (.lrng (.var 4))) (.seq (.set 7 (.lst .nil)) (.seq (.set 8 (.bin .mod (.var 3) (.lit (.int 2147483647)))) (.seq (.mov 9 3) (.seq (.whl (.cmp .gt (.blt .len (.cons (.var 6) .nil)) (.lit (.int 0))) (.seq (.set 8 (.bin .mod (.bin .add (.bin .mul (.var 8) (.lit (.int 48271))) (.lit (.int 7))) (.lit (.int 2147483647)))) (.seq (.set 10 (.bin .mod (.ix (.lst (.cons (.bin .fdiv (.var 8) (.lit (.int 16))) (.cons (.var 9) .nil))) (.blt .int (.cons (.cmp .ge (.var 3) (.bin .pow (.lit (.int 10)) (.lit (.int 18)))) .nil))) (.blt .len (.cons (.var 6) .nil)))) (.seq (.set 9 (.bin .fdiv (.var 9) (.blt .len (.cons (.var 6) .nil)))) (.seq (.apop 7 6 (.var 10)) .nop))))) (.seq (.keep 7) (.seq (.set 11 (.lit (.int 0))) (.seq (.loop [12] (.range (.cons (.bin .shl (.lit (.int 1)) (.var 4)) .nil)) (.seq (.set 13 (.bin .sub (.call "_law_threes" (.cons (.var 4) .nil)) (.lit (.int 1)))) (.seq (.set 14 (.lit (.int 0))) (.seq (.loop [15] (.seq (.var 7)) (.seq (.ife (.call "_law_is_open" (.cons (.ix (.var 5) (.var 13)) .nil)) (.seq (.set 16 (.bin .mod (.bin .fdiv (.var 12) (.bin .shl (.lit (.int 1)) (.bin .sub (.bin .sub (.var 4) (.var 15)) (.lit (.int 1))))) (.lit (.int 2)))) (.seq (.set 13 (.bin .sub (.var 13) (.bin .mul (.bin .sub (.lit (.int 2)) (.var 16)) (.call "_law_threes" (.cons (.bin .sub (.bin .sub (.var 4) (.lit (.int 1))) (.var 15)) .nil))))) (.seq (.set 14 (.bin .add (.var 14) (.ix (.var 2) (.var 15)))) .nop))) .nop) .nop)) (.seq (.set 11 (.bin .add (.var 11) (.bin .mul (.ix (.var 1) (.var 12)) (.var 14)))) .nop))))) (.seq (.retV 11) .nop)))))))))))
noncomputable def Wn:Fi:=⟨4,17,Ye,a4⟩
noncomputable def Yz:Sx:=(.seq (.whl (.cmp .gt (.var 1) (.lit (.int 0))) (.seq (.par 0 1 (.var 1) (.bin .mod (.var 0) (.var 1))) .nop)) (.seq (.retV 0) .nop))
noncomputable def M7:Fi:=⟨2,2,Yz,a4⟩
noncomputable def j5t:Sx:=(.seq (.set 1 (.call "_law_question" (.cons (.var 0) (.cons (.lit (.int 0)) (.cons (.ix (.lst (.cons (.lit (.int 4)) (.cons (.lit (.int 4)) (.cons (.lit (.int 4)) (.cons (.lit (.int 4)) (.cons (.lit (.int 4)) (.cons (.lit (.int 4)) (.cons (.lit (.int 4)) (.cons (.lit (.int 5)) .nil))))))))) (.bin .mod (.call "_law_cell" (.cons (.var 0) (.cons (.lit (.int 39)) .nil))) (.lit (.int 8)))) .nil))))) (.seq (.set 2 (.blt .len (.cons (.ix (.var 1) (.lit (.int 0))) .nil))) (.seq (.set 3 (.call "_law_prices" (.cons (.call "_law_cell" (.cons (.var 0) (.cons (.lit (.int 3)) .nil))) (.cons (.var 2) .nil)))) (.seq (.keep 3) (.seq (.set 4 (.call "_law_weights" (.cons (.call "_law_cell" (.cons (.var 0) (.cons (.lit (.int 4)) .nil))) (.cons (.var 2) .nil)))) (.seq (.keep 4) (.seq (.set 5 (.call "_law_costs" (.cons (.var 3) (.cons (.var 2) .nil)))) (.seq (.keep 5) (.seq (.set 6 (.ix (.call "_law_whole" (.cons (.var 1) (.cons (.var 4) (.cons (.var 5) .nil)))) (.neg (.lit (.int 1))))) (.seq (.set 7 (.callK "whole_plan" (.cons (.var 1) (.cons (.var 4) .nil)) (.var 3))) (.seq (.ife (.and (.isN (.var 3)) (.cmp .eq (.bin .mod (.bin .fdiv (.call "_law_cell" (.cons (.var 0) (.cons (.lit (.int 3)) .nil))) (.lit (.int 4))) (.lit (.int 2))) (.lit (.int 0)))) (.seq (.set 7 (.callD "whole_plan" (.cons (.var 1) (.cons (.var 4) .nil)))) .nop) .nop) (.seq (.set 8 (.call "_law_plan_costs" (.cons (.var 1) (.cons (.var 7) (.cons (.var 5) .nil))))) (.seq (.keep 8) (.seq (.ife (.or (.isN (.var 8)) (.cmp .ne (.call "_law_cost" (.cons (.var 1) (.cons (.var 4) (.cons (.var 8) .nil)))) (.var 6))) (.seq (.ret (.lit (.bl a4))) .nop) .nop) (.seq (.loop [9] (.seq (.bin .add (.lst (.cons (.call "_law_cell" (.cons (.var 0) (.cons (.lit (.int 40)) .nil))) .nil)) (.sl (.var 0) (.cons (.lit (.int 41)) .nil) (.cons (.lit (.int 46)) .nil)))) (.seq (.ife (.cmp .lt (.call "_law_by_order" (.cons (.var 1) (.cons (.var 4) (.cons (.var 5) (.cons (.var 9) .nil))))) (.var 6)) (.seq (.ret (.lit (.bl a4))) .nop) .nop) .nop)) (.seq (.set 10 (.call "_law_divisor" (.cons (.var 6) (.cons (.blt .sum (.cons (.var 4) .nil)) .nil)))) (.seq (.set 11 (.tup (.cons (.bin .fdiv (.var 6) (.var 10)) (.cons (.bin .fdiv (.blt .sum (.cons (.var 4) .nil)) (.var 10)) .nil)))) (.seq (.ife (.and (.isN (.var 3)) (.not (.call "_law_same" (.cons (.callD "mean_price" (.cons (.var 1) (.cons (.var 4) .nil))) (.cons (.var 11) .nil))))) (.seq (.ret (.lit (.bl a4))) .nop) .nop) (.seq (.ret (.call "_law_same" (.cons (.callK "mean_price" (.cons (.var 1) (.cons (.blt .list (.cons (.var 4) .nil)) .nil)) (.var 3)) (.cons (.var 11) .nil)))) .nop)))))))))))))))))))
noncomputable def j5g:Fi:=⟨1,12,j5t,a4⟩
noncomputable def Qg:Ex:=(.ix (.call "cheapest_ask" (.cons (.var 1) (.cons (.var 2) (.cons (.var 0) .nil)))) (.lit (.int 0)))
noncomputable def Zx:Fi:=⟨3,3,.ret Qg,a6⟩
noncomputable def J3:Ex:=(.bin .add (.bin .mul (.ix (.var 1) (.var 4)) (.dget (.var 0) (.var 3))) (.blt .sum (.cons (.call "numbers_behind" (.cons (.var 2) (.cons (.var 3) (.cons (.var 4) .nil)))) .nil)))
noncomputable def Qd:Fi:=⟨5,5,.ret J3,a6⟩
noncomputable def tbl:List (ah×Fi):=("fraction",Wj)::("common_divisor",Zh)::("parts_of",Wh)::("row_number",Yn)::("rows_in",fP_rows_in)::("parts_in",Wi)::("told_further",Va)::("refuse_wrong_size",Qf)::("all_choices",fP_all_choices)::("number_of",Ul)::("answer_to",Um)::("settled_by",Ym)::("counted_in",Yq)::("all_open",Wl)::("count_of_rows",Zz)::("telling",M4)::("asking",Oi)::("prices_told",Jz)::("refuse_wrong_weights",Je)::("all_between",Vr)::("least_table",Vq)::("least_plan",Yp)::("least_numbers",Zy)::("numbers_within",Zf)::("least_plan_at",Ja)::("cheapest_ask",Vb)::("numbers_behind",Zg)::("whole_table",Vp)::("whole_plan",Yl)::("mean_price",Yo)::("whole_cost_of_ask",Qe)::("weights_by_part",Qx)::("_law_cell",fL_cell)::("_law_words",Dc)::("_law_bit",fL_bit)::("_law_question",Wm)::("_law_same",fL_same)::("_law_threes",Oj)::("_law_digits",Om)::("_law_steps",Df)::("_law_ones",Ib)::("_law_is_open",M6)::("_law_prices",Ol)::("_law_costs",Dh)::("_law_weights",M5)::("_law_heavy",Dg)::("_law_whole",De)::("_law_plan_costs",Yr)::("_law_cost",Ie)::("_law_by_order",Wn)::("_law_divisor",M7)::("law",j5g)::("least_numbers.<locals>.<lambda>",Zx)::("whole_cost_of_ask.<locals>.<lambda>",Qd)::[]
noncomputable def T(x:ah):Option Fi:=tbl.lookup x
noncomputable def gs:List (ah×D):=[("FEWEST_PLACES",.int 1),("MOST_PLACES",.int 6),("ANSWERS",.tup [.int 0,.int 1]),("NOT_TOLD",.int 2),("TELLINGS",.tup [.int 0,.int 1,.int 2]),("LEAST_PRICE",.int 1),("LEAST_WEIGHT",.int 0),("GREATEST_NUMBER",.int 1000000)]
noncomputable def xs:List (ah×List D):=[]
noncomputable def qs:List ah:=[]
noncomputable abbrev G:ah->Option D:=Gof gs a4 xs qs
end K31
end
section
open PySem PySem.Spec PyProof.Rows L2
local macro_rules | `(tactic| walk_at "vis")=>`(tactic| first | exact Or.inl rfl | exact Or.inr (Or.inl rfl) | exact Or.inr (Or.inr rfl))
local macro_rules | `(tactic| walk_at "loc")=>`(tactic| first | exact Or.inl rfl | exact Or.inr rfl)
local macro_rules | `(tactic| walk_at "cap")=>`(tactic| repeat (first | exact rfl | refine ⟨_,_,rfl,by rfl,by rfl,by rfl,by rfl,?_⟩))
local macro_rules | `(tactic| walk_at "ts")=>`(tactic| first
 |exact Tr.int|exact Tr.bl|exact Tr.non|exact Tr.str
 |exact Tr.var (by rfl) (by walk_at "vis") (by decide) (by decide)|exact Tr.glob (by rfl) (by decide) (by decide)
 |refine Tr.bin ?_ ?_|refine Tr.neg ?_|refine Tr.cmp (by rfl) ?_ ?_|refine Tr.bcmp (by rfl) ?_ ?_|refine Tr.isN ?_|refine Tr.bisN ?_|refine Tr.isNN ?_|refine Tr.bisNN ?_
 |refine Tr.and ?_ ?_|refine Tr.or ?_ ?_|refine Tr.one ?_|refine Tr.not ?_
 |refine Tr.wand ?_ ?_|refine Tr.wor ?_ ?_|refine Tr.wand1 ?_|refine Tr.wor1 ?_|refine Tr.bw ?_|refine Tr.bnot ?_
 |refine Tr.ite ?_ ?_ ?_|exact Tr.nil|refine Tr.cons (by rfl) ?_ ?_|refine Tr.tup ?_|refine Tr.lst ?_
 |refine Tr.ix (by intro _ _;rfl) ?_ ?_|exact Tr.oN|refine Tr.oS ?_|refine Tr.sl ?_ ?_ ?_
 |refine Tr.chn (by with_unfolding_all rfl) ?_ ?_ ?_|refine Tr.bchn (by with_unfolding_all rfl) ?_ ?_ ?_
 |refine Tr.callK (by decide) (by rfl) (by decide) (by rfl) (by rfl) (by rfl) (by rfl) ?_ ?_|refine Tr.callD (by decide) (by rfl) (by decide) (by rfl) (by rfl) ?_
 |refine Tr.call (by rfl) (by decide) (by rfl) (by rfl) ?_
 |refine Tr.callV (by rfl) (by walk_at "vis") (by decide) (by decide) (by rfl) (by rfl) ?_|refine Tr.dget (by intro _ _;rfl) ?_ ?_|refine Tr.dvals (by rfl) (by rfl) (by rfl) (by rfl) (by rfl) ?_|refine Tr.minT (by rfl) (by rfl) (by rfl) ?_
 |refine Tr.min1 (by rfl) (by rfl) ?_
 |refine Tr.lrng (by rfl) (by rfl) (by rfl) (by rfl) (by rfl) ?_|refine Tr.lset (by rfl) (by rfl) (by rfl) (by rfl) (by rfl) ?_|refine Tr.len (by rfl) ?_|refine Tr.all (by rfl) (by rfl) ?_|refine Tr.tuple (by rfl) ?_|refine Tr.list (by rfl) ?_|refine Tr.min (by rfl) (by rfl) ?_
 |refine Tr.sum (by rfl) (by rfl) ?_|refine Tr.intc (by rfl) ?_|refine Tr.join (by rfl) (by rfl) (by rfl) (by rfl) ?_|refine Tr.lset (by rfl) (by rfl) (by rfl) (by rfl) (by rfl) ?_|refine Tr.enum (by rfl) (by rfl) ?_
 |refine Tr.count (by rfl) (by rfl) (by rfl) ?_ ?_
 |refine Tr.isi1 (by decide) (by decide +kernel) (by rfl) (by rfl) (by decide) (by decide) (by rfl) ?_
 |refine Tr.isi2 (by decide) (by decide) (by decide +kernel) (by decide +kernel) (by rfl) (by rfl) (by rfl) (by decide) (by decide) (by decide) (by decide) (by rfl) ?_
 |exact Tr.c0|refine Tr.c1 ?_
 |refine Tr.comp1 (by rfl) (by rfl) (by rfl) (by rfl) (by rfl) (by intro _;rfl) ?_ ?_ ?_
 |refine Tr.comp2 (by rfl) (by decide) (by rfl) (by rfl) (by rfl) (by rfl) (by rfl) (by rfl) (by intro _;rfl) ?_ ?_ ?_
 |refine Tr.seq ?_|refine Tr.range (by rfl) ?_
 |refine Tr.bval (by intro _;rfl) ?_
 |refine Ts.wmake (by rfl) (by rfl) (by rfl) (by walk_at "loc") (by walk_at "loc") (by exact aU rfl) (by exact aU rfl) (by decide) (by decide) (by decide) (by decide) (by rfl) (by rfl) (by intro _;rfl) ?_ ?_
 |refine Ts.nmake (by rfl) (by rfl) (by rfl) (by rfl) (by walk_at "loc") (by walk_at "loc") (by walk_at "loc") (by exact aU rfl) (by exact aU rfl) (by exact aU rfl) (by decide) (by decide) (by decide) (by decide) (by rfl) (by rfl) (by rfl) (by intro _;rfl) ?_ ?_ ?_
 |exact Ts.retL (by decide) (by rfl) (by rfl) (by rfl) (Eq.trans (by assumption) rfl) (by rfl) (by decide +kernel) (by walk_at "cap")
 |refine Ts.retC (by decide) (by rfl) (by rfl) (by rfl) (Eq.trans (by assumption) rfl) (by rfl) (by decide +kernel) (by walk_at "cap") (by rfl) (by decide) (by rfl) (by rfl) (by rfl) (by rfl) ?_ ?_
 |exact Ts.pop3 (by rfl) (by rfl) (by rfl) (by rfl) (by rfl) (by walk_at "loc") (by walk_at "loc") (by walk_at "loc") (by exact aU rfl) (by exact aU rfl) (by exact aU rfl) (by walk_at "vis") (by decide) (by decide) (by rfl) (by rfl) (by rfl) (by rfl)
 |exact Ts.nil|refine Ts.fgt ?_|refine Ts.keep ?_|refine Ts.cons ?_ ?_|exact Ts.pass|exact Ts.doc|exact Ts.fail
 |exact Ts.mov (by rfl) (by rfl) (by walk_at "loc") (by exact aU rfl) (by walk_at "vis") (by decide) (by decide)
 |refine Ts.setC1 (by rfl) (by rfl) (by walk_at "loc") (by exact aU rfl) (by rfl) (by rfl) (by rfl) (by rfl) (by rfl) (by intro _;rfl) ?_ ?_ ?_
 |refine Ts.setC2 (by rfl) (by rfl) (by walk_at "loc") (by exact aU rfl) (by rfl) (by decide) (by rfl) (by rfl) (by rfl) (by rfl) (by rfl) (by rfl) (by intro _;rfl) ?_ ?_ ?_
 |refine Ts.set (by rfl) (by walk_at "loc") (by rfl) (by exact aU rfl) ?_
 |exact Ts.retV (by rfl) (by walk_at "vis") (by decide) (by decide)|refine Ts.ret ?_
 |refine Ts.ife ?_ ?_ ?_|refine Ts.for1 (by rfl) (by rfl) (by walk_at "loc") (by exact aU rfl) (by intro _;rfl) ?_ ?_
 |refine Ts.for2 (by rfl) (by decide) (by rfl) (by rfl) (by walk_at "loc") (by walk_at "loc") (by exact aU rfl) (by exact aU rfl) (by intro _;rfl) ?_ ?_
 |refine Ts.for3f (by rfl) (by rfl) (by rfl) (by rfl) (by walk_at "loc") (by walk_at "loc") (by walk_at "loc") (by exact aU rfl) (by exact aU rfl) (by exact aU rfl) (by intro _;rfl) ?_ ?_
 |refine Ts.whl ?_ ?_
 |refine Ts.apop (by rfl) (by walk_at "vis") (by decide) (by decide) (by rfl) (by walk_at "vis") (by decide) (by decide) (by rfl) (by rfl) (by rfl) (by rfl) (by rfl) (by rfl) (by rfl) (by rfl) (by rfl) ?_
 |refine Ts.app (by rfl) (by walk_at "vis") (by decide) (by decide) (by rfl) (by rfl) (by rfl) (by rfl) ?_
 |refine Ts.ext (by rfl) (by walk_at "vis") (by decide) (by decide) (by rfl) (by rfl) (by rfl) (by rfl) ?_
 |refine Ts.put (by rfl) (by walk_at "vis") (by decide) (by decide) (by intro _;rfl) (by rfl) (by rfl) ?_ ?_
 |refine Ts.par (by rfl) (by rfl) (by rfl) (by rfl) (by rfl) (by rfl) (by rfl) (by rfl) (by rfl) ?_ ?_
 |refine Ts.expr (by rfl) ?_
 |intro C s H fp pn
 |intro pn xe)
local macro_rules | `(tactic| walk_at "bnd")=>`(tactic| (intro _ _ _ _ _ _ us hl; first | (obtain ⟨_,e⟩:=us1 hl; subst e; rfl) | (obtain ⟨_,_,e⟩:=us2 hl; subst e; rfl) | (obtain ⟨_,_,_,e⟩:=us3 hl; subst e; rfl) | (obtain ⟨_,_,_,_,e⟩:=us4 hl; subst e; rfl)))
local macro_rules | `(tactic| walk_at "bnk")=>`(tactic| (intro _ _ _ _ _ _ _ _ _ _ hK td; refine ⟨fun us hl=>?_,fun us hl=>?_,fun us v hl=>?_⟩; (first | (obtain ⟨_,_,e⟩:=us2 hl; subst e; exact PySem.W.binds_K hK rfl td rfl rfl rfl) | (obtain ⟨_,_,_,e⟩:=us3 hl; subst e; exact PySem.W.binds_K hK rfl td rfl rfl rfl)); (first | (obtain ⟨_,_,e⟩:=us2 (Nat.succ.inj hl); subst e; exact PySem.W.binds_K hK rfl td rfl rfl rfl) | (obtain ⟨_,_,_,e⟩:=us3 (Nat.succ.inj hl); subst e; exact PySem.W.binds_K hK rfl td rfl rfl rfl)); (first | (obtain ⟨_,_,e⟩:=us2 (Nat.succ.inj hl); subst e; exact PySem.W.binds_K hK rfl td rfl rfl rfl) | (obtain ⟨_,_,_,e⟩:=us3 (Nat.succ.inj hl); subst e; exact PySem.W.binds_K hK rfl td rfl rfl rfl))))
local macro_rules | `(tactic| walk_at "sc")=>`(tactic| exact ⟨rfl,rfl,rfl,by decide +kernel,rfl,by decide +kernel,by decide +kernel⟩)
local macro_rules | `(tactic| walk_at "lk")=>`(tactic| first | walk_at "sc" | walk_at "bnd" | decide)
local macro_rules | `(tactic| walk_at "scl")=>`(tactic| exact ⟨rfl,rfl,rfl,by decide +kernel,rfl,by decide +kernel,by decide +kernel,by decide +kernel,jel⟩)
local macro_rules | `(tactic| walk_at "bndl")=>`(tactic| (intro _ _ _ _ us hl; first | (obtain ⟨_,_,e⟩:=us2 hl; subst e; rfl) | (obtain ⟨_,_,_,e⟩:=us3 hl; subst e; rfl)))
namespace K31
section
variable{P:av}{w:az}{K:k9d}{mg:k9g}{base:aC}
theorem j0t:TrT P w K mg base "fraction" ["top","bottom","common"] (top 7) Yb:=by
 intro f cdv A outer s H E xe;unfold Yb
 repeat' (walk_at "ts")
theorem Mx:TrT P w K mg base "common_divisor" ["one","other","rest"] (top 8) Jt:=by
 intro f cdv A outer s H E xe;unfold Jt
 repeat' (walk_at "ts")
theorem j0r:TrT P w K mg base "parts_of" ["many"] (top 15) Y8:=by
 intro f cdv A outer s H E xe;unfold Y8
 repeat' (walk_at "ts")
theorem K5:TrT P w K mg base "row_number" ["row"] (top 16) Zq:=by
 intro f cdv A outer s H E xe;unfold Zq
 repeat' (walk_at "ts")
theorem j2u:TrT P w K mg base "rows_in" ["part","told"] (top 17) Za:=by
 intro f cdv A outer s H E xe;unfold Za
 repeat' (walk_at "ts")
theorem j0s:TrT P w K mg base "parts_in" ["part","told"] (top 18) Y9:=by
 intro f cdv A outer s H E xe;unfold Y9
 repeat' (walk_at "ts")
theorem Fb:TrT P w K mg base "told_further" ["part","spot","answer"] (top 19) Qp:=by
 intro f cdv A outer s H E xe;unfold Qp
 repeat' (walk_at "ts")
theorem Wr:TrT P w K mg base "refuse_wrong_size" ["many"] (top 20) J6:=by
 intro f cdv A outer s H E xe;unfold J6
 repeat' (walk_at "ts")
theorem Dy:TrT P w K mg base "all_choices" ["figures_by_spot","chosen","figures","longer","ahead","figure"] (top 21) J9:=by
 intro f cdv A outer s H E xe;unfold J9
 repeat' (walk_at "ts")
theorem j01:TrT P w K mg base "number_of" ["figures","base","number","figure"] (top 22) Ve:=by
 intro f cdv A outer s H E xe;unfold Ve
 repeat' (walk_at "ts")
theorem j02:TrT P w K mg base "answer_to" ["question","row"] (top 24) Vf:=by
 intro f cdv A outer s H E xe;unfold Vf
 repeat' (walk_at "ts")
theorem K4:TrT P w K mg base "settled_by" ["question","part","counted"] (top 25) Zo:=by
 intro f cdv A outer s H E xe;unfold Zo
 repeat' (walk_at "ts")
theorem K8:TrT P w K mg base "counted_in" ["question","part","answers","row"] (top 26) Zu:=by
 intro f cdv A outer s H E xe;unfold Zu
 repeat' (walk_at "ts")
theorem j0u:TrT P w K mg base "all_open" ["question"] (top 27) Yc:=by
 intro f cdv A outer s H E xe;unfold Yc
 repeat' (walk_at "ts")
theorem Nj:TrT P w K mg base "count_of_rows" ["many"] (top 28) Qi:=by
 intro f cdv A outer s H E xe;unfold Qi
 repeat' (walk_at "ts")
theorem j2t:TrT P w K mg base "telling" ["answer"] (top 33) Yw:=by
 intro f cdv A outer s H E xe;unfold Yw
 repeat' (walk_at "ts")
theorem j4r:TrT P w K mg base "asking" ["place","if_no","if_yes"] (top 34) Wb:=by
 intro f cdv A outer s H E xe;unfold Wb
 repeat' (walk_at "ts")
theorem Dv:TrT P w K mg base "prices_told" ["many","prices"] (top 35) Q5:=by
 intro f cdv A outer s H E xe;unfold Q5
 repeat' (walk_at "ts")
theorem U8:TrT P w K mg base "refuse_wrong_weights" ["weights","many"] (top 36) zy:=by
 intro f cdv A outer s H E xe;unfold zy
 repeat' (walk_at "ts")
theorem Dz:TrT P w K mg base "all_between" ["numbers","least","number"] (top 37) Zc:=by
 intro f cdv A outer s H E xe;unfold Zc
 repeat' (walk_at "ts")
theorem Dw:TrT P w K mg base "least_table" ["question","cost_of_ask"] (top 39) Zb:=by
 intro f cdv A outer s H E xe;unfold Zb
 repeat' (walk_at "ts")
theorem K7:TrT P w K mg base "least_plan" ["question","cost_of_ask","part"] (top 40) Zt:=by
 intro f cdv A outer s H E xe;unfold Zt
 repeat' (walk_at "ts")
theorem Ni (hl:Z5 K "least_numbers" = Fy (jr (top 41))):TrT P w K mg base "least_numbers" ["whole_part","question","cost_of_ask"] (top 41) Qh:=by
 intro f cdv A outer s H E xe;unfold Qh
 repeat' (walk_at "ts")
theorem Mv:TrT P w K mg base "numbers_within" ["whole_part","question","number_unsettled","numbers","part","settled"] (top 42) Jr:=by
 intro f cdv A outer s H E xe;unfold Jr
 repeat' (walk_at "ts")
theorem Nh:TrT P w K mg base "least_plan_at" ["part","question","cost_of_ask","numbers","settled","spot","if_no","if_yes"] (top 43) Jb:=by
 intro f cdv A outer s H E xe;unfold Jb
 repeat' (walk_at "ts")
theorem Fd:TrT P w K mg base "cheapest_ask" ["numbers","part","cost_of_ask","spot","told"] (top 44) Qq:=by
 intro f cdv A outer s H E xe;unfold Qq
 repeat' (walk_at "ts")
theorem Mw:TrT P w K mg base "numbers_behind" ["numbers","part","spot","answer"] (top 45) Js:=by
 intro f cdv A outer s H E xe;unfold Js
 repeat' (walk_at "ts")
theorem Du:TrT P w K mg base "whole_table" ["question","weights","prices"] (top 47) Z9:=by
 intro f cdv A outer s H E xe;unfold Z9
 repeat' (walk_at "ts")
theorem K3:TrT P w K mg base "whole_plan" ["question","weights","prices"] (top 48) Zn:=by
 intro f cdv A outer s H E xe;unfold Zn
 repeat' (walk_at "ts")
theorem K6:TrT P w K mg base "mean_price" ["question","weights","prices"] (top 49) Zr:=by
 intro f cdv A outer s H E xe;unfold Zr
 repeat' (walk_at "ts")
theorem Wq (hl:Z5 K "whole_cost_of_ask" = Fy (jr (top 50))):TrT P w K mg base "whole_cost_of_ask" ["question","weights","prices","many","price_at","weight_of"] (top 50) J5:=by
 intro f cdv A outer s H E xe;unfold J5
 repeat' (walk_at "ts")
theorem Mu:TrT P w K mg base "weights_by_part" ["many","weights","weight_of","part","row"] (top 51) Jm:=by
 intro f cdv A outer s H E xe;unfold Jm
 repeat' (walk_at "ts")
theorem j92:TrT P w K mg base "_law_cell" ["_law_script","_law_k","_law_spare"] (top 53) U6:=by
 intro f cdv A outer s H E xe;unfold U6
 repeat' (walk_at "ts")
theorem j67:TrT P w K mg base "_law_words" ["_law_cell_here","_law_many","_law_letters","_law_names","_law_rest","_law_k","_law_size","_law_name","_law_turn","_law_long","_law_start","_law_stem","_law_at"] (top 54) Ml:=by
 intro f cdv A outer s H E xe;unfold Ml
 repeat' (walk_at "ts")
theorem jcz:TrT P w K mg base "_law_bit" ["_law_row","_law_kind","_law_cell_here","_law_some","_law_k","_law_kept","_law_by_row","_law_one","_law_mixed"] (top 55) Rg:=by
 intro f cdv A outer s H E xe;unfold Rg
 repeat' (walk_at "ts")
theorem j0v:TrT P w K mg base "_law_question" ["_law_script","_law_at","_law_most","_law_many","_law_places","_law_kind","_law_cell_here","_law_answers","_law_number","_law_row","_law_k"] (top 56) Yd:=by
 intro f cdv A outer s H E xe;unfold Yd
 repeat' (walk_at "ts")
theorem j8z:TrT P w K mg base "_law_same" ["_law_found","_law_due","_law_unlike","_law_k"] (top 57) Vu:=by
 intro f cdv A outer s H E xe;unfold Vu
 repeat' (walk_at "ts")
theorem j4s:TrT P w K mg base "_law_threes" ["_law_many","_law_power","_law_k"] (top 58) Wc:=by
 intro f cdv A outer s H E xe;unfold Wc
 repeat' (walk_at "ts")
theorem j4u:TrT P w K mg base "_law_digits" ["_law_many","_law_index","_law_digits_here","_law_k"] (top 59) We:=by
 intro f cdv A outer s H E xe;unfold We
 repeat' (walk_at "ts")
theorem j69:TrT P w K mg base "_law_steps" ["_law_many","_law_index","_law_digits_here","_law_steps_here","_law_k","_law_power"] (top 60) Mp:=by
 intro f cdv A outer s H E xe;unfold Mp
 repeat' (walk_at "ts")
theorem j90:TrT P w K mg base "_law_ones" ["_law_question_here","_law_many","_law_found","_law_index","_law_steps_here","_law_number","_law_digit","_law_if_no","_law_if_yes"] (top 61) N6:=by
 intro f cdv A outer s H E xe;unfold N6
 repeat' (walk_at "ts")
theorem j2w:TrT P w K mg base "_law_is_open" ["_law_counts"] (top 62) Yy:=by
 intro f cdv A outer s H E xe;unfold Yy
 repeat' (walk_at "ts")
theorem j4t:TrT P w K mg base "_law_prices" ["_law_cell_here","_law_many","_law_draw","_law_left","_law_fees","_law_k"] (top 63) Wd:=by
 intro f cdv A outer s H E xe;unfold Wd
 repeat' (walk_at "ts")
theorem j6b:TrT P w K mg base "_law_costs" ["_law_fees","_law_many","_law_k"] (top 64) Mr:=by
 intro f cdv A outer s H E xe;unfold Mr
 repeat' (walk_at "ts")
theorem j2v:TrT P w K mg base "_law_weights" ["_law_cell_here","_law_many","_law_draw","_law_left","_law_weights_here","_law_k"] (top 65) Yx:=by
 intro f cdv A outer s H E xe;unfold Yx
 repeat' (walk_at "ts")
theorem j6a:TrT P w K mg base "_law_heavy" ["_law_question_here","_law_weights_here","_law_counts"] (top 66) Mq:=by
 intro f cdv A outer s H E xe;unfold Mq
 repeat' (walk_at "ts")
theorem j68:TrT P w K mg base "_law_whole" ["_law_question_here","_law_weights_here","_law_costs_here","_law_many","_law_heavy_here","_law_table","_law_index","_law_counts","_law_number","_law_some","_law_k","_law_one","_law_two","_law_paid"] (top 67) Mm:=by
 intro f cdv A outer s H E xe;unfold Mm
 repeat' (walk_at "ts")
theorem K9:TrT P w K mg base "_law_plan_costs" ["_law_question_here","_law_plan","_law_costs_here","_law_places","_law_many","_law_ones_here","_law_found","_law_waiting","_law_one","_law_index","_law_paid","_law_steps_here","_law_step"] (top 68) Zv:=by
 intro f cdv A outer s H E xe;unfold Zv
 repeat' (walk_at "ts")
theorem j91:TrT P w K mg base "_law_cost" ["_law_question_here","_law_weights_here","_law_found","_law_heavy_here","_law_index","_law_paid"] (top 69) N7:=by
 intro f cdv A outer s H E xe;unfold N7
 repeat' (walk_at "ts")
theorem j0w:TrT P w K mg base "_law_by_order" ["_law_question_here","_law_weights_here","_law_costs_here","_law_cell_here","_law_many","_law_ones_here","_law_left","_law_order","_law_draw","_law_rest","_law_by","_law_total","_law_number","_law_index","_law_paid","_law_spot","_law_bit_here"] (top 70) Ye:=by
 intro f cdv A outer s H E xe;unfold Ye
 repeat' (walk_at "ts")
theorem j2x:TrT P w K mg base "_law_divisor" ["_law_one","_law_other"] (top 71) Yz:=by
 intro f cdv A outer s H E xe;unfold Yz
 repeat' (walk_at "ts")
theorem jc1:TrT P w K mg base "law" ["_law_script","_law_question_here","_law_many","_law_fees","_law_weights_here","_law_costs_here","_law_due","_law_plan","_law_found","_law_cell_here","_law_by","_law_mean"] (top 72) j5t:=by
 intro f cdv A outer s H E xe;unfold j5t
 repeat' (walk_at "ts")
theorem Nk:TrL P w K mg base "least_numbers" ["cost_of_ask","numbers","part"] (lamT (top 41)) Qg:=by
 intro a c cl A outer s H;unfold Qg
 repeat' (walk_at "ts")
theorem Ws:TrL P w K mg base "whole_cost_of_ask" ["weight_of","price_at","numbers","part","spot"] (lamT (top 50)) J3:=by
 intro a c cl A outer s H;unfold J3
 repeat' (walk_at "ts")
end
set_option maxHeartbeats 0 in
theorem head {l:dA} {w:az} {K:k9d} {h:aC} {mg:k9g} {fa:ae} (X:K.In h) (Gn:h.Ns au mg) (hfa:mg "law" = a3 (.ref fa))
  (h0:Lf K "fraction" (top 7))
  (h1:Lf K "common_divisor" (top 8))
  (h2:Lf K "parts_of" (top 15))
  (h3:Lf K "row_number" (top 16))
  (h4:Lf K "rows_in" (top 17))
  (h5:Lf K "parts_in" (top 18))
  (h6:Lf K "told_further" (top 19))
  (h7:Lf K "refuse_wrong_size" (top 20))
  (h8:Lf K "all_choices" (top 21))
  (h9:Lf K "number_of" (top 22))
  (h10:Lf K "answer_to" (top 24))
  (h11:Lf K "settled_by" (top 25))
  (h12:Lf K "counted_in" (top 26))
  (h13:Lf K "all_open" (top 27))
  (h14:Lf K "count_of_rows" (top 28))
  (h15:Lf K "telling" (top 33))
  (h16:Lf K "asking" (top 34))
  (h17:Lf K "prices_told" (top 35))
  (h18:Lf K "refuse_wrong_weights" (top 36))
  (h19:Lf K "all_between" (top 37))
  (h20:Lf K "least_table" (top 39))
  (h21:Lf K "least_plan" (top 40))
  (h22:Lf K "least_numbers" (top 41))
  (h23:Lf K "numbers_within" (top 42))
  (h24:Lf K "least_plan_at" (top 43))
  (h25:Lf K "cheapest_ask" (top 44))
  (h26:Lf K "numbers_behind" (top 45))
  (h27:Lfd K "whole_table" (top 47))
  (h28:Lfd K "whole_plan" (top 48))
  (h29:Lfd K "mean_price" (top 49))
  (h30:Lf K "whole_cost_of_ask" (top 50))
  (h31:Lf K "weights_by_part" (top 51))
  (h32:Lf K "_law_cell" (top 53))
  (h33:Lf K "_law_words" (top 54))
  (h34:Lf K "_law_bit" (top 55))
  (h35:Lf K "_law_question" (top 56))
  (h36:Lf K "_law_same" (top 57))
  (h37:Lf K "_law_threes" (top 58))
  (h38:Lf K "_law_digits" (top 59))
  (h39:Lf K "_law_steps" (top 60))
  (h40:Lf K "_law_ones" (top 61))
  (h41:Lf K "_law_is_open" (top 62))
  (h42:Lf K "_law_prices" (top 63))
  (h43:Lf K "_law_costs" (top 64))
  (h44:Lf K "_law_weights" (top 65))
  (h45:Lf K "_law_heavy" (top 66))
  (h46:Lf K "_law_whole" (top 67))
  (h47:Lf K "_law_plan_costs" (top 68))
  (h48:Lf K "_law_cost" (top 69))
  (h49:Lf K "_law_by_order" (top 70))
  (h50:Lf K "_law_divisor" (top 71))
  (h51:Lf K "law" (top 72))
  (bz:bOk K=a6) {ts:List ae} (tz:tOk K ts=a6)
  {gt0:hV} {gt1:hV} {gt3:hV} {gt4:hV} {ga2:ae} {ga2n:Nat} {ga2s:Array (Option aa)} {gt5:hV} {gt7:hV} {gt8:hV} {gt9:hV} {ga6:ae} {ga6n:Nat} {ga6s:Array (Option aa)} {gt10:hV} {gt11:hV} {gt12:hV}
  (gn0:bK K au "FEWEST_PLACES" = a3 (a3 (.int 1 gt0))) (gn1:bK K au "MOST_PLACES" = a3 (a3 (.int 6 gt1))) (ga2l:K.lookup ga2=a3 ⟨.type "tuple",a9,.seq #[.int 0 gt3,.int 1 gt4] ga2n,ga2s⟩) (gn2:bK K au "ANSWERS" = a3 (a3 (.ref ga2))) (gn3:bK K au "NOT_TOLD" = a3 (a3 (.int 2 gt5))) (ga6l:K.lookup ga6=a3 ⟨.type "tuple",a9,.seq #[.int 0 gt7,.int 1 gt8,.int 2 gt9] ga6n,ga6s⟩) (gn4:bK K au "TELLINGS" = a3 (a3 (.ref ga6))) (gn5:bK K au "LEAST_PRICE" = a3 (a3 (.int 1 gt10))) (gn6:bK K au "LEAST_WEIGHT" = a3 (a3 (.int 0 gt11))) (gn7:bK K au "GREATEST_NUMBER" = a3 (a3 (.int 1000000 gt12)))
  (exa:j0i K=a6)
  {fu n:Nat} (hlaw:∀ns:List Int,ns.length<=63->evP fu G T (n+1) "law" [.lst (ns.map D.int)]=.val (.bl a6)) :
  ∃fd:aN,(∀(s:af)(v:aa),dy s fd ⟨[v],[]⟩ [("_law_script",v)])/\∀base:aC,K.In base->base.Ns au mg->FnOk l.prog w K mg base CX0 (lv (n+1)) fa fd ["_law_script"] (j0a K):=by
 have hL:=h51;obtain⟨f,oc,od,kV,dc,pm,an,cd,ct,sl,a,lk,c,k⟩:=hL;have e:=hfa.symm.trans (sr X Gn a);cases e;refine⟨PySem.W.fnOf "law" "law" (v9 (top 72)) (jr (top 72)) (jc (top 72)) .none kV dc pm an cd ct,λs v=>.of_eq rfl,λbase hKb hNb=>?_⟩;have hT:∀x F,T x=a3 F->LkF l.prog w K mg base x F:=λx F hx=>by
  have all:∀p∈tbl,LkF l.prog w K mg base p.1 p.2:=by
   intro p hp;simp only[tbl,xn,fF,or_false]at hp;rcases hp with rfl|rfl|rfl|rfl|rfl|rfl|rfl|rfl|rfl|rfl|rfl|rfl|rfl|rfl|rfl|rfl|rfl|rfl|rfl|rfl|rfl|rfl|rfl|rfl|rfl|rfl|rfl|rfl|rfl|rfl|rfl|rfl|rfl|rfl|rfl|rfl|rfl|rfl|rfl|rfl|rfl|rfl|rfl|rfl|rfl|rfl|rfl|rfl|rfl|rfl|rfl|rfl|rfl|rfl
   .refine lkF (jk h0 X Gn j0t ["top","bottom"] ?_ rfl rfl ?_ ?_) rfl ?_<;>walk_at "lk"
   .refine lkF (jk h1 X Gn Mx ["one","other"] ?_ rfl rfl ?_ ?_) rfl ?_<;>walk_at "lk"
   .refine lkF (jk h2 X Gn j0r ["many"] ?_ rfl rfl ?_ ?_) rfl ?_<;>walk_at "lk"
   .refine lkF (jk h3 X Gn K5 ["row"] ?_ rfl rfl ?_ ?_) rfl ?_<;>walk_at "lk"
   .refine lkF (jk h4 X Gn j2u ["part"] ?_ rfl rfl ?_ ?_) rfl ?_<;>walk_at "lk"
   .refine lkF (jk h5 X Gn j0s ["part"] ?_ rfl rfl ?_ ?_) rfl ?_<;>walk_at "lk"
   .refine lkF (jk h6 X Gn Fb ["part","spot","answer"] ?_ rfl rfl ?_ ?_) rfl ?_<;>walk_at "lk"
   .refine lkF (jk h7 X Gn Wr ["many"] ?_ rfl rfl ?_ ?_) rfl ?_<;>walk_at "lk"
   .refine lkF (jk h8 X Gn Dy ["figures_by_spot"] ?_ rfl rfl ?_ ?_) rfl ?_<;>walk_at "lk"
   .refine lkF (jk h9 X Gn j01 ["figures","base"] ?_ rfl rfl ?_ ?_) rfl ?_<;>walk_at "lk"
   .refine lkF (jk h10 X Gn j02 ["question","row"] ?_ rfl rfl ?_ ?_) rfl ?_<;>walk_at "lk"
   .refine lkF (jk h11 X Gn K4 ["question","part"] ?_ rfl rfl ?_ ?_) rfl ?_<;>walk_at "lk"
   .refine lkF (jk h12 X Gn K8 ["question","part"] ?_ rfl rfl ?_ ?_) rfl ?_<;>walk_at "lk"
   .refine lkF (jk h13 X Gn j0u ["question"] ?_ rfl rfl ?_ ?_) rfl ?_<;>walk_at "lk"
   .refine lkF (jk h14 X Gn Nj ["many"] ?_ rfl rfl ?_ ?_) rfl ?_<;>walk_at "lk"
   .refine lkF (jk h15 X Gn j2t ["answer"] ?_ rfl rfl ?_ ?_) rfl ?_<;>walk_at "lk"
   .refine lkF (jk h16 X Gn j4r ["place","if_no","if_yes"] ?_ rfl rfl ?_ ?_) rfl ?_<;>walk_at "lk"
   .refine lkF (jk h17 X Gn Dv ["many","prices"] ?_ rfl rfl ?_ ?_) rfl ?_<;>walk_at "lk"
   .refine lkF (jk h18 X Gn U8 ["weights","many"] ?_ rfl rfl ?_ ?_) rfl ?_<;>walk_at "lk"
   .refine lkF (jk h19 X Gn Dz ["numbers","least"] ?_ rfl rfl ?_ ?_) rfl ?_<;>walk_at "lk"
   .refine lkF (jk h20 X Gn Dw ["question","cost_of_ask"] ?_ rfl rfl ?_ ?_) rfl ?_<;>walk_at "lk"
   .refine lkF (jk h21 X Gn K7 ["question","cost_of_ask"] ?_ rfl rfl ?_ ?_) rfl ?_<;>walk_at "lk"
   .refine lkF (jk h22 X Gn (Ni (Rv h22)) ["whole_part","question","cost_of_ask"] ?_ rfl rfl ?_ ?_) rfl ?_<;>walk_at "lk"
   .refine lkF (jk h23 X Gn Mv ["whole_part","question","number_unsettled"] ?_ rfl rfl ?_ ?_) rfl ?_<;>walk_at "lk"
   .refine lkF (jk h24 X Gn Nh ["part","question","cost_of_ask","numbers"] ?_ rfl rfl ?_ ?_) rfl ?_<;>walk_at "lk"
   .refine lkF (jk h25 X Gn Fd ["numbers","part","cost_of_ask"] ?_ rfl rfl ?_ ?_) rfl ?_<;>walk_at "lk"
   .refine lkF (jk h26 X Gn Mw ["numbers","part","spot"] ?_ rfl rfl ?_ ?_) rfl ?_<;>walk_at "lk"
   .exact lkF (j1s h27 X Gn Du ["question","weights","prices"] (by walk_at "sc") rfl rfl (by decide) (by walk_at "bnk")) rfl (by decide)
   .exact lkF (j1s h28 X Gn K3 ["question","weights","prices"] (by walk_at "sc") rfl rfl (by decide) (by walk_at "bnk")) rfl (by decide)
   .exact lkF (j1s h29 X Gn K6 ["question","weights","prices"] (by walk_at "sc") rfl rfl (by decide) (by walk_at "bnk")) rfl (by decide)
   .refine lkF (jk h30 X Gn (Wq (Rv h30)) ["question","weights","prices"] ?_ rfl rfl ?_ ?_) rfl ?_<;>walk_at "lk"
   .refine lkF (jk h31 X Gn Mu ["many","weights"] ?_ rfl rfl ?_ ?_) rfl ?_<;>walk_at "lk"
   .refine lkF (jk h32 X Gn j92 ["_law_script","_law_k"] ?_ rfl rfl ?_ ?_) rfl ?_<;>walk_at "lk"
   .refine lkF (jk h33 X Gn j67 ["_law_cell_here","_law_many"] ?_ rfl rfl ?_ ?_) rfl ?_<;>walk_at "lk"
   .refine lkF (jk h34 X Gn jcz ["_law_row","_law_kind","_law_cell_here"] ?_ rfl rfl ?_ ?_) rfl ?_<;>walk_at "lk"
   .refine lkF (jk h35 X Gn j0v ["_law_script","_law_at","_law_most"] ?_ rfl rfl ?_ ?_) rfl ?_<;>walk_at "lk"
   .refine lkF (jk h36 X Gn j8z ["_law_found","_law_due"] ?_ rfl rfl ?_ ?_) rfl ?_<;>walk_at "lk"
   .refine lkF (jk h37 X Gn j4s ["_law_many"] ?_ rfl rfl ?_ ?_) rfl ?_<;>walk_at "lk"
   .refine lkF (jk h38 X Gn j4u ["_law_many","_law_index"] ?_ rfl rfl ?_ ?_) rfl ?_<;>walk_at "lk"
   .refine lkF (jk h39 X Gn j69 ["_law_many","_law_index"] ?_ rfl rfl ?_ ?_) rfl ?_<;>walk_at "lk"
   .refine lkF (jk h40 X Gn j90 ["_law_question_here"] ?_ rfl rfl ?_ ?_) rfl ?_<;>walk_at "lk"
   .refine lkF (jk h41 X Gn j2w ["_law_counts"] ?_ rfl rfl ?_ ?_) rfl ?_<;>walk_at "lk"
   .refine lkF (jk h42 X Gn j4t ["_law_cell_here","_law_many"] ?_ rfl rfl ?_ ?_) rfl ?_<;>walk_at "lk"
   .refine lkF (jk h43 X Gn j6b ["_law_fees","_law_many"] ?_ rfl rfl ?_ ?_) rfl ?_<;>walk_at "lk"
   .refine lkF (jk h44 X Gn j2v ["_law_cell_here","_law_many"] ?_ rfl rfl ?_ ?_) rfl ?_<;>walk_at "lk"
   .refine lkF (jk h45 X Gn j6a ["_law_question_here","_law_weights_here"] ?_ rfl rfl ?_ ?_) rfl ?_<;>walk_at "lk"
   .refine lkF (jk h46 X Gn j68 ["_law_question_here","_law_weights_here","_law_costs_here"] ?_ rfl rfl ?_ ?_) rfl ?_<;>walk_at "lk"
   .refine lkF (jk h47 X Gn K9 ["_law_question_here","_law_plan","_law_costs_here"] ?_ rfl rfl ?_ ?_) rfl ?_<;>walk_at "lk"
   .refine lkF (jk h48 X Gn j91 ["_law_question_here","_law_weights_here","_law_found"] ?_ rfl rfl ?_ ?_) rfl ?_<;>walk_at "lk"
   .refine lkF (jk h49 X Gn j0w ["_law_question_here","_law_weights_here","_law_costs_here","_law_cell_here"] ?_ rfl rfl ?_ ?_) rfl ?_<;>walk_at "lk"
   .refine lkF (jk h50 X Gn j2x ["_law_one","_law_other"] ?_ rfl rfl ?_ ?_) rfl ?_<;>walk_at "lk"
   .refine lkF (jk h51 X Gn jc1 ["_law_script"] ?_ rfl rfl ?_ ?_) rfl ?_<;>walk_at "lk"
   .exact j7a (by decide +kernel) (Rv h22) rfl Nk ["numbers","part"] (by walk_at "scl") rfl rfl rfl rfl (by walk_at "bndl")
   .exact j7a (by decide +kernel) (Rv h30) rfl Ws ["numbers","part","spot"] (by walk_at "scl") rfl rfl rfl rfl (by walk_at "bndl")
  exact all (x,F) (lookup_mem hx)
 have bt:=jma X Gn bz;have gl:∀x d,gs.lookup x=a3 d->∃u v,mg x=a3 u/\RelV v u/\∀H,Enc K H d v:=by
  intro x d hx;have hm:=lookup_mem hx;simp only[gs,xn,fF,or_false,Prod.mk.injEq]at hm;rcases hm with ⟨e1,e2⟩|⟨e1,e2⟩|⟨e1,e2⟩|⟨e1,e2⟩|⟨e1,e2⟩|⟨e1,e2⟩|⟨e1,e2⟩|⟨e1,e2⟩
  .subst e1 e2;exact⟨.int 1 gt0,.int 1,sr X Gn gn0,⟨_,rfl⟩,λ_=>rfl⟩
  .subst e1 e2;exact⟨.int 6 gt1,.int 6,sr X Gn gn1,⟨_,rfl⟩,λ_=>rfl⟩
  .subst e1 e2;exact⟨.ref ga2,.ref ga2,sr X Gn gn2,rfl,λH=>⟨ga2,[.int 0,.int 1],rfl,.inr ⟨_,_,_,ga2l,rfl,rfl,rfl,(by show 2<=ak;decide),(.cons ⟨_,rfl⟩ (.cons ⟨_,rfl⟩ .nil))⟩,⟨_,_,rfl,rfl,⟨_,_,rfl,rfl,rfl⟩⟩⟩⟩
  .subst e1 e2;exact⟨.int 2 gt5,.int 2,sr X Gn gn3,⟨_,rfl⟩,λ_=>rfl⟩
  .subst e1 e2;exact⟨.ref ga6,.ref ga6,sr X Gn gn4,rfl,λH=>⟨ga6,[.int 0,.int 1,.int 2],rfl,.inr ⟨_,_,_,ga6l,rfl,rfl,rfl,(by show 3<=ak;decide),(.cons ⟨_,rfl⟩ (.cons ⟨_,rfl⟩ (.cons ⟨_,rfl⟩ .nil)))⟩,⟨_,_,rfl,rfl,⟨_,_,rfl,rfl,⟨_,_,rfl,rfl,rfl⟩⟩⟩⟩⟩
  .subst e1 e2;exact⟨.int 1 gt10,.int 1,sr X Gn gn5,⟨_,rfl⟩,λ_=>rfl⟩
  .subst e1 e2;exact⟨.int 0 gt11,.int 0,sr X Gn gn6,⟨_,rfl⟩,λ_=>rfl⟩
  .subst e1 e2;exact⟨.int 1000000 gt12,.int 1000000,sr X Gn gn7,⟨_,rfl⟩,λ_=>rfl⟩
 have qn:∀f∈qs,∃fa,mg f=a3 (.ref fa)/\PySem.W.keepIn K (.ref fa)=a6:=by exact λf hf=>nomatch hf
 have tb:Tb l.prog w K mg base G:=jkv bt gl exa (λp hp=>nomatch hp) (λz=>by cases z) hKb hNb qn (λp hp=>nomatch hp) (jlm tz X Gn);exact ji9 hT tb (F:=j5g) (by rfl) rfl hfa (Lg lk c k) _ (by walk_at "sc") rfl rfl (jc1 _) hlaw
end K31
end
open PySem (Str sizeLine argBest)
open L2
namespace K31
open KL KW KV
theorem j0f:T "_law_cell" = a3 KL.fL_cell:=by rfl
theorem jci:T "_law_same" = a3 KL.fL_same:=by rfl
theorem Ry:T "all_choices" = a3 KL.fP_all_choices:=by rfl
theorem j43:T "rows_in" = a3 KL.fP_rows_in:=by rfl
theorem jiu:T "_law_bit" = a3 KW.fL_bit:=by rfl
theorem gN:G "NOT_TOLD" = a3 (.int 2):=by rfl
theorem gA:G "ANSWERS" = a3 (.tup [.int 0,.int 1]):=by rfl
theorem gT:G "TELLINGS" = a3 (.tup [.int 0,.int 1,.int 2]):=by rfl
theorem Qy{b:Int}:∀{m i:Nat}{z:Int},i<m->(j5 b m z)[i]?=a3 (z/b^(m-1-i)%b)
 |m+1,0,z,_=>by rw[j5,cu];simp
 |m+1,i+1,z,h=>by rw[j5,tu,Qy nofun];congr 3;congr 1;omega
theorem j31 {fu n m:Nat} {z b:Int} (hm:m<=6) (hb:b=2\/b=3) (hz:0<=z/\z<b^m):evP fu G T (n+1) "number_of" [.tup ((j5 b m z).map .int),.int b]=.val (.int z):=by
 rw[jd (F:=Ul) (by rfl) rfl];simp only[Ul,Ve,enter];ext;have z0:z/b^m=0:=S9 hz.1 hz.2;refine Zw (λi ρ=>∃s3,ρ=[.val (.tup ((j5 b m z).map .int)),.val (.int b),.val (.int (z/b^(m-i))),s3]) ⟨.un,by rw[ij,z0]⟩ ?_ ?_
 .rintro i d ρ hi ⟨s3,rfl⟩;obtain⟨v,hv,rfl⟩:=Rz hi;have hlt:i<m:=by have:=(X8.mp hv).1;rw[jw]at this;exact this
  rw[Qy hlt]at hv;cases hv;simp only[zu];ext;refine⟨_,rfl,?_⟩;have e1:m-i=(m-1-i)+1:=by omega
  have e2:m-(i+1)=m-1-i:=by omega
  have e3:z/b^(m-i)*b+z/b^(m-1-i)%b=z/b^(m-(i+1)):=by rw[e1,e2,<-Dj z b nofun,d6];exact iG _ _
  rw[e3];exact⟨_,rfl⟩
 .rintro ρ' ⟨s3,rfl⟩;ext;simp[jw]
theorem O4 {n m:Nat} {z:Int} (h:1<=m/\m<=6) (hz:0<=z/\z<2^m):evP 1000 G T (n+2) "row_number" [q9 (j5 2 m z)]=.val (.int z):=by
 rw[jd (F:=Yn) (by rfl) rfl];simp only[Yn,Zq,enter];ext;simp only[gA];ext;have e:evP 1000 G T (n+1) "number_of" [q9 (j5 2 m z),.int 2]=.val (.int z):=j31 h.2 (.inl rfl) hz;have e2:(((0+1+1:Nat):Int))=2:=rfl
 first|rw[e]|(rw[e2,e])
 ext
noncomputable def qD(ws:List ah)(a:List Int):D:=.tup [.tup (ws.map D.str),.tup (a.map D.int)]
theorem Uk{p:List Int}{k:Nat}(h:k<p.length):atI (p.map D.int) (k:Int)=a3 (.int (p.getD k 0)):=by
 have:=j44 h
 rwa [Tn]at this
theorem j3d {n m k:Nat} {ws:List ah} {a:List Int} (hm:1<=m/\m<=6) (ha:a.length=2^m) (hk:k<2^m):evP 1000 G T (n+3) "answer_to" [qD ws a,q9 (j5 2 m (k:Int))]=.val (.int (a.getD k 0)):=by
 rw[jd (F:=Um) (by rfl) rfl];simp only[Um,Vf,enter,qD];have pc:((2^m:Nat):Int)=(2:Int)^m:=by simp
 have i1:atI [D.tup (ws.map D.str),.tup (a.map D.int)] 1=a3 (.tup (a.map D.int)):=rfl;ext;erw[i1,O4 (n:=n) hm nofun,Uk nofun]
theorem jjj{l:List D}{k:Nat}(h:k<=l.length):cutD l a9 (a3 (k:Int))=l.take k:=by unfold cutD;rw[HT.sIx_none,HT.sIx_nat,bU,ij,kn h]
theorem jji{l:List D}{k:Nat}(h:k<=l.length):cutD l (a3 (k:Int)) a9=l.drop k:=by unfold cutD;rw[HT.sIx_none,HT.sIx_nat,kn h,T6 (by rw[Tp];omega)]
noncomputable def inL(p:List Int)(m:Nat):List Nat:=(aq (2^m)).filter λ(k:Nat)=>fits p (j5 2 m (k:Int))
noncomputable def cnt(a p:List Int)(m:Nat)(v:Int):Nat:=(inL p m).countP λ(k:Nat)=>a.getD k 0==v
theorem Uj{p:List Int}{m:Nat}(hp:p.length=m)(hp3:∀t∈p,0<=t/\t<3):qw (p.map Ze)=(inL p m).map λ(k:Nat)=>j5 2 m (k:Int):=by rw[Z7,<-Oh hp3,hp,<-j1a,k8];rfl
theorem j42{p:List Int}{m:Nat}(hp:p.length=m)(hp3:∀t∈p,0<=t/\t<3):1<=(inL p m).length/\(inL p m).length<=2^m:=by
 have h1:=congrArg cP (Uj hp hp3);rw[Z7,Ud,km]at h1;constructor
 .rw[<-h1];exact jD
 .unfold inL;exact Xl (t7 _ _) (by rw[Xh];exact xu _)
theorem j4f{a:List Int}(h01:∀x∈a,x=0\/x=1):∀L:List Nat,(L.countP λ(k:Nat)=>a.getD k 0==0)+(L.countP λ(k:Nat)=>a.getD k 0==1)=L.length
 |[]=>rfl
 |k::L=>by
  have ih:=j4f h01 L;rw[Pu,Pu,X7]
  try dsimp only
  rcases j0j h01 k with e|e
  .rw[e,if_pos (by decide),if_neg (by decide)];omega
  .rw[e,if_neg (by decide),if_pos (by decide)];omega
theorem j2a {n m:Nat} {ws:List ah} {a p:List Int} (hm:1<=m/\m<=6) (ha:a.length=2^m) (hp:p.length=m) (hp3:∀t∈p,0<=t/\t<3):evP 1000 G T (n+4) "counted_in" [qD ws a,q9 p]=.val (.tup [.int (cnt a p m 0),.int (cnt a p m 1)]):=by
 rw[jd (F:=Yq) (by rfl) rfl];simp only[Yq,Zu,enter];have ri:evP 1000 G T (n+3) "rows_in" [q9 p]=.fresh (ql (qw (p.map Ze))):=Nm (n:=n+1) j43 Ry gN gA nofun
 have as1:∀k:Nat,k<2^m->evP 1000 G T (n+3) "answer_to" [qD ws a,q9 (j5 2 m (k:Int))]=.val (.int (a.getD k 0)):=λk hk=>j3d hm ha hk;have l:=j42 hp hp3;have p2:=Kg hm.2;have pc:((2^m:Nat):Int)=(2:Int)^m:=by simp
 have cn:∀v:Int,(((inL p m).map λ(k:Nat)=>D.int (a.getD k 0)).countP λe=>deq e (.int v))=cnt a p m v:=λv=>by rw[k9];rfl
 have dp:D.depL ((inL p m).map λ(k:Nat)=>D.int (a.getD k 0))<=90:=by
  have:=D.depL_of (ds:=(inL p m).map λ(k:Nat)=>D.int (a.getD k 0)) (n:=0) λd hd=>by obtain⟨x,_,rfl⟩:=Xm.mp hd;simp[D.dep]
  omega
 ext;rw[ri,Uj hp hp3];ext;rw[qj (l:=(inL p m).map λ(k:Nat)=>D.int (a.getD k 0)) (by rfl) (by simp only[ql,km];omega) ?_ (.inl rfl)];rotate_left
 .rw[ql,Xj];refine qi λk hk'=>zj (by ext) ?_;have hk:=Xb.mp (Xk.mp hk').1;ext;rw[df,as1 k hk];ext
 ext;rw[j4e dp (by simp[D.dep]),j4e dp (by simp[D.dep]),cn,cn];ext
theorem j14 {n m:Nat} {ws:List ah} {a p:List Int} (hm:1<=m/\m<=6) (ha:a.length=2^m) (hp:p.length=m) (hp3:∀t∈p,0<=t/\t<3):evP 1000 G T (n+5) "settled_by" [qD ws a,q9 p]=.val (if cnt a p m 1=0 then .int 0 else if cnt a p m 0=0 then .int 1 else .non):=by
 rw[jd (F:=Ym) (by rfl) rfl];simp only[Ym,Zo,enter];have i0:∀x y:D,atI [x,y] 0=a3 x:=λ_ _=>rfl;have i1:∀x y:D,atI [x,y] 1=a3 y:=λ_ _=>rfl;have c:=j2a (n:=n) (ws:=ws) hm ha hp hp3;ext;rw[c];ext;rw[i1];by_cases h1:cnt a p m 1=0
 .ext;rw[if_pos h1]
 .rw[if_neg h1];ext;rw[i0];by_cases h0:cnt a p m 0=0
  .ext;rw[if_pos h0]
  .ext;rw[if_neg h0]
noncomputable def Fj(c0 c1:Nat):D:=if c1=0 then .int 0 else if c0=0 then .int 1 else .non
theorem O2 {n m:Nat} {ws:List ah} {a p:List Int} (hm:1<=m/\m<=6) (ha:a.length=2^m) (hp:p.length=m) (hp3:∀t∈p,0<=t/\t<3):evP 1000 G T (n+5) "settled_by" [.tup [.tup (ws.map D.str),.tup (a.map D.int)],q9 p]=.val (Fj (cnt a p m 0) (cnt a p m 1)):=j14 hm ha hp hp3
theorem O7{m:Nat}(h:m<=6):1<=3^m/\3^m<=729:=by
 have:m=0\/m=1\/m=2\/m=3\/m=4\/m=5\/m=6:=by omega
 rcases this with e|e|e|e|e|e|e<;>subst e<;>decide
theorem j7s(p:List Int):Jl (p.map D.int)=(aq p.length).map λ(s:Nat)=>D.tup [.int (s:Int),.int (p.getD s 0)]:=by
 refine Tv λi=>?_;rw[El,xx,xx];by_cases h:i<p.length
 .rw[t6 h,kh h];simp[h]
 .rw[Xu nofun,Xu (by simp;omega)];rfl
noncomputable def stD(a p:List Int)(m:Nat):D:=Fj (cnt a p m 0) (cnt a p m 1)
theorem j9u(c:Int):∃most:Nat,(most=4\/most=5)/\atI [D.int 4,.int 4,.int 4,.int 4,.int 4,.int 4,.int 4,.int 5] (c%8)=a3 (.int (most:Int)):=by
 have h1:=Th c (show(8:Int)≠0 by decide);have h2:=Sd c (show(0:Int)<8 by decide);have:c%8=0\/c%8=1\/c%8=2\/c%8=3\/c%8=4\/c%8=5\/c%8=6\/c%8=7:=by omega
 rcases this with e|e|e|e|e|e|e|e<;>rw[e]
 .exact⟨4,.inl rfl,rfl⟩
 .exact⟨4,.inl rfl,rfl⟩
 .exact⟨4,.inl rfl,rfl⟩
 .exact⟨4,.inl rfl,rfl⟩
 .exact⟨4,.inl rfl,rfl⟩
 .exact⟨4,.inl rfl,rfl⟩
 .exact⟨4,.inl rfl,rfl⟩
 .exact⟨5,.inr rfl,rfl⟩
theorem Ux {n s:Nat} {p:List Int} {v:Int} (hl:p.length<=6) (hs:s<p.length) (h2:p.getD s 0=2):evP 1000 G T (n+1) "told_further" [q9 p,.int s,.int v]=.val (q9 (p.set s v)):=by
 rw[jd (F:=Va) (by rfl) rfl];simp only[Va,Qp,enter];have gi:=Uk hs;rw[h2]at gi;have lp:(p.map D.int).length=p.length:=km ..;have w1:¬(HT.sIx (p.map D.int).length 0 a9=0/\HT.sIx (p.map D.int).length (p.map D.int).length (a3 (s:Int))=(p.map D.int).length):=by rw[HT.sIx_nat,lp];omega
 have e1:(s:Int)+1=((s+1:Nat):Int):=by omega
 have w2:¬(HT.sIx (p.map D.int).length 0 (a3 ((s+1:Nat):Int))=0/\HT.sIx (p.map D.int).length (p.map D.int).length a9=(p.map D.int).length):=by rw[HT.sIx_nat,lp];omega
 ext;rw[gi];ext;simp only[gN];ext;rw[j6g w1,e1,j6g w2,jjj nofun,jji nofun];ext;rw[q9,fi,if_pos hs];simp
theorem M3:∀{p r:List Int}{s:Nat}{x:Int},p.length=r.length->s<p.length->p.getD s 0=2->x≠2->fits (p.set s x) r=(fits p r&&decide (x=r.getD s 0))
 |[],_,s,x,_,hs,_,_=>by simp at hs
 |_::_,[],_,_,h,_,_,_=>by simp at h
 |t::ts,y::ys,0,x,h,_,h2,hx=>by
  have:t=2:=by simpa using h2
  subst this;simp only[Pq,fits,cV];by_cases e:x=y
  .subst e;simp[hx]
  .simp[hx,e]
 |t::ts,y::ys,s+1,x,h,hs,h2,hx=>by have ih:=M3 (p:=ts) (r:=ys) (s:=s) (x:=x) (by simpa using h) (by simpa using hs) (by simpa using h2) hx;simp only[Pb,fits,eT,ih,Bool.and_assoc]
theorem vm{p:List Int}{m s:Nat}{v:Int}(hp:p.length=m)(hp3:∀t∈p,0<=t/\t<3)(hv:v=0\/v=1):(p.set s v).length=m/\∀t∈p.set s v,0<=t/\t<3:=by
 refine⟨by rw[T8];exact hp,λt ht=>?_⟩;rcases gD ht with h|h
 .exact hp3 t h
 .rw[h];omega
theorem j4g{a p:List Int}{m:Nat}(h01:∀x∈a,x=0\/x=1)(hp:p.length=m)(hp3:∀t∈p,0<=t/\t<3):cnt a p m 0+cnt a p m 1=2^(p.countP λt=>t==2):=by have h:=j4f h01 (inL p m);have h1:=congrArg cP (Uj hp hp3);rw[Z7,Ud,km]at h1;unfold cnt;omega
theorem Eb:∀{p:List Int},(p.countP λt=>t==2)=0->Jc (p.map Ze)=[p]
 |[],_=>rfl
 |t::ts,h=>by
  rw[Pu]at h;have h1:(ts.countP λt=>t==2)=0:=by omega
  have h2:t≠2:=λz=>by subst z;simp at h
  rw[xm,Jc,Eb h1];simp[Ze,h2]
theorem j93{p:List Int}{m:Nat}(hp:p.length=m)(hp3:∀t∈p,0<=t/\t<3)(h0:(p.countP λt=>t==2)=0):∃k:Nat,k<2^m/\p=j5 2 m (k:Int)/\inL p m=[k]:=by
 have h:=Uj hp hp3;rw[Z7,Eb h0]at h;cases e:inL p m with
 |nil=>rw[e]at h;cases h
 |cons k r =>
  rw[e]at h;cases r with
  |cons j r=>simp at h
  |nil =>
   simp only[xm,bY,List.cons.injEq,and_true]at h;have hk:k∈inL p m:=by rw[e];exact xq ..
   exact⟨k,Xb.mp (Xk.mp hk).1,h,rfl⟩
theorem Q8{p:List Int}{s:Nat}{v:Int}(hs:s<p.length)(h2:p.getD s 0=2)(hv:v=0\/v=1):((p.set s v).countP λt=>t==2)+1=p.countP λt=>t==2:=by
 have g:p[s]=2:=by rw[kj,kh hs]at h2;exact h2
 have e:p=p.take s++2::p.drop (s+1):=by have:=eB s p;rw[Py hs,g]at this;exact this.symm
 rw[fi,if_pos hs]
 conv=>rhs;rw[e]
 rw[iY,iY,Pu,Pu];have hv2:(v==2)=a4:=by rcases hv with h|h<;>subst h<;>rfl
 simp[hv2]
 try omega
noncomputable def qg(p:List Int)(m:Nat):List Nat:=(aq m).filter λ(k:Nat)=>decide (p.getD k 0=2)
theorem Ro:∀(p:List Int),(qg p p.length).length=p.countP λt=>t==2:=by
 intro p;unfold qg;rw[<-List.countP_eq_length_filter];have:∀(p:List Int),(aq p.length).countP (λ(k:Nat)=>decide (p.getD k 0=2))=p.countP λt=>t==2:=by
  intro p;induction p with
  |nil=>rfl
  |cons t ts ih =>
   rw[X7,cH,Pu,k9,Pu,<-ih];congr 1
   try simp only[cV]
   try (by_cases h:t=2<;>simp[h])
 exact this p
noncomputable def Jd(t:Int):List Int:=if t=2 then[0,1,2] else[t]
theorem j1h {n:Nat} {p:List Int} (hp:p.length<=6):evP 1000 G T (n+2) "parts_in" [q9 p]=.fresh (ql (qw (p.map Jd))):=by
 rw[jd (F:=Wi) (by rfl) rfl];simp only[Wi,Y9,enter];ext;rw[qj (l:=ql (p.map Jd)) (by rfl) ?_ ?_ (.inl rfl)]
 .ext;rw[Ur Ry (λf hf=>by obtain⟨t,_,rfl⟩:=Xm.mp hf;unfold Jd;split<;>simp) (by rw[km];exact hp)];ext
 .rw[km];omega
 .rw[ql,Xj];refine qi λt _=>zj (by ext) ?_;by_cases h:t=2
  .ext;simp only[gN];ext;simp only[gT];ext;simp[Jd,h]
  .ext;simp only[gN];ext;simp[Jd,h]
theorem gF:G "FEWEST_PLACES" = a3 (.int 1):=by rfl
theorem gM:G "MOST_PLACES" = a3 (.int 6):=by rfl
theorem j6n {fu n:Nat} {m:Int} (h:1<=m/\m<=6):evP fu G T (n+1) "refuse_wrong_size" [.int m]=.val .non:=by rw[jd (F:=Qf) (by rfl) rfl];simp only[Qf,J6,enter];ext;simp only[gF];ext;simp only[gM];ext
theorem j3a{n s:Nat}{p:List Int}{ks:List (List Int)}{ns:List Int}{x y:Int}(hl:p.length<=6)(hs:s<p.length)(h2:p.getD s 0=2)(hx:zg ks (ns.map D.int) (p.set s 0)=a3 (.int x))(hy:zg ks (ns.map D.int) (p.set s 1)=a3 (.int y)) :
  evP 1000 G T (n+2) "numbers_behind" [.dct ks (ns.map D.int),q9 p,.int s]=.fresh ([x,y].map D.int):=by
 have t0:=Ux (n:=n) (v:=0) hl hs h2;have t1:=Ux (n:=n) (v:=1) hl hs h2;simp only[q9]at t0 t1 ⊢;rw[jd (F:=Zg) (by rfl) rfl];simp only[Zg,Js,enter];ext;simp only[gA];ext;rw[qj (l:=[x,y].map D.int) (by rfl) (by decide) ?_ (.inr (J7 _))]
 .ext
 .rw[J4,zj (d':=.int x) (by ext) (by ext;rw[t0];ext;rw[Ih hx])];rw[J4,zj (d':=.int y) (by ext) (by ext;rw[t1];ext;rw[Ih hy])];rfl
theorem j3c(l:List (List Int))(h:∀k∈l,k.length=2):∀k,k<l.length->aZ (Jq l) k<=k/\∀j,j<=k->(l.getD (aZ (Jq l) k) []).getD 0 0<=(l.getD j []).getD 0 0:=by
 have two:∀i,i<l.length->∃a b,l.getD i []=[a,b]:=λi hi=>by
  have e:l.getD i []=l[i]:=by rw[kj,kh hi];rfl
  have hm:=h _ (pq hi);rw[e]
  match l[i],hm with|[a,b],_=>exact⟨a,b,rfl⟩
 intro k;induction k with
 |zero=>exact λ_=>⟨xu _,λj hj=>by rw[Nat.le_zero.mp hj];exact t8 _⟩
 |succ k ih =>
  intro hk;obtain⟨h1,h2⟩:=ih nofun
  obtain⟨a,b,e1⟩:=two (k+1) hk;obtain⟨c,d,e2⟩:=two (aZ (Jq l) k) nofun
  rw[aZ];cases z:Jq l (k+1) (aZ (Jq l) k) with
  |true =>
   rw[if_pos rfl];refine⟨xu _,λj hj=>?_⟩;have z:HT.lexLt (l.getD (k+1) []) (l.getD (aZ (Jq l) k) [])=a6:=z;rw[e1,e2]at z;have z:a<=c:=by
    rw[HT.lexLt]at z;by_cases q:a=c
    .omega
    .rw[if_neg q]at z;have:=of_decide_eq_true z;omega
   rcases il j (k+1)with q|q
   .have:=h2 j nofun
    rw[e2]at this;rw[e1];exact Int.le_trans z this
   .rw[show j=k+1 by omega];exact t8 _
  |false =>
   rw[if_neg xg];refine⟨by omega,λj hj=>?_⟩;have z:HT.lexLt (l.getD (k+1) []) (l.getD (aZ (Jq l) k) [])=a4:=z;rw[e1,e2]at z;have z:c<=a:=by
    rw[HT.lexLt]at z;by_cases q:a=c
    .omega
    .rw[if_neg q]at z;have:=of_decide_eq_false z;omega
   rcases il j (k+1)with q|q
   .exact h2 j nofun
   .rw[show j=k+1 by omega,e1,e2];exact z
def Vw(pr:List Int):Prop:=∀s,s<pr.length->0<=pr.getD s 0/\pr.getD s 0<=1000000
theorem j7z{n s:Nat}{p pr:List Int}{ks wk:List (List Int)}{ns wv:List Int}{w x y:Int}(hw:Vw pr/\zg wk (wv.map D.int) p=a3 (.int w))(hl:p.length<=6)(hs:s<p.length)(hr:s<pr.length)(h2:p.getD s 0=2)(hx:zg ks (ns.map D.int) (p.set s 0)=a3 (.int x))(hy:zg ks (ns.map D.int) (p.set s 1)=a3 (.int y)) :
  evP 1000 G T (n+3) (jx "whole_cost_of_ask") [.dct wk (wv.map D.int),.lst (pr.map D.int),.dct ks (ns.map D.int),q9 p,.int s]=.lval (.int (pr.getD s 0*w+(x+y))):=by
 have b:=j3a (n:=n) hl hs h2 hx hy;have g:=Uk hr;have hb:=hw.1 s hr;rw[j47 (F:=Qd) (by rfl) rfl];simp only[Qd,J3,enter];simp only[q9]at b ⊢;ext;rw[g,Ih hw.2,b];ext;rw[show([D.int x,D.int y]:List D)=[x,y].map D.int from rfl,jc3];ext;rw[show[x,y].sum=x+y by simp]
theorem Rq:∀l:List Int,Jg (l.map D.int)=a6
 |[]=>rfl
 |_::l=>by rw[xm,Jg,Rq l];rfl
theorem Fv(ks:List (List Int))(ns:List Int):noFn (.dct ks (ns.map D.int))=a6:=by rw[noFn,Rq]
theorem j1m(l:List Int):noFn (.tup (l.map D.int))=a6:=by rw[noFn,Rq]
theorem at0(a b:D):atI [a,b] 0=a3 a:=rfl
theorem at1(a b:D):atI [a,b] 1=a3 b:=rfl
theorem Mt{n:Nat}{p pr:List Int}{ks:List (List Int)}{ns:List Int}{wk:List (List Int)}{wv:List Int}{w:Int}{V0 V1:Nat->Int}(hw:Vw pr/\zg wk (wv.map D.int) p=a3 (.int w))(hl:p.length<=6)(hr:pr.length=p.length)(ho:qg p p.length≠[])
  (hx:∀s,s<p.length->p.getD s 0=2->zg ks (ns.map D.int) (p.set s 0)=a3 (.int (V0 s))/\zg ks (ns.map D.int) (p.set s 1)=a3 (.int (V1 s))) :
  ∃s:Nat,s∈qg p p.length/\Qn ((qg p p.length).map λs=>pr.getD s 0*w+(V0 s+V1 s))=pr.getD s 0*w+(V0 s+V1 s)/\evP 1000 G T (n+4) "cheapest_ask" [.dct ks (ns.map D.int),q9 p,.fn "whole_cost_of_ask" [.dct wk (wv.map D.int),.lst (pr.map D.int)]]=.val (.tup [.int (Qn ((qg p p.length).map λs=>pr.getD s 0*w+(V0 s+V1 s))),.int (s:Int)]):=by
 let kk:List (List Int):=(qg p p.length).map λ(s:Nat)=>[pr.getD s 0*w+(V0 s+V1 s),(s:Int)]
 have kl:kk.length=(qg p p.length).length:=km ..;have kp:0<(qg p p.length).length:=List.length_pos_iff.mpr ho;obtain⟨b1,b2⟩:=j3c kk (λk hk=>by obtain⟨s,_,e⟩:=Xm.mp hk;rw[<-e];rfl) (kk.length-1) nofun
 have hi:aZ (Jq kk) (kk.length-1)<kk.length:=by omega
 have hk:kk[aZ (Jq kk) (kk.length-1)]?=a3 (kk.getD (aZ (Jq kk) (kk.length-1)) []):=by rw[kj,kh hi];rfl
 obtain⟨s0,hs0,e0⟩:=Xm.mp (Xf hk);have at':∀{t:Nat},t∈qg p p.length->t<p.length/\p.getD t 0=2:=λ{t} ht=>by obtain⟨h1,h2⟩:=Xk.mp ht;exact⟨Xb.mp h1,of_decide_eq_true h2⟩
 have mn:Qn ((qg p p.length).map λs=>pr.getD s 0*w+(V0 s+V1 s))=pr.getD s0 0*w+(V0 s0+V1 s0):=by
  refine j3w (Xm.mpr ⟨s0,hs0,rfl⟩) λc hc=>?_;obtain⟨t,ht,rfl⟩:=Xm.mp hc;obtain⟨j,hj,ej⟩:=Tu.mp ht;have q:=b2 j nofun
  rw[<-e0]at q;have e1:kk.getD j []=[pr.getD t 0*w+(V0 t+V1 t),(t:Int)]:=by rw[kj,xx,kh hj,ej];rfl
  rw[e1]at q;exact q
 refine⟨s0,hs0,mn,?_⟩;rw[mn,jd (F:=Vb) (by rfl) rfl];simp only[Vb,Qq,enter,q9];ext;rw[qj (l:=kk.map λk=>D.tup (k.map D.int)) (by rfl) (by unfold Jl;rw[km,d9,km];omega) ?_ (.inl rfl)];rotate_left
 .rw[j7s,Xj];refine Ys λs hs'=>?_;have hs:=Xb.mp hs';refine j8w ?_ λhb=>?_
  .ext;simp only[gN];ext;simp only[Ik];ext
  .have h2:p.getD s 0=2:=of_decide_eq_true hb;obtain⟨h0,h1⟩:=hx s hs h2;have c:=j7z (n:=n) (pr:=pr) hw hl hs nofun h2 h0 h1;simp only[q9]at c;ext;rw[jbe (by rw[Jg,Fv,Jg,j1m];rfl)];simp only[dP,Sq];rw[c];ext;rfl
 ext;rw[jeb hk,<-e0];ext
theorem j7e{n:Nat}{p pr:List Int}{ks:List (List Int)}{ns:List Int}{wk:List (List Int)}{wv:List Int}{w:Int}{V0 V1:Nat->Int}(hw:Vw pr/\zg wk (wv.map D.int) p=a3 (.int w))(hl:p.length<=6)(hr:pr.length=p.length)(ho:qg p p.length≠[])
  (hx:∀s,s<p.length->p.getD s 0=2->zg ks (ns.map D.int) (p.set s 0)=a3 (.int (V0 s))/\zg ks (ns.map D.int) (p.set s 1)=a3 (.int (V1 s))) :
  evP 1000 G T (n+5) (jx "least_numbers") [.fn "whole_cost_of_ask" [.dct wk (wv.map D.int),.lst (pr.map D.int)],.dct ks (ns.map D.int),q9 p]=.lval (.int (Qn ((qg p p.length).map λs=>pr.getD s 0*w+(V0 s+V1 s)))):=by
 obtain⟨s,_,_,e⟩:=Mt (n:=n) hw hl hr ho hx;rw[j47 (F:=Zx) (by rfl) rfl];simp only[Zx,Qg,enter];ext;erw[e,at0]
noncomputable def jz:List Int->Int
 |[]=>0
 |d::ds=>d*3^ds.length+jz ds
theorem Z0:∀{p:List Int},(∀t∈p,0<=t/\t<3)->0<=jz p/\jz p<3^p.length
 |[],_=>⟨by decide,by decide⟩
 |d::ds,h=>by
  obtain⟨h1,h2⟩:=Z0 (p:=ds) λt ht=>h t (xf _ ht);have hd:=h d xq;have hp:(0:Int)<3^ds.length:=cA (by decide);rw[jz,X7,iq];have:d=0\/d=1\/d=2:=by omega
  rcases this with e|e|e<;>subst e<;>exact⟨by omega,by omega⟩
theorem Dk:∀{p:List Int},(∀t∈p,0<=t/\t<3)->j5 3 p.length (jz p)=p
 |[],_=>rfl
 |d::ds,h=>by have h':∀t∈ds,0<=t/\t<3:=λt ht=>h t (xf _ ht);obtain⟨h1,h2⟩:=Z0 h';have hd:=h d xq;have hp:(3:Int)^ds.length≠0:=ir (cA (by decide));rw[jz,X7,show d*3^ds.length+jz ds=jz ds+3^ds.length*d by rw[d6,iu],j5,Dl (by decide) _ _ (xu _),Dk h'];congr 1;rw[eE _ _ hp,S9 h1 h2,Tn];omega
theorem Nz(i:Nat):∀m:Nat,jz (j5 3 m (i:Int))=((i%3^m:Nat):Int)
 |0=>by rw[Nat.pow_zero,Nat.mod_one];rfl
 |m+1=>by
  have pc:((3^m:Nat):Int)=(3:Int)^m:=by simp
  have e:((i/3^m%3:Nat):Int)=(i:Int)/3^m%3:=by rw[Int.natCast_emod,Int.natCast_ediv,pc];rfl
  rw[j5,jz,jw,Nz i m,T4,Nat.mod_mul,ko,cW,e,pc,d6,iu]
theorem U0:∀{p:List Int}{s:Nat}{c:Int},s<p.length->jz (p.set s c)=jz p+(c-p.getD s 0)*3^(p.length-1-s)
 |d::ds,0,c,_=>by rw[Pq,jz,jz,X7,cV,show ds.length+1-1-0=ds.length by omega,Int.sub_mul];omega
 |d::ds,s+1,c,h=>by have:=U0 (p:=ds) (s:=s) (c:=c) (by simpa using h);rw[Pb,jz,jz,T8,X7,eT,this,show ds.length+1-1-(s+1)=ds.length-1-s by omega];omega
theorem Vk{m i s:Nat}{c:Nat}(hi:i<3^m)(hs:s<m)(h2:(j5 3 m (i:Int)).getD s 0=2)(hc:c=0\/c=1):(2-c)*3^(m-1-s)<=i/\(j5 3 m (i:Int)).set s (c:Int)=j5 3 m ((i-(2-c)*3^(m-1-s):Nat):Int):=by
 have hl:(j5 3 m (i:Int)).length=m:=jw 3 m _;have h3:∀t∈(j5 3 m (i:Int)).set s (c:Int),0<=t/\t<3:=(vm hl (λt ht=>Vc (by decide) ht) nofun).2;have l2:((j5 3 m (i:Int)).set s (c:Int)).length=m:=by rw[T8];exact hl
 have v:=U0 (p:=j5 3 m (i:Int)) (c:=(c:Int)) (hl▸hs);rw[Nz,jY hi,h2,hl]at v;obtain⟨b1,b2⟩:=Z0 h3;have d:=Dk h3;rw[l2]at d;have pc:((3^(m-1-s):Nat):Int)=(3:Int)^(m-1-s):=by simp
 have le:(2-c)*3^(m-1-s)<=i:=by
  have:(((2-c)*3^(m-1-s):Nat):Int)=(2-(c:Int))*3^(m-1-s):=by rw[cW,pc];congr 1;omega
  have e2:((c:Int)-2)*3^(m-1-s) = -((2-(c:Int))*3^(m-1-s)):=by rw[<-m9];congr 1;omega
  omega
 refine⟨le,?_⟩;rw[<-d,v];congr 1;rw[Int.natCast_sub le,cW,pc];have e2:((c:Int)-2)*3^(m-1-s) = -((2-(c:Int))*3^(m-1-s)):=by rw[<-m9];congr 1;omega
 have e3:((2-c:Nat):Int)=2-(c:Int):=by omega
 rw[e2,e3];omega
noncomputable def stepV(pr:List Int)(wt:List Int->Int)(m:Nat)(t:List Int)(i:Nat):Int:=Qn ((qg (j5 3 m (i:Int)) m).map λs=>pr.getD s 0*wt (j5 3 m (i:Int))+(t.getD (i-2*3^(m-1-s)) 0+t.getD (i-1*3^(m-1-s)) 0))
noncomputable def v7(pr:List Int)(wt:List Int->Int)(m:Nat)(op:List Int->Bool):Nat->List Int
 |0=>[]
 |i+1=>v7 pr wt m op i++[if op (j5 3 m (i:Int))=a6 then stepV pr wt m (v7 pr wt m op i) i else 0]
theorem Vl(pr:List Int)(wt:List Int->Int)(m:Nat)(op:List Int->Bool):∀i,(v7 pr wt m op i).length=i
 |0=>rfl
 |i+1=>by rw[v7,Xa,Vl pr wt m op i];rfl
noncomputable def opB(a:List Int)(m:Nat)(p:List Int):Bool:=(stD a p m).isNon
theorem Vo{a p:List Int}{m:Nat}(h01:∀x∈a,x=0\/x=1)(hp:p.length=m)(hp3:∀t∈p,0<=t/\t<3)(h:opB a m p=a6):qg p m≠[]:=λe=>by
 subst hp;have o:=Ro p;rw[e]at o;have c:=j4g (a:=a) h01 rfl hp3;rw[<-o]at c;unfold opB stD Fj at h;have c:cnt a p p.length 0+cnt a p p.length 1=1:=c;split at h
 .cases h
 .split at h
  .cases h
  .omega
theorem gGN:G "GREATEST_NUMBER" = a3 (.int 1000000):=by rfl
theorem gLP:G "LEAST_PRICE" = a3 (.int 1):=by rfl
theorem gLW:G "LEAST_WEIGHT" = a3 (.int 0):=by rfl
noncomputable def btw(least x:Int):Bool:=decide (least<=x)&&decide (x<=1000000)
theorem Ox {n:Nat} {l:List Int} {least:Int} (hl:l.length<=1000):evP 1000 G T (n+1) "all_between" [.lst (l.map D.int),.int least]=.val (.bl (l.all (btw least))):=by
 rw[jd (F:=Vr) (by rfl) rfl];simp only[Vr,Zc,enter];ext;rw[qj (l:=(l.map (btw least)).map D.bl) (by rfl) (by rw[km];omega) ?_ (.inl rfl)]
 .ext;rw[i5];rfl
 .rw[Xj];refine qi λx _=>zj (by ext) ?_;by_cases h1:least<=x
  .by_cases h2:x<=1000000
   .ext;simp only[gGN];ext;simp[btw,h1,h2]
   .ext;simp only[gGN];ext;simp[btw,h1,h2]
  .ext;simp[btw,h1]
theorem rep1(k:Nat):(a5 k [D.int 1]).flatten=(a5 k (1:Int)).map D.int:=by
 induction k with
 |zero=>rfl
 |succ k ih=>rw[Xv,Te,ih];rfl
theorem j6o {n m:Nat} (hm:m<=6):evP 1000 G T (n+1) "prices_told" [.int m,.non]=.fresh ((a5 m (1:Int)).map D.int):=by rw[jd (F:=Jz) (by rfl) rfl];simp only[Jz,Q5,enter];ext;rw[X6,rep1]
theorem j9j {n m:Nat} {pr:List Int} (hl:pr.length=m) (hm:m<=6) (h:pr.all (btw 1)=a6):evP 1000 G T (n+2) "prices_told" [.int m,.lst (pr.map D.int)]=.fresh (pr.map D.int):=by rw[jd (F:=Jz) (by rfl) rfl];simp only[Jz,Q5,enter];ext;simp only[gLP];ext;rw[Ox nofun,h];ext
theorem ones{m:Nat}(hm:1<=m/\m<=6):a5 ((m:Nat):Int).toNat (D.int 1)=(j5 2 m (2^m-1)).map D.int:=by
 rw[X6];obtain rfl|rfl|rfl|rfl|rfl|rfl:m=1\/m=2\/m=3\/m=4\/m=5\/m=6:=by omega
 all_goals rfl
theorem j5m {n m:Nat} (hm:1<=m/\m<=6):evP 1000 G T (n+3) "count_of_rows" [.int m]=.val (.int ((2^m:Nat):Int)):=by
 rw[jd (F:=Zz) (by rfl) rfl];simp only[Zz,Qi,enter];have pc:((2^m:Nat):Int)=(2:Int)^m:=by simp
 have p2:=Kg (m:=m) nofun
 ext;rw[ones hm,O4 (n:=n) nofun nofun];ext;rw[pc];congr 2;omega
theorem p64{m:Nat}(h:m<=6):2^m<=64:=cR (n:=2) (j:=6) (by decide) h
theorem jdr {n m:Nat} {wt:List Int} (hm:1<=m/\m<=6) (hl:wt.length=2^m) (ha:wt.all (btw 0)=a6) (hs:wt.sum≠0):evP 1000 G T (n+4) "refuse_wrong_weights" [.lst (wt.map D.int),.int m]=.val .non:=by
 rw[jd (F:=Je) (by rfl) rfl];simp only[Je,zy,enter];have p6:=p64 hm.2;have hl':wt.length<=1000:=by omega
 ext;rw[j5m hm];ext;simp only[gLW];ext;rw[Ox hl',ha];ext
theorem Ba {n m:Nat} {ws:List ah} {a:List Int} (hm:1<=m/\m<=6) (hw:ws.length=m):evP 1000 G T (n+1) "all_open" [qD ws a]=.val (q9 (a5 m 2)):=by
 rw[jd (F:=Wl) (by rfl) rfl];simp only[Wl,Yc,enter,qD];ext;simp only[gN];ext;rw[at0];ext;rw[hw]
 first|rfl|simp[q9]
noncomputable def tab(pr:List Int)(wt:List Int->Int)(a:List Int)(m:Nat):List Int:=v7 pr wt m (opB a m) (3^m)
noncomputable def prD(d:Option (List Int))(m:Nat):List Int:=d.getD (a5 m 1)
noncomputable def feD(d:Option (List Int)):D:=match d with
 |none=>.non
 |some l=>.lst (l.map D.int)
theorem jao{l l':List Int}{j:Nat}(h:j<l.length):(l++l').getD j 0=l.getD j 0:=by rw[kj,kj,Px h]
theorem Ff{wt:List Int->Int}{pr:List Int}{m:Nat}{op:List Int->Bool}{i j:Nat}(hj:j<i):∀{N:Nat},i<=N->(v7 pr wt m op N).getD j 0=(v7 pr wt m op i).getD j 0:=by
 intro N hN;induction N with
 |zero=>omega
 |succ N ih =>
  by_cases e:i=N+1
  .rw[e]
  .rw[v7,jao (by rw[Vl];omega)];exact ih nofun
theorem j3i{wt:List Int->Int}{pr:List Int}{m:Nat}{op:List Int->Bool}{j N:Nat}(hN:N<=3^m)(h:j<N):(v7 pr wt m op N).getD j 0=if op (j5 3 m (j:Int))=a6 then stepV pr wt m (v7 pr wt m op N) j else 0:=by
 rw[Ff (i:=j+1) nofun nofun,v7,kj,bT (by rw[Vl];exact xu _),Vl,fA];show(if _ then _ else _)=_;have e:stepV pr wt m (v7 pr wt m op j) j=stepV pr wt m (v7 pr wt m op N) j:=by unfold stepV;congr 1;apply S6;intro s hs;obtain⟨q1,q2⟩:=Xk.mp hs;have hs':=Xb.mp q1;have h2:(j5 3 m (j:Int)).getD s 0=2:=of_decide_eq_true q2;obtain⟨l0,_⟩:=Vk (c:=0) (by omega:j<3^m) hs' h2 (.inl rfl);obtain⟨l1,_⟩:=Vk (c:=1) (by omega:j<3^m) hs' h2 (.inr rfl);have w:0<3^(m-1-s):=dk (by simp);rw[Ff (i:=j) (j:=j-2*3^(m-1-s)) (N:=N) nofun nofun,Ff (i:=j) (j:=j-1*3^(m-1-s)) (N:=N) nofun nofun]
 rw[e]
noncomputable def qp(p:List Int):Nat:=p.countP λt=>t==2
set_option genInjectivity true in
inductive Pl where
 |tell (b:Int)
 |ask (p:ah) (n y:Pl)
noncomputable def pD:Pl->D
 |.tell b=>.tup [.str "tell",.int b]
 |.ask p n y=>.tup [.str "ask",.str p,pD n,pD y]
noncomputable def Wp(pr:List Int)(wt:List Int->Int)(a:List Int)(m:Nat)(p:List Int):Int:=(tab pr wt a m).getD (jz p).toNat 0
def Wo(ws:List ah)(pr:List Int)(wt:List Int->Int)(a:List Int)(m:Nat):Pl->List Int->Prop
 |.tell b,p=>stD a p m=.int b
 |.ask w n y,p=>opB a m p=a6/\∃s,s∈qg p m/\ws[s]?=a3 w/\Wp pr wt a m p=pr.getD s 0*wt p+(Wp pr wt a m (p.set s 0)+Wp pr wt a m (p.set s 1))/\Wo ws pr wt a m n (p.set s 0)/\Wo ws pr wt a m y (p.set s 1)
theorem Rw{p:List Int}{m:Nat}(hp:p.length=m)(hp3:∀t∈p,0<=t/\t<3):(jz p).toNat<3^m/\p=j5 3 m ((jz p).toNat:Int):=by
 obtain⟨b1,b2⟩:=Z0 hp3;have pc:((3^m:Nat):Int)=(3:Int)^m:=by simp
 rw[hp,<-pc]at b2;refine⟨by omega,?_⟩;rw[Tj b1,<-hp];exact(Dk hp3).symm
theorem jco{wt:List Int->Int}{p pr a:List Int}{m s c:Nat}(hp:p.length=m)(hp3:∀t∈p,0<=t/\t<3)(hs:s<m)(h2:p.getD s 0=2)(hc:c=0\/c=1):Wp pr wt a m (p.set s (c:Int))=(tab pr wt a m).getD ((jz p).toNat-(2-c)*3^(m-1-s)) 0:=by obtain⟨h1,e⟩:=Rw hp hp3;have t:=Vk (m:=m) (i:=(jz p).toNat) (s:=s) (c:=c) h1 hs (by rw[<-e];exact h2) hc;rw[<-e]at t;unfold Wp;rw[t.2,Nz,X6,jY nofun]
theorem Lx{wt:List Int->Int}{p pr a:List Int}{m:Nat}(hp:p.length=m)(hp3:∀t∈p,0<=t/\t<3)(ho:opB a m p=a6):Wp pr wt a m p=Qn ((qg p m).map λs=>pr.getD s 0*wt p+(Wp pr wt a m (p.set s 0)+Wp pr wt a m (p.set s 1))):=by obtain⟨h1,e⟩:=Rw hp hp3;have t:=j3i (pr:=pr) (wt:=wt) (op:=opB a m) (xu (3^m)) h1;rw[<-e,if_pos ho]at t;refine Eq.trans t ?_;unfold stepV;rw[<-e];congr 1;apply S6;intro s hs;obtain⟨q1,q2⟩:=Xk.mp hs;have hs':=Xb.mp q1;have h2:p.getD s 0=2:=of_decide_eq_true q2;have w0:=jco (pr:=pr) (wt:=wt) (a:=a) (c:=0) hp hp3 hs' h2 (.inl rfl);have w1:=jco (pr:=pr) (wt:=wt) (a:=a) (c:=1) hp hp3 hs' h2 (.inr rfl);have w0:Wp pr wt a m (p.set s 0)=_:=w0;have w1:Wp pr wt a m (p.set s 1)=_:=w1;rw[w0,w1];rfl
theorem Vv{wt:List Int->Int}{p pr a:List Int}{m:Nat}(hp:p.length=m)(hp3:∀t∈p,0<=t/\t<3)(ho:opB a m p=a4):Wp pr wt a m p=0:=by obtain⟨h1,e⟩:=Rw hp hp3;have t:=j3i (pr:=pr) (wt:=wt) (op:=opB a m) (xu (3^m)) h1;rw[<-e,ho,if_neg xg]at t;exact t
noncomputable def PK(p:List Int):List (List Int):=Jc (p.map Jd)
theorem Vn{t:Int}{p q:List Int}:q∈PK (t::p) ↔ ∃x∈Jd t,∃r∈PK p,q=x::r:=by
 unfold PK;rw[xm,Jc,List.mem_flatMap];constructor
 .rintro⟨x,hx,h⟩;obtain⟨r,hr,e⟩:=Xm.mp h;exact⟨x,hx,r,hr,e.symm⟩
 .rintro⟨x,hx,r,hr,e⟩;exact⟨x,hx,Xm.mpr ⟨r,hr,e.symm⟩⟩
theorem j46{t x:Int}(h:x∈Jd t):(t=2/\(x=0\/x=1\/x=2))\/(t≠2/\x=t):=by
 unfold Jd at h;split at h
 .rename_i e;simp only[xn,fF,or_false]at h;exact .inl ⟨e,h⟩
 .rename_i e;exact .inr ⟨e,xr.mp h⟩
theorem j0c:∀{p q:List Int},(∀t∈p,0<=t/\t<3)->q∈PK p->q.length=p.length/\∀t∈q,0<=t/\t<3
 |[],q,_,h=>by have e:q=[]:=xr.mp h;rw[e];exact⟨rfl,λt ht=>nomatch ht⟩
 |t::p,q,h3,h=>by
  obtain⟨x,hx,r,hr,e⟩:=Vn.mp h;obtain⟨h1,h2⟩:=j0c (λt ht=>h3 t (xf _ ht)) hr;have ht:=h3 t xq;subst e;refine⟨by rw[X7,X7,h1],λy hy=>?_⟩;rcases xn.mp hy with q|q
  .subst q;rcases j46 hx with ⟨_,z⟩|⟨_,z⟩<;>omega
  .exact h2 y q
theorem j6s:∀{p q:List Int}{s:Nat}{c:Int},q∈PK p->q.getD s 0=2->(c=0\/c=1)->q.set s c∈PK p
 |[],q,s,c,h,h2,_=>by have e:q=[]:=xr.mp h;rw[e]at h2;simp at h2
 |t::p,q,s,c,h,h2,hc=>by
  obtain⟨x,hx,r,hr,e⟩:=Vn.mp h;subst e;cases s with
  |zero =>
   rw[cV]at h2;rw[Pq];refine Vn.mpr ⟨c,?_,r,hr,rfl⟩;rcases j46 hx with ⟨z,_⟩|⟨z,z2⟩
   .rw[z];unfold Jd;rw[if_pos rfl];rcases hc with q|q<;>rw[q]<;>simp
   .exact absurd (z2▸h2) z
  |succ s =>rw[eT]at h2;rw[Pb];exact Vn.mpr ⟨x,hx,_,j6s hr h2 hc,rfl⟩
theorem O8:∀{p:List Int},(∀t∈p,0<=t/\t<3)->(PK p).Pairwise λx y=>jz x<jz y
 |[],_=>List.pairwise_singleton _ _
 |t::p,h3=>by
  have h3':∀t∈p,0<=t/\t<3:=λt ht=>h3 t (xf _ ht);have ih:=O8 h3';have bd:∀r∈PK p,0<=jz r/\jz r<3^p.length/\r.length=p.length:=λr hr=>by obtain⟨h1,h2⟩:=j0c h3' hr;obtain⟨b1,b2⟩:=Z0 h2;rw[h1]at b2;exact⟨b1,b2,h1⟩
  have one:∀c:Int,((PK p).map (c :: ·)).Pairwise λx y=>jz x<jz y:=λc=>by rw[jF];refine ih.imp_of_mem λ{x y} hx hy h=>?_;rw[jz,jz,(bd x hx).2.2,(bd y hy).2.2];omega
  have two:∀{c d:Int},c<d->∀x∈(PK p).map (c :: ·),∀y∈(PK p).map (d :: ·),jz x<jz y:=λ{c d} hcd x hx y hy=>by
   obtain⟨r,hr,rfl⟩:=Xm.mp hx;obtain⟨r',hr',rfl⟩:=Xm.mp hy;obtain⟨b1,b2,b3⟩:=bd r hr;obtain⟨d1,d2,d3⟩:=bd r' hr';show c*3^r.length+jz r<d*3^r'.length+jz r';rw[b3,d3];have:c*3^p.length+3^p.length<=d*3^p.length:=by have h:=Int.mul_le_mul_of_nonneg_right (show c+1<=d by omega) (show(0:Int)<=3^p.length by exact lG (cA (by decide)));rw[iM,cS]at h;exact h
   omega
  by_cases e:t=2
  .have ek:PK (t::p)=(PK p).map (0 :: ·)++((PK p).map (1 :: ·)++(PK p).map (2 :: ·)):=by unfold PK;rw[xm,Jc,e];simp[Jd]
   rw[ek];refine List.pairwise_append.mpr ⟨one 0,List.pairwise_append.mpr ⟨one 1,one 2,two (by decide)⟩,λx hx y hy=>?_⟩;rcases Pn.mp hy with q|q
   .exact two (by decide) x hx y q
   .exact two (by decide) x hx y q
  .have ek:PK (t::p)=(PK p).map (t :: ·):=by unfold PK;rw[xm,Jc];simp[Jd,e]
   rw[ek];exact one t
theorem j1e{p:List Int}(h3:∀t∈p,0<=t/\t<3):(PK p).Nodup:=(O8 h3).imp λh e=>by rw[e]at h;omega
theorem j9l{p r:List Int}{i:Nat}(h3:∀t∈p,0<=t/\t<3)(hi:i<(PK p).length)(hr:r∈PK p)(hv:jz r<jz (PK p)[i]):r∈(PK p).take i:=by
 obtain⟨j,hj,rfl⟩:=Tu.mp hr;have hs:=List.pairwise_iff_getElem.mp (O8 h3);have:j<i:=by
  rcases il j i with q|q
  .exact q
  .rcases Nat.eq_or_lt_of_le q with q|q
   .subst q;omega
   .have:=hs i j hi hj q;omega
 exact Tu.mpr ⟨j,by rw[Xq];omega,List.getElem_take⟩
theorem Dm{f:List Int->D}:∀{ks:List (List Int)} {q:List Int},q∈ks->zg ks (ks.map f) q=a3 (f q)
 |k::ks,q,h=>by
  rw[xm,zg];by_cases e:k=q
  .rw[if_pos e,e]
  .rw[if_neg e];exact Dm ((xn.mp h).resolve_left λz=>e z.symm)
theorem j1f:∀{p:List Int},(PK p).length<=3^p.length
 |[]=>xu _
 |t::p=>by
  have ih:=j1f (p:=p);by_cases e:t=2
  .have ek:PK (t::p)=(PK p).map (0 :: ·)++((PK p).map (1 :: ·)++(PK p).map (2 :: ·)):=by unfold PK;rw[xm,Jc,e];simp[Jd]
   rw[ek,Xa,Xa,km,km,km,X7,T4];omega
  .have ek:PK (t::p)=(PK p).map (t :: ·):=by unfold PK;rw[xm,Jc];simp[Jd,e]
   rw[ek,km,X7,T4];omega
theorem j6t:∀{m:Nat}{q:List Int},q.length=m->(∀t∈q,0<=t/\t<3)->q∈PK (a5 m 2)
 |0,q,h,_=>by rw[List.length_eq_zero_iff.mp h];exact xr.mpr rfl
 |m+1,[],h,_=>by cases h
 |m+1,x::q,h,h3=>by
  have hx:=h3 x xq;refine Vn.mpr ⟨x,?_,q,j6t (by simpa using h) (λt ht=>h3 t (xf _ ht)),rfl⟩;have:x=0\/x=1\/x=2:=by omega
  unfold Jd;rw[if_pos rfl];rcases this with e|e|e<;>rw[e]<;>simp
theorem Li{f:List Int->Int}{p:List Int}{m:Nat}(hp:p.length=m)(hp3:∀t∈p,0<=t/\t<3):zg (PK (a5 m 2)) (((PK (a5 m 2)).map f).map D.int) p=a3 (.int (f p)):=by rw[Xj];exact Dm (f:=λq=>D.int (f q)) (j6t hp hp3)
theorem j76{f1 f2:En->Option D}{A B C:D}{L:List (List Int)}{W:List Int->Int}{op:List Int->Bool}(hm:L.length<=1000000)(nd:L.Nodup)
  (h1:∀(q:List Int)(s5:Sv),q∈L->f1 [.val A,.val B,.val C,.un,.val (.tup (q.map D.int)),s5]=a3 (.bl (!op q)))
  (h2:∀(i:Nat)(hi:i<L.length),f2 [.val A,.val B,.val C,.val (.dct (L.take i) (((L.take i).map W).map D.int)),.val (.tup (L[i].map D.int)),.val (.bl (!op L[i]))]=a3 (.int (W L[i]))) :
  ∀(r i:Nat)(s4 s5:Sv),i+r=L.length->Y6 f1 f2 3 4 5 (ql (L.drop i)) [.val A,.val B,.val C,.un,s4,s5] (L.take i) ((L.take i).map W)=a3 (L,L.map W):=by
 intro r;induction r with
 |zero =>intro i s4 s5 e;rw[lD]at e;rw[i4 nofun,T6 nofun];rfl
 |succ r ih =>
  intro i s4 s5 e;have hi:i<L.length:=by omega
  have ed:L.drop i=L[i]::L.drop (i+1):=Py hi;have et:L.take (i+1)=L.take i++[L[i]]:=by rw[Tw,kh hi];rfl
  have nc:(L.take i).contains L[i]=a4:=by
   have nd:=nd;rw[<-eB i L,ed]at nd;have:=(gj.mp nd).2.2;cases z:(L.take i).contains L[i] with
   |false=>rfl
   |true=>exact absurd rfl (this _ (by simpa using z) _ xq)
  have ll:(L.take i).length<ak:=lt_size (by rw[Xq];omega);have g:=ih (i+1) (.val (.tup (L[i].map D.int))) (.val (.bl (!op L[i]))) nofun
  rw[et,Xe,xm,bY]at g;rw[ed,ql,xm,<-ql,Y6];simp only[q9,Jk,Pq,Pb,h1 _ _ (pq hi),h2 i hi];rw[if_pos ⟨nc,ll⟩];exact g
theorem j4m{wt:List Int->Int}{wk:List (List Int)}{wv:List Int}{n m:Nat}{ws:List ah}{a pr p:List Int}(hw:ws.length=m)(hm:1<=m/\m<=6)(ha:a.length=2^m)(h01:∀x∈a,x=0\/x=1)(hr:pr.length=m)(hp:p.length=m)(hp3:∀t∈p,0<=t/\t<3)(hW:∀q:List Int,q.length=m->(∀t∈q,0<=t/\t<3)->Vw pr/\zg wk (wv.map D.int) q=a3 (.int (wt q))) :
  evP 1000 G T (n+6) "numbers_within" [q9 p,qD ws a,.fn "least_numbers" [.fn "whole_cost_of_ask" [.dct wk (wv.map D.int),.lst (pr.map D.int)]]]=.val (.dct (PK p) (((PK p).map (Wp pr wt a m)).map D.int)):=by
 rw[jd (F:=Zf) (by rfl) rfl];simp only[Zf,Jr,enter];have pk:evP 1000 G T (n+5) "parts_in" [q9 p]=.fresh (ql (PK p)):=by rw[j1h (n:=n+3) nofun,Z7];rfl
 have p3:=O7 hm.2;have pl:=j1f (p:=p);rw[hp]at pl;have pok:∀q∈PK p,q.length=m/\∀t∈q,0<=t/\t<3:=λq hq=>by rw[<-hp];exact j0c hp3 hq
 have hd:=j76 (f1:=λρ=>stOf (ev (evP 1000 G T (n+5)) G (.not (.isN (.call "settled_by" (.cons (.var 1) (.cons (.var 4) .nil))))) ρ))
  (f2:=λρ=>stOf (ev (evP 1000 G T (n+5)) G (.ite (.var 5) (.lit (.int 0)) (.callV 2 (.cons (.var 3) (.cons (.var 4) .nil)))) ρ))
  (A:=q9 p) (B:=qD ws a) (C:=.fn "least_numbers" [.fn "whole_cost_of_ask" [.dct wk (wv.map D.int),.lst (pr.map D.int)]]) (L:=PK p) (W:=Wp pr wt a m) (op:=opB a m) nofun (j1e hp3)
  (λq s5 hq=>by
   have sp:evP 1000 G T (n+5) "settled_by" [.tup [.tup (ws.map D.str),.tup (a.map D.int)],q9 q]=.val (stD a q m):=O2 (n:=n) hm ha (pok q hq).1 (pok q hq).2
   simp only[q9]at sp
   simp only[qD]
   ext
   rw[sp]
   ext
   simp only[opB])
  (λi hi=>by
   have hq:=pq hi
   obtain⟨q1,q2⟩:=pok _ hq
   cases z:opB a m (PK p)[i] with
   |false =>
    simp only[Bool.not_false]
    ext
    rw[Vv q1 q2 z]
   |true =>
    simp only[Bool.not_true]
    have sub:∀(s:Nat)(c:Int),s<(PK p)[i].length->(PK p)[i].getD s 0=2->(c=0\/c=1)->zg ((PK p).take i) (((((PK p).take i).map (Wp pr wt a m))).map D.int) ((PK p)[i].set s c)=a3 (.int (Wp pr wt a m ((PK p)[i].set s c))):=λs c hs h2 hc=>by
     rw[Xj]
     refine Dm (f:=λq=>D.int (Wp pr wt a m q)) (j9l hp3 hi (j6s hq h2 hc) ?_)
     rw[U0 hs,h2]
     have:(0:Int)<3^((PK p)[i].length-1-s):=cA (by decide)
     rcases hc with e|e<;>subst e<;>omega
    have L:=j7e (n:=n) (p:=(PK p)[i]) (pr:=pr) (ks:=(PK p).take i) (ns:=((PK p).take i).map (Wp pr wt a m)) (V0:=λs=>Wp pr wt a m ((PK p)[i].set s 0)) (V1:=λs=>Wp pr wt a m ((PK p)[i].set s 1))
     (hW _ q1 q2) nofun nofun (by rw[q1];exact Vo h01 q1 q2 z) (λs hs h2=>⟨sub s 0 hs h2 (.inl rfl),sub s 1 hs h2 (.inr rfl)⟩)
    have wo:=Lx (pr:=pr) (wt:=wt) q1 q2 z
    rw[q1,<-wo]at L
    simp only[q9]at L
    ext
    rw[jbf (by rw[Jg,Fv,Jg,j1m];rfl)]
    simp only[dP,Sq]
    rw[L]
    ext)
  (PK p).length 0 .un .un (Pj _)
 have hi:ev (evP 1000 G T (n+5)) G (.seq (.call "parts_in" (.cons (.var 0) .nil))) [.val (q9 p),.val (qD ws a),.val (.fn "least_numbers" [.fn "whole_cost_of_ask" [.dct wk (wv.map D.int),.lst (pr.map D.int)]]),.un,.un,.un]=a3 (.i (ql (PK p))):=by ext;rw[pk];ext
 have ru:=j6l (fu:=1000) (Γ:=evP 1000 G T (n+5)) (G:=G) (ρ:=[.val (q9 p),.val (qD ws a),.val (.fn "least_numbers" [.fn "whole_cost_of_ask" [.dct wk (wv.map D.int),.lst (pr.map D.int)]]),.un,.un,.un]) (x:=3) (t:=4) (y:=5) ⟨by simp,by simp,by simp,by decide,by decide,by decide⟩ hi hd;exact congrArg fin ru
theorem Nr{wt:List Int->Int}{wk:List (List Int)}{wv:List Int}{n m:Nat}{ws:List ah}{a pr p:List Int}(hw:ws.length=m)(hm:1<=m/\m<=6)(ha:a.length=2^m)(h01:∀x∈a,x=0\/x=1)(hr:pr.length=m)(hp:p.length=m)(hp3:∀t∈p,0<=t/\t<3)(hW:∀q:List Int,q.length=m->(∀t∈q,0<=t/\t<3)->Vw pr/\zg wk (wv.map D.int) q=a3 (.int (wt q))) :
  evP 1000 G T (n+7) "least_numbers" [q9 p,qD ws a,.fn "whole_cost_of_ask" [.dct wk (wv.map D.int),.lst (pr.map D.int)]]=.val (.dct (PK p) (((PK p).map (Wp pr wt a m)).map D.int)):=by
 rw[jd (F:=Zy) (by rfl) rfl];simp only[Zy,Qh,enter];ext;rw[j4m (n:=n) hw hm ha h01 hr hp hp3 hW,jdp (Fv ..)];ext
theorem j6c {n:Nat} {d:D}:evP 1000 G T (n+1) "telling" [d]=.val (.tup [.str "tell",d]):=by rw[jd (F:=M4) (by rfl) rfl];simp only[M4,Yw,enter];ext
theorem jbv {n:Nat} {x y z:D}:evP 1000 G T (n+1) "asking" [x,y,z]=.val (.tup [.str "ask",x,y,z]):=by rw[jd (F:=Oi) (by rfl) rfl];simp only[Oi,Wb,enter];ext;rw[show Yj (a3 (W.a [Rk.e (.str "ask"),Rk.e x,Rk.e y,Rk.e z]))=a3 (.v (.e (.tup [.str "ask",x,y,z])))from rfl];ext
theorem j6f{a p:List Int}{m:Nat}(h:opB a m p=a4):∃b:Int,stD a p m=.int b:=by
 unfold opB at h;unfold stD Fj at h ⊢;split
 .exact⟨_,rfl⟩
 .rename_i h1;rw[if_neg h1]at h;split
  .exact⟨_,rfl⟩
  .rename_i h0;rw[if_neg h0]at h;cases h
theorem jd5{a p:List Int}{m:Nat}(h:opB a m p=a6):stD a p m=.non:=by
 unfold opB at h;unfold stD Fj at h ⊢;split at h
 .cases h
 .rename_i h1;rw[if_neg h1];split at h
  .cases h
  .rename_i h0;rw[if_neg h0]
theorem Np{wt:List Int->Int}{wk:List (List Int)}{wv:List Int}{ws:List ah}{a pr p:List Int}{m n:Nat}(hm:1<=m/\m<=6)(ha:a.length=2^m)(hp:p.length=m)(hp3:∀t∈p,0<=t/\t<3)(ho:opB a m p=a4) :
  ∃pl,Wo ws pr wt a m pl p/\evP 1000 G T (n+6) "least_plan_at" [q9 p,qD ws a,.fn "whole_cost_of_ask" [.dct wk (wv.map D.int),.lst (pr.map D.int)],.dct (PK (a5 m 2)) (((PK (a5 m 2)).map (Wp pr wt a m)).map D.int)]=.val (pD pl):=by
 have sp:evP 1000 G T (n+5) "settled_by" [.tup [.tup (ws.map D.str),.tup (a.map D.int)],q9 p]=.val (stD a p m):=O2 (n:=n) hm ha hp hp3;obtain⟨b,eb⟩:=j6f ho;refine⟨.tell b,eb,?_⟩;rw[eb]at sp;simp only[q9]at sp;rw[jd (F:=Ja) (by rfl) rfl];simp only[Ja,Jb,enter,qD,q9];ext;erw[sp,j6c];rfl
theorem jdz{wt:List Int->Int}{wk:List (List Int)}{wv:List Int}{ws:List ah}{a pr:List Int}{m:Nat}(hw:ws.length=m)(hm:1<=m/\m<=6)(ha:a.length=2^m)(h01:∀x∈a,x=0\/x=1)(hr:pr.length=m)(hW:∀q:List Int,q.length=m->(∀t∈q,0<=t/\t<3)->Vw pr/\zg wk (wv.map D.int) q=a3 (.int (wt q))):∀(k n:Nat)(p:List Int),qp p=k->p.length=m->(∀t∈p,0<=t/\t<3) ->
  ∃pl,Wo ws pr wt a m pl p/\evP 1000 G T (n+k+6) "least_plan_at" [q9 p,qD ws a,.fn "whole_cost_of_ask" [.dct wk (wv.map D.int),.lst (pr.map D.int)],.dct (PK (a5 m 2)) (((PK (a5 m 2)).map (Wp pr wt a m)).map D.int)]=.val (pD pl):=by
 intro k;induction k with
 |zero =>
  intro n p hk hp hp3;cases ho:opB a m p with
  |true =>have ne:=Vo h01 hp hp3 ho;have:=Ro p;rw[hp]at this;rw[show(p.countP λt=>t==2)=0 from hk]at this;exact absurd (List.length_eq_zero_iff.mp this) ne
  |false=>exact Np (n:=n+0) hm ha hp hp3 ho
 |succ k ih =>
  intro n p hk hp hp3;cases ho:opB a m p with
  |false=>exact Np (n:=n+(k+1)) hm ha hp hp3 ho
  |true =>
   have sp:evP 1000 G T (n+k+6) "settled_by" [.tup [.tup (ws.map D.str),.tup (a.map D.int)],q9 p]=.val (stD a p m):=O2 (n:=n+k+1) hm ha hp hp3;rw[jd5 ho]at sp;obtain⟨s,hs,mn,ce⟩:=Mt (n:=n+k+2) (p:=p) (pr:=pr) (ks:=PK (a5 m 2)) (ns:=(PK (a5 m 2)).map (Wp pr wt a m)) (V0:=λs=>Wp pr wt a m (p.set s 0)) (V1:=λs=>Wp pr wt a m (p.set s 1)) (hW p hp hp3) nofun nofun (by rw[hp];exact Vo h01 hp hp3 ho)
    (λs _ _=>⟨Li (vm hp hp3 (.inl rfl)).1 (vm hp hp3 (.inl rfl)).2,Li (vm hp hp3 (.inr rfl)).1 (vm hp hp3 (.inr rfl)).2⟩)
   rw[hp]at hs mn ce;obtain⟨q1,q2⟩:=Xk.mp hs;have hs':=Xb.mp q1;have h2:p.getD s 0=2:=of_decide_eq_true q2;have c0:qp (p.set s 0)+1=qp p:=Q8 nofun h2 (.inl rfl);have c1:qp (p.set s 1)+1=qp p:=Q8 nofun h2 (.inr rfl);obtain⟨pl0,b0,e0⟩:=ih n (p.set s 0) nofun (vm hp hp3 (.inl rfl)).1 (vm hp hp3 (.inl rfl)).2;obtain⟨pl1,b1,e1⟩:=ih n (p.set s 1) nofun (vm hp hp3 (.inr rfl)).1 (vm hp hp3 (.inr rfl)).2;have t0:=Ux (n:=n+k+5) (p:=p) (s:=s) (v:=0) nofun nofun h2;have t1:=Ux (n:=n+k+5) (p:=p) (s:=s) (v:=1) nofun nofun h2;have gw:ws[s]?=a3 (ws[s]'nofun):=kh nofun
   have ga:atI (ws.map D.str) (s:Int)=a3 (.str (ws[s]'nofun)):=J8 (by rw[xx,gw];rfl);refine⟨.ask (ws[s]'nofun) pl0 pl1,⟨ho,s,hs,gw,(Lx hp hp3 ho).trans mn,b0,b1⟩,?_⟩;simp only[q9,qD]at sp ce e0 e1 t0 t1 ⊢;rw[show n+(k+1)+6=(n+k+6)+1 by omega,jd (F:=Ja) (by rfl) rfl];simp only[Ja,Jb,enter];ext;erw[sp,ce,at1,t0];rw[V6 rfl,e0];ext;rw[t1];ext;rw[V6 rfl,e1];ext;erw[at0,ga,jbv];rfl
theorem Qm(m:Nat):∀t∈a5 m (2:Int),0<=t/\t<3:=λt ht=>by rw[(List.mem_replicate.mp ht).2];decide
theorem j9x{wt:List Int->Int}{wk:List (List Int)}{wv:List Int}{n m:Nat}{ws:List ah}{a pr:List Int}(hw:ws.length=m)(hm:1<=m/\m<=6)(ha:a.length=2^m)(h01:∀x∈a,x=0\/x=1)(hr:pr.length=m)(hW:∀q:List Int,q.length=m->(∀t∈q,0<=t/\t<3)->Vw pr/\zg wk (wv.map D.int) q=a3 (.int (wt q))) :
  ∃pl,Wo ws pr wt a m pl (a5 m 2)/\evP 1000 G T (n+13) "least_plan" [qD ws a,.fn "whole_cost_of_ask" [.dct wk (wv.map D.int),.lst (pr.map D.int)]]=.val (pD pl):=by
 have t2:qp (a5 m 2)<=6:=Xl ip (by rw[Xg];exact hm.2);obtain⟨pl,hb,e⟩:=jdz hw hm ha h01 hr hW (qp (a5 m 2)) (n+6-qp (a5 m 2)) (a5 m 2) rfl (Xg ..) (Qm m);refine⟨pl,hb,?_⟩;rw[show n+6-qp (a5 m 2)+qp (a5 m 2)+6=n+12 by omega]at e;have ao:=Ba (n:=n+11) (a:=a) hm hw;have nm:=Nr (n:=n+5) hw hm ha h01 hr (Xg ..) (Qm m) hW;rw[jd (F:=Yp) (by rfl) rfl];simp only[Yp,Zt,enter];ext;erw[ao,nm];rw[V6 rfl,e];ext
noncomputable def wsum(w:List Int)(m:Nat)(p:List Int):Int:=((inL p m).map λ(k:Nat)=>w.getD k 0).sum
theorem jbx(m:Nat):(a5 m [D.tup [.int 0,.int 1,.int 2]]).flatten=ql ((a5 m (2:Int)).map Jd):=by
 induction m with
 |zero=>rfl
 |succ k ih=>rw[Xv,Te,ih];rfl
theorem j9q {n m:Nat} (h:1<=m/\m<=6):evP 1000 G T (n+2) "parts_of" [.int m]=.fresh (ql (PK (a5 m 2))):=by rw[jd (F:=Wh) (by rfl) rfl];simp only[Wh,Y8,enter];ext;rw[j6n (n:=n) nofun];ext;simp only[gT];ext;rw[X6,jbx,Ur Ry (λf hf=>by obtain⟨t,_,rfl⟩:=Xm.mp hf;unfold Jd;split<;>simp) (by rw[km,Xg];omega)];ext;rw[Z7];rfl
theorem j62{f2:En->Option D}{A B:D}{L:List (List Int)}{W:List Int->Int}(hm:L.length<=1000000)(nd:L.Nodup)
  (h2:∀(q:List Int)(d:D),q∈L->f2 [.val A,.val B,.val d,.val (.tup (q.map D.int)),.un]=a3 (.int (W q))) :
  ∀(r i:Nat)(s3:Sv),i+r=L.length->Vx f2 2 3 (ql (L.drop i)) [.val A,.val B,.un,s3,.un] (L.take i) ((L.take i).map W)=a3 (L,L.map W):=by
 intro r;induction r with
 |zero =>intro i s3 e;rw[lD]at e;rw[i4 nofun,T6 nofun];rfl
 |succ r ih =>
  intro i s3 e;have hi:i<L.length:=by omega
  have ed:L.drop i=L[i]::L.drop (i+1):=Py hi;have et:L.take (i+1)=L.take i++[L[i]]:=by rw[Tw,kh hi];rfl
  have nc:(L.take i).contains L[i]=a4:=by
   have nd:=nd;rw[<-eB i L,ed]at nd;have:=(gj.mp nd).2.2;cases z:(L.take i).contains L[i] with
   |false=>rfl
   |true=>exact absurd rfl (this _ (by simpa using z) _ xq)
  have ll:(L.take i).length<ak:=lt_size (by rw[Xq];omega);have g:=ih (i+1) (.val (.tup (L[i].map D.int))) nofun
  rw[et,Xe,xm,bY]at g;rw[ed,ql,xm,<-ql,Vx];simp only[q9,Jk,Pq,Pb,h2 _ _ (pq hi)];rw[if_pos ⟨nc,ll⟩];exact g
theorem j2k{n m:Nat}{w:List Int}(hm:1<=m/\m<=6)(hl:w.length=2^m) :
  evP 1000 G T (n+4) "weights_by_part" [.int m,.lst (w.map D.int)]=.val (.dct (PK (a5 m 2)) (((PK (a5 m 2)).map (wsum w m)).map D.int)):=by
 rw[jd (F:=Qx) (by rfl) rfl];simp only[Qx,Jm,enter];have pk:=j9q (n:=n+1) hm;have p3:=O7 hm.2;have p2:=Kg hm.2;have pc:((2^m:Nat):Int)=(2:Int)^m:=by simp
 have pl:=j1f (p:=a5 m 2);rw[Xg]at pl;have pok:∀q∈PK (a5 m 2),q.length=m/\∀t∈q,0<=t/\t<3:=λq hq=>by have:=j0c (Qm m) hq;rw[Xg]at this;exact this
 have hd:=j62 (f2:=λρ=>stOf (ev (evP 1000 G T (n+3)) G (.blt .sum (.cons (.comp [4] (.ix (.var 1) (.call "row_number" (.cons (.var 4) .nil))) (.seq (.call "rows_in" (.cons (.var 3) .nil))) .nil) .nil)) ρ))
  (A:=.int m) (B:=.lst (w.map D.int)) (L:=PK (a5 m 2)) (W:=wsum w m) nofun (j1e (Qm m))
  (λq d hq=>by
   obtain⟨q1,q2⟩:=pok q hq
   have ri:evP 1000 G T (n+3) "rows_in" [q9 q]=.fresh (ql (qw (q.map Ze))):=Nm (n:=n+1) j43 Ry gN gA nofun
   rw[Uj q1 q2]at ri
   have l:=j42 q1 q2
   simp only[q9]at ri
   ext
   rw[ri]
   ext
   rw[qj (l:=((inL q m).map λ(k:Nat)=>w.getD k 0).map D.int) (by rfl) (by simp only[ql,km];omega) ?_ (.inl rfl)]
   .ext
    rfl
   .rw[ql,Xj,Xj]
    refine qi λk hk'=>zj (by ext) ?_
    have hk:=Xb.mp (Xk.mp hk').1
    have rn:=O4 (n:=n+1) (z:=(k:Int)) hm nofun
    have g:=Uk (p:=w) (k:=k) nofun
    simp only[df]
    ext
    rw[rn]
    ext
    rw[g]
    ext)
  (PK (a5 m 2)).length 0 .un (Pj _)
 have hi:ev (evP 1000 G T (n+3)) G (.seq (.call "parts_of" (.cons (.var 0) .nil))) [.val (.int m),.val (.lst (w.map D.int)),.un,.un,.un]=a3 (.i (ql (PK (a5 m 2)))):=by ext;rw[pk];ext
 have ru:=j6k (fu:=1000) (Γ:=evP 1000 G T (n+3)) (G:=G) (ρ:=[.val (.int m),.val (.lst (w.map D.int)),.un,.un,.un]) (x:=2) (t:=3) ⟨by simp,by simp,by decide⟩ hi hd;exact congrArg fin ru
noncomputable def wfn(pr w:List Int)(m:Nat):D:=.fn "whole_cost_of_ask" [.dct (PK (a5 m 2)) (((PK (a5 m 2)).map (wsum w m)).map D.int),.lst (pr.map D.int)]
theorem j0o {n m:Nat} {ws:List ah} {a pr w:List Int} {d:D} (hw:ws.length=m) (hm:1<=m/\m<=6) (hl:w.length=2^m) (h0:w.all (btw 0)=a6) (hs:w.sum≠0) (hp:evP 1000 G T (n+4) "prices_told" [.int m,d]=.fresh (pr.map D.int)) :
  evP 1000 G T (n+5) "whole_cost_of_ask" [qD ws a,.lst (w.map D.int),d]=.val (wfn pr w m):=by
 have rf:=jdr (n:=n) hm hl h0 hs;have bp:=j2k (n:=n) hm hl;rw[jd (F:=Qe) (by rfl) rfl];simp only[Qe,J5,enter,qD];ext;rw[at0];ext;rw[hw,hp];ext;erw[rf,bp];rfl
theorem j61 {n m:Nat} {ws:List ah} {a pr w:List Int} {d:D} (hw:ws.length=m) (hm:1<=m/\m<=6) (ha:a.length=2^m) (h01:∀x∈a,x=0\/x=1) (hr:pr.length=m) (hq:Vw pr) (hl:w.length=2^m) (h0:w.all (btw 0)=a6) (hs:w.sum≠0) (hp:evP 1000 G T (n+7) "prices_told" [.int m,d]=.fresh (pr.map D.int)) :
  evP 1000 G T (n+9) "whole_table" [qD ws a,.lst (w.map D.int),d]=.val (.tup (((PK (a5 m 2)).map (Wp pr (wsum w m) a m)).map D.int)):=by
 have wc:=j0o (n:=n+3) (a:=a) hw hm hl h0 hs hp;have nm:=Nr (n:=n) hw hm ha h01 hr (Xg ..) (Qm m) (λq q1 q2=>⟨hq,Li (f:=wsum w m) q1 q2⟩);have ao:=Ba (n:=n+6) (a:=a) hm hw;have tb:evP 1000 G T (n+8) "least_table" [qD ws a,wfn pr w m]=.val (.tup (((PK (a5 m 2)).map (Wp pr (wsum w m) a m)).map D.int)):=by rw[jd (F:=Vq) (by rfl) rfl];simp only[Vq,Zb,enter,wfn];ext;erw[ao,nm]
 rw[jd (F:=Vp) (by rfl) rfl];simp only[Vp,Z9,enter];ext;erw[wc,tb]
theorem j8t {n m:Nat} {ws:List ah} {a pr w:List Int} {d:D} (hw:ws.length=m) (hm:1<=m/\m<=6) (ha:a.length=2^m) (h01:∀x∈a,x=0\/x=1) (hr:pr.length=m) (hq:Vw pr) (hl:w.length=2^m) (h0:w.all (btw 0)=a6) (hs:w.sum≠0) (hp:evP 1000 G T (n+12) "prices_told" [.int m,d]=.fresh (pr.map D.int)) :
  ∃pl,Wo ws pr (wsum w m) a m pl (a5 m 2)/\evP 1000 G T (n+14) "whole_plan" [qD ws a,.lst (w.map D.int),d]=.val (pD pl):=by
 have wc:=j0o (n:=n+8) (a:=a) hw hm hl h0 hs hp;obtain⟨pl,hb,e⟩:=j9x (n:=n) hw hm ha h01 hr (λq q1 q2=>⟨hq,Li (f:=wsum w m) q1 q2⟩);refine⟨pl,hb,?_⟩;rw[jd (F:=Yl) (by rfl) rfl];simp only[Yl,Zn,enter];ext;rw[wc];simp only[wfn];ext;rw[e];ext
theorem Kz(a b:Nat):d5 a b=d5 b (a%b):=by rw[lC a b,Nat.gcd_rec b a,lC]
theorem jan{b r k:Nat}(hr:0<r)(h:r<b)(hb:b<2^(k+1)):b%r<2^k:=by
 have h1:=mE b hr;have h2:b%r+r<=b:=by have e:=Nat.div_add_mod b r;have:1<=b/r:=(Nat.one_le_div_iff hr).mpr (cJ h);have:r*1<=r*(b/r):=Nat.mul_le_mul_left r this;omega
 rw[T4]at hb;omega
theorem euclid{c:En->Option Bool}{f:En->So}(S:Nat->Nat->En->Prop)(h0:∀a ρ,S a 0 ρ->c ρ=a3 a4)(h1:∀a b ρ,0<b->b<1125899906842624->S a b ρ->c ρ=a3 a6/\∃ρ',f ρ=.next ρ'/\S b (a%b) ρ') :
  ∀(k a b fu:Nat)(ρ:En),k<=50->b<2^k->2*k<fu->S a b ρ->∃ρ',qx c f fu ρ=.next ρ'/\S (d5 a b) 0 ρ':=by
 intro k;induction k with
 |zero =>
  intro a b fu ρ hk hb hf hS;have:b=0:=by simpa using hb
  subst this;obtain⟨q,rfl⟩:∃q,fu=q+1:=⟨fu-1,by omega⟩
  rw[qx,h0 a ρ hS];exact⟨ρ,rfl,by rw[fh];exact hS⟩
 |succ k ih =>
  intro a b fu ρ hk hb hf hS;have lim:2^(k+1)<=1125899906842624:=by
   have:(2:Nat)^50=1125899906842624:=by decide
   rw[<-this];exact cR (by decide) hk
  obtain⟨q,rfl⟩:∃q,fu=q+2:=⟨fu-2,by omega⟩
  by_cases z:b=0
  .subst z;rw[qx,h0 a ρ hS];exact⟨ρ,rfl,by rw[fh];exact hS⟩
  .obtain⟨e1,ρ1,e2,S1⟩:=h1 a b ρ nofun nofun hS;rw[qx,e1];dsimp only;rw[e2];dsimp only;have hr:=mE a (show 0<b by omega);by_cases z2:a%b=0
   .rw[z2]at S1;rw[qx,h0 b ρ1 S1];exact⟨ρ1,rfl,by rw[Kz,z2,fh];exact S1⟩
   .obtain⟨e3,ρ2,e4,S2⟩:=h1 b (a%b) ρ1 nofun nofun S1;rw[qx,e3];dsimp only;rw[e4];dsimp only;obtain⟨ρ',e5,S3⟩:=ih (a%b) (b%(a%b)) q ρ2 nofun (jan nofun hr hb) nofun S2;exact⟨ρ',e5,by rw[Kz a b,Kz b (a%b)];exact S3⟩
theorem ji2{b:Nat}(h:b<1125899906842624):b<2^50:=by
 have:(2:Nat)^50=1125899906842624:=by decide
 omega
theorem j7n{a b:Nat}(h:1<=b/\b<1125899906842624):1<=d5 a b/\d5 a b<1125899906842624:=by
 have h1:=Nat.gcd_pos_of_pos_right (n:=b) a nofun
 have h2:=Nat.gcd_le_right (n:=b) a nofun
 omega
theorem j34 {n a b:Nat} (hb:b<1125899906842624):evP 1000 G T (n+1) "common_divisor" [.int a,.int b]=.val (.int (d5 a b:Nat)):=by
 rw[jd (F:=Zh) (by rfl) rfl];simp only[Zh,Jt,enter];ext;rw[Bh];obtain⟨ρ',e,S⟩:=euclid (c:=λρ=>truth (ev (evP 1000 G T n) G (.cmp .ne (.var 1) (.lit (.int 0))) ρ)) (f:=run 1000 (evP 1000 G T n) G (.seq (.set 2 (.bin .mod (.var 0) (.var 1))) (.seq (.mov 0 1) (.seq (.mov 1 2) .nop))))
  (λa b ρ=>∃s,ρ=[.val (.int (a:Nat)),.val (.int (b:Nat)),s]) (λa ρ ⟨s,e⟩=>by subst e;ext) (λa b ρ h1 h2 ⟨s,e⟩=>by
   subst e
   constructor
   .ext
   .ext
    exact⟨_,rfl,_,rfl⟩) 50 a b 1000 [.val (.int a),.val (.int b),.un] (xu _) (ji2 hb) (by decide) ⟨_,rfl⟩
 obtain⟨s,rfl⟩:=S;rw[e];ext
theorem j26 {n a b:Nat} (hb:b<1125899906842624):evP 1000 G T (n+1) "_law_divisor" [.int a,.int b]=.val (.int (d5 a b:Nat)):=by
 rw[jd (F:=M7) (by rfl) rfl];simp only[M7,Yz,enter];ext;rw[Bh];obtain⟨ρ',e,S⟩:=euclid (c:=λρ=>truth (ev (evP 1000 G T n) G (.cmp .gt (.var 1) (.lit (.int 0))) ρ)) (f:=run 1000 (evP 1000 G T n) G (.seq (.par 0 1 (.var 1) (.bin .mod (.var 0) (.var 1))) .nop))
  (λa b ρ=>ρ=[.val (.int (a:Nat)),.val (.int (b:Nat))]) (λa ρ e=>by subst e;ext) (λa b ρ h1 h2 e=>by
   subst e
   constructor
   .ext
   .ext
    exact⟨_,rfl,rfl⟩) 50 a b 1000 [.val (.int a),.val (.int b)] (xu _) (ji2 hb) (by decide) rfl
 subst S;rw[e];ext
theorem j07 {n a b:Nat} (hb:1<=b/\b<1125899906842624):evP 1000 G T (n+2) "fraction" [.int a,.int b]=.val (.tup [.int ((a:Int)/(d5 a b:Nat)),.int ((b:Int)/(d5 a b:Nat))]):=by rw[jd (F:=Wj) (by rfl) rfl];simp only[Wj,Yb,enter];have g:=j7n (a:=a) hb;ext;rw[j34 hb.2];ext
theorem Lz{w:List Int}(h:w.all (btw 0)=a6)(m:Nat)(p:List Int):0<=wsum w m p:=by
 unfold wsum;have nn:∀k:Nat,0<=w.getD k 0:=λk=>by
  rw[kj];cases z:w[k]? with
  |none=>exact t8 _
  |some x =>have:=Xy.mp h x (Xf z);unfold btw at this;exact of_decide_eq_true (Xd _ _▸this).1
 induction inL p m with
 |nil=>exact t8 _
 |cons k l ih =>rw[xm,Xr];have:=nn k;omega
theorem jk6{pr a:List Int}{wt:List Int->Int}{m:Nat}(h01:∀x∈a,x=0\/x=1)(hpr:∀s,s<m->0<=pr.getD s 0)(hwt:∀q,0<=wt q):∀(k:Nat)(p:List Int),qp p=k->p.length=m->(∀t∈p,0<=t/\t<3)->0<=Wp pr wt a m p:=by
 intro k;induction k with
 |zero =>
  intro p hk hp hp3;cases z:opB a m p with
  |false=>rw[Vv hp hp3 z];exact t8 _
  |true =>have ne:=Vo h01 hp hp3 z;have:=Ro p;rw[hp]at this;rw[show(p.countP λt=>t==2)=0 from hk]at this;exact absurd (List.length_eq_zero_iff.mp this) ne
 |succ k ih =>
  intro p hk hp hp3;cases z:opB a m p with
  |false=>rw[Vv hp hp3 z];exact t8 _
  |true =>have ne:=Vo h01 hp hp3 z;rw[Lx hp hp3 z];obtain⟨s,hs,e⟩:=Xm.mp (Fw (ns:=(qg p m).map λs=>pr.getD s 0*wt p+(Wp pr wt a m (p.set s 0)+Wp pr wt a m (p.set s 1))) (by simpa using ne)).1;rw[<-e];obtain⟨q1,q2⟩:=Xk.mp hs;have s1:=Xb.mp q1;have s2:p.getD s 0=2:=of_decide_eq_true q2;have c0:qp (p.set s 0)+1=qp p:=Q8 nofun s2 (.inl rfl);have c1:qp (p.set s 1)+1=qp p:=Q8 nofun s2 (.inr rfl);have i0:=ih (p.set s 0) nofun (vm hp hp3 (.inl rfl)).1 (vm hp hp3 (.inl rfl)).2;have i1:=ih (p.set s 1) nofun (vm hp hp3 (.inr rfl)).1 (vm hp hp3 (.inr rfl)).2;have h:=kD (hpr s s1) (hwt p);omega
theorem j3o:∀m:Nat,(PK (a5 m 2)).getLast?=a3 (a5 m 2)
 |0=>rfl
 |m+1=>by
  have ek:PK (a5 (m+1) 2)=((PK (a5 m 2)).map (0 :: ·)++(PK (a5 m 2)).map (1 :: ·))++(PK (a5 m 2)).map (2 :: ·):=by unfold PK;rw[Xv,xm,Jc];simp[Jd]
  rw[ek,iC,jG,j3o m,Xv];rfl
theorem atL{t:List Int}{x:Int}(h:t.getLast?=a3 x):atI (t.map D.int) (-1)=a3 (.int x):=by
 have hn:t≠[]:=λe=>by rw[e]at h;cases h
 have hl:0<t.length:=List.length_pos_iff.mpr hn;unfold atI ixN;rw[km,if_neg (by decide),if_pos nofun];show(t.map D.int)[_]?=_;rw[show(-1+(t.length:Int)).toNat=t.length-1 by omega,xx,<-List.getLast?_eq_getElem?,h];rfl
theorem jed {n m:Nat} {ws:List ah} {a pr w:List Int} {d:D} (hw:ws.length=m) (hm:1<=m/\m<=6) (ha:a.length=2^m) (h01:∀x∈a,x=0\/x=1) (hr:pr.length=m) (hq:Vw pr) (hl:w.length=2^m) (h0:w.all (btw 0)=a6) (hs:w.sum≠0) (hp:evP 1000 G T (n+7) "prices_told" [.int m,d]=.fresh (pr.map D.int)) (g:Nat) (hg:g=d5 (Wp pr (wsum w m) a m (a5 m 2)).toNat w.sum.toNat) :
  evP 1000 G T (n+10) "mean_price" [qD ws a,.lst (w.map D.int),d]=.val (.tup [.int (Wp pr (wsum w m) a m (a5 m 2)/(g:Int)),.int (w.sum/(g:Int))]):=by
 have tb:=j61 hw hm ha h01 hr hq hl h0 hs hp;have la:atI (((PK (a5 m 2)).map (Wp pr (wsum w m) a m)).map D.int) (-1)=a3 (.int (Wp pr (wsum w m) a m (a5 m 2))):=atL (by rw[jG,j3o];rfl);have nn:=jk6 (a:=a) (wt:=wsum w m) h01 (λs hs=>(hq s nofun).1) (Lz h0 m) _ (a5 m 2) rfl (Xg ..) (Qm m);have sb:0<=w.sum/\w.sum<=1000000*(w.length:Int):=by
  have:∀l:List Int,l.all (btw 0)=a6->0<=l.sum/\l.sum<=1000000*(l.length:Int):=λl=>by
   induction l with
   |nil=>intro _;exact⟨t8 _,t8 _⟩
   |cons x l ih =>intro h;rw[Tz,Xd]at h;obtain⟨i1,i2⟩:=ih h.2;have h1:=h.1;unfold btw at h1;rw[Xd]at h1;have x1:=of_decide_eq_true h1.1;have x2:=of_decide_eq_true h1.2;rw[Xr,X7];omega
  exact this w h0
 have p6:=p64 hm.2;have e1:(((Wp pr (wsum w m) a m (a5 m 2)).toNat:Nat):Int)=Wp pr (wsum w m) a m (a5 m 2):=Tj nn;have e2:((w.sum.toNat:Nat):Int)=w.sum:=Tj sb.1;have fr:=j07 (n:=n+7) (a:=(Wp pr (wsum w m) a m (a5 m 2)).toNat) (b:=w.sum.toNat) nofun
 rw[e1,e2,<-hg]at fr;rw[jd (F:=Yo) (by rfl) rfl];simp only[Yo,Zr,enter];ext;erw[tb,la,fr]
theorem Zm {n k:Nat} (hk:k<=6):evP 1000 G T (n+1) "_law_threes" [.int k]=.val (.int ((3^k:Nat):Int)):=by
 rw[jd (F:=Oj) (by rfl) rfl];simp only[Oj,Wc,enter];ext;rw[Fx (λi=>[.val (.int k),.val (.int ((3^i:Nat):Int)),if i=0 then .un else .val (.int ((i:Int)-1))]) (by simp)]
 .ext;rw[jn];simp
 .intro i d hi;obtain⟨h1,rfl⟩:=Vj hi;simp only[zu];ext;have e:(3:Int)*((3^i:Nat):Int)=((3^(i+1):Nat):Int):=by rw[T4,cW,d6];rfl
  rw[e];simp
theorem Nu {n m:Nat} {z:Int} (hm:m<=6):evP 1000 G T (n+1) "_law_digits" [.int m,.int z]=.fresh ((j5 3 m z).map D.int):=by
 rw[jd (F:=Om) (by rfl) rfl];simp only[Om,We,enter];ext;rw[Fx (λi=>[.val (.int m),.val (.int (z/3^i)),.own ((j5 3 i z).map .int),if i=0 then .un else .val (.int ((i:Int)-1))]) (by simp[j5])]
 .ext;rw[jn];simp
 .intro i d hi;obtain⟨h1,rfl⟩:=Vj hi;have hl:(j5 3 i z).length=i:=jw 3 i z;simp only[zu];ext;rw[Dj z 3 (by decide),j5];simp
noncomputable def stp(m i s:Nat):D:=.tup [.int (s:Int),.int ((i:Int)-2*((3^(m-1-s):Nat):Int)),.int ((i:Int)-((3^(m-1-s):Nat):Int))]
noncomputable def opU(p:List Int)(j:Nat):List Nat:=(aq j).filter λ(k:Nat)=>decide (p.getD k 0=2)
theorem jhs{p:List Int}{j:Nat}(h:p.getD j 0=2):opU p (j+1)=opU p j++[j]:=by rw[opU,opU,cT,ck];congr 1;exact Pk (decide_eq_true h)
theorem je6{p:List Int}{j:Nat}(h:¬p.getD j 0=2):opU p (j+1)=opU p j:=by rw[opU,opU,cT,ck];have e:[j].filter (λ(k:Nat)=>decide (p.getD k 0=2))=[]:=Pa (λz=>h (of_decide_eq_true z));rw[e,Xx]
theorem je7(p:List Int)(j:Nat):(opU p j).length<=j:=Xl (t7 _ _) (by rw[Xh];exact xu _)
theorem Rj {n m i:Nat} (hm:m<=6):evP 1000 G T (n+2) "_law_steps" [.int m,.int i]=.fresh ((qg (j5 3 m (i:Int)) m).map (stp m i)):=by
 rw[jd (F:=Df) (by rfl) rfl];simp only[Df,Mp,enter];ext;rw[Nu (n:=n) hm];ext;have hl:(j5 3 m (i:Int)).length=m:=jw 3 m _;refine Zw (λj ρ=>∃s4 s5,ρ=[.val (.int m),.val (.int i),.own ((j5 3 m (i:Int)).map D.int),.own ((opU (j5 3 m (i:Int)) j).map (stp m i)),s4,s5]) ⟨_,_,rfl⟩ ?_ ?_
 .rintro j d ρ hj ⟨s4,s5,rfl⟩;obtain⟨h1,rfl⟩:=Vj hj;have h1:j<m:=by omega
  have g:=Uk (p:=j5 3 m (i:Int)) (k:=j) nofun
  have ol:=je7 (j5 3 m (i:Int)) j;simp only[zu];ext;rw[Tn,g];by_cases h2:(j5 3 m (i:Int)).getD j 0=2
  .have t:=Zm (n:=n) (k:=m-1-j) nofun
   have e:(m:Int)-1-(j:Int)=((m-1-j:Nat):Int):=by omega
   ext;rw[e,t];ext;refine⟨_,rfl,.val (.int (j:Int)),.val (.int ((3^(m-1-j):Nat):Int)),?_⟩;rw[jhs h2,Xe];rfl
  .ext;refine⟨_,rfl,.val (.int (j:Int)),s5,?_⟩;rw[je6 h2]
 .rintro ρ ⟨s4,s5,rfl⟩;ext;rw[jn];simp[opU,qg]
theorem Cd{P P0 P1:Nat->Bool}{f:Nat->Int}:∀{L:List Nat},(∀k∈L,(P0 k=a6->P1 k=a4)/\(P k=(P0 k || P1 k)))->((L.filter P).map f).sum=((L.filter P0).map f).sum+((L.filter P1).map f).sum
 |[],_=>rfl
 |k::L,q=>by
  have ih:=Cd (P:=P) (P0:=P0) (P1:=P1) (f:=f) (L:=L) λj hj=>q j (xf _ hj);obtain⟨q1,q2⟩:=q k (xq ..);cases e1:P0 k with
  |true =>have e2:=q1 e1;rw[e1,e2]at q2;rw[Pk (by rw[q2];rfl),Pk e1,Pa (by rw[e2];exact xg),xm,xm,Xr,Xr,ih];omega
  |false =>
   cases e2:P1 k with
   |true =>rw[e1,e2]at q2;rw[Pk (by rw[q2];rfl),Pk e2,Pa (by rw[e1];exact xg),xm,xm,Xr,Xr,ih];omega
   |false =>rw[e1,e2]at q2;rw[Pa (by rw[q2];exact xg),Pa (by rw[e1];exact xg),Pa (by rw[e2];exact xg),ih]
theorem j1x{p:List Int}{m s:Nat}{f:Nat->Int}(hp:p.length=m)(hs:s<m)(h2:p.getD s 0=2):((inL p m).map f).sum=((inL (p.set s 0) m).map f).sum+((inL (p.set s 1) m).map f).sum:=by unfold inL;refine Cd λk hk=>?_;have l:=jw 2 m (k:Int);have b:=j0j (j5l m (k:Int)) s;rw[M3 nofun nofun h2 (by decide),M3 nofun nofun h2 (by decide)];rcases b with e|e<;>rw[e]<;>cases fits p (j5 2 m (k:Int))<;>simp
theorem Dt{w p:List Int}{m s:Nat}(hp:p.length=m)(hs:s<m)(h2:p.getD s 0=2):wsum w m p=wsum w m (p.set s 0)+wsum w m (p.set s 1):=j1x hp hs h2
theorem j2c{a p:List Int}{m:Nat}(h01:∀x∈a,x=0\/x=1):((cnt a p m 1:Nat):Int)=wsum a m p:=by
 unfold cnt wsum;have g:∀k:Nat,a.getD k 0=0\/a.getD k 0=1:=λk=>by
  rw[kj];cases z:a[k]? with
  |none=>exact .inl rfl
  |some x=>exact h01 x (Xf z)
 induction inL p m with
 |nil=>rfl
 |cons k l ih =>rw[Pu,xm,Xr,<-ih];rcases g k with e|e<;>rw[e]<;>simp<;>omega
theorem jcv{w:List Int}(h:w.all (btw 0)=a6){m:Nat}(hm:m<=6)(p:List Int):wsum w m p<=64000000:=by
 have nn:∀k:Nat,w.getD k 0<=1000000:=λk=>by
  rw[kj];cases z:w[k]? with
  |none=>decide
  |some x =>have:=Xy.mp h x (Xf z);unfold btw at this;rw[Xd]at this;exact of_decide_eq_true this.2
 have l:∀L:List Nat,((L.map λ(k:Nat)=>w.getD k 0)).sum<=1000000*(L.length:Int):=λL=>by
  induction L with
  |nil=>exact t8 _
  |cons k L ih =>rw[xm,Xr,X7];have:=nn k;omega
 have:=l (inL p m);have le:(inL p m).length<=2^m:=Xl (t7 _ _) (by rw[Xh];exact xu _);have p6:=p64 hm;unfold wsum;omega
noncomputable def onW(x:List Int)(m j:Nat):D:=.tup [.int (wsum x m (j5 3 m (j:Int))),.int ((2^qp (j5 3 m (j:Int)):Nat):Int)]
theorem R9{x:List Int}{m i j:Nat}(h:j<i):atI ((aq i).map (onW x m)) (j:Int)=a3 (onW x m j):=J8 (by rw[xx,t6 h];rfl)
theorem jk2(x y z:D):atI [x,y,z] 0=a3 x:=rfl
theorem jk1(x y z:D):atI [x,y,z] 1=a3 y:=rfl
theorem jk0(x y z:D):atI [x,y,z] 2=a3 z:=rfl
theorem j2o(x:D)(l:List D):atI (x::l) 0=a3 x:=by have:=J8 (xs:=x::l) (n:=0) rfl;exact this
theorem Rp {n m:Nat} {ws:List ah} {a:List Int} {d:D} (hd:d=.tup (a.map D.int)\/d=.lst (a.map D.int)) (hw:ws.length=m) (hm:1<=m/\m<=6) (ha:a.length=2^m):evP 1000 G T (n+3) "_law_ones" [.tup [.tup (ws.map D.str),d]]=.fresh ((aq (3^m)).map (onW a m)):=by
 rw[jd (F:=Ib) (by rfl) rfl];simp only[Ib,N6,enter];ext;erw[at0,hw];rw[Zm (n:=n+1) hm.2];have p3:=O7 hm.2;ext;refine Zw (λi ρ=>∃s3 s4 s5 s6 s7 s8,ρ=[.val (.tup [.tup (ws.map D.str),d]),.val (.int m),.own ((aq i).map (onW a m)),s3,s4,s5,s6,s7,s8]) ⟨_,_,_,_,_,_,rfl⟩ ?_ ?_
 .rintro i dd ρ hi ⟨s3,s4,s5,s6,s7,s8,rfl⟩;obtain⟨h1,rfl⟩:=Vj hi;have hi:i<3^m:=by rw[X6]at h1;exact h1
  have hl:(j5 3 m (i:Int)).length=m:=jw 3 m _;have h3:∀t∈j5 3 m (i:Int),0<=t/\t<3:=λt ht=>Vc (by decide) ht;have ol:(qg (j5 3 m (i:Int)) m).length=qp (j5 3 m (i:Int)):=by have:=Ro (j5 3 m (i:Int));rw[hl]at this;exact this
  have rl:(aq i).length=i:=Xh;simp only[zu];ext;rw[Tn,Rj (n:=n) hm.2];ext;cases z:qg (j5 3 m (i:Int)) m with
  |nil =>
   rw[z]at ol;obtain⟨k,hk,ek,ik⟩:=j93 hl h3 ol.symm;have dg:=Nu (n:=n+1) (z:=(i:Int)) hm.2;ext;rw[dg];ext;have k2:(k:Int)<2^m:=by
    have:((2^m:Nat):Int)=2^m:=by simp
    rw[<-this];omega
   have z0:(k:Int)/2^m=0:=S9 nofun k2;obtain⟨ρ',el,s6',hρ⟩:=Qv (f:=N5 [6] (run 1000 (evP 1000 G T (n+2)) G (.seq (.set 5 (.bin .add (.bin .mul (.lit (.int 2)) (.var 5)) (.var 6))) .nop)))
    (λj ρ=>∃s6,ρ=[.val (.tup [.tup (ws.map D.str),d]),.val (.int m),.own ((aq i).map (onW a m)),.val (.int (i:Int)),.own [],.val (.int ((k:Int)/2^(m-j))),s6,s7,s8]) (k:=0) (ds:=(j5 3 m (i:Int)).map D.int)
    (ρ:=[.val (.tup [.tup (ws.map D.str),d]),.val (.int m),.own ((aq i).map (onW a m)),.val (.int (i:Int)),.own [],.val (.int 0),s6,s7,s8]) ⟨s6,by rw[ij,z0]⟩ (by
    rintro j d ρ hj ⟨s6,rfl⟩
    rw[Pj]
    obtain⟨v,hv,rfl⟩:=Rz hj
    rw[ek]at hv
    have hlt:j<m:=by
     have:=(X8.mp hv).1
     rw[jw]at this;exact this
    rw[Qy hlt]at hv
    cases hv
    simp only[zu]
    ext
    refine⟨_,rfl,?_⟩
    have e1:m-j=(m-1-j)+1:=by omega
    have e2:m-(j+1)=m-1-j:=by omega
    have e3:2*((k:Int)/2^(m-j))+(k:Int)/2^(m-1-j)%2=(k:Int)/2^(m-(j+1)):=by
     rw[e1,e2,<-Dj (k:Int) 2 nofun]
     exact iG _ _
    rw[e3]
    exact⟨_,rfl⟩)
   have e:(k:Int)/2^(m-(0+((j5 3 m (i:Int)).map D.int).length))=(k:Int):=by rw[km,hl,Pj,fA];simp
   rw[e]at hρ;subst hρ;have g:=Uk (p:=a) (k:=k) nofun
   rw[el];ext;rw[at1];have gd:ixW (Bv (a3 d)) (a3 (.v (.e (.int (k:Int)))))=a3 (.v (.e (.int (a.getD k 0)))):=by
    rcases hd with e|e<;>subst e
    .ext;rw[g];ext
    .ext;rw[g];ext
   rw[gd];ext;refine⟨_,rfl,.val (.int (i:Int)),.own [],.val (.int (k:Int)),s6',s7,s8,?_⟩;have c1:wsum a m (j5 3 m (i:Int))=a.getD k 0:=by unfold wsum;rw[ik];simp
   have t0:qp (j5 3 m (i:Int))=0:=ol.symm;rw[cT,Xe];show _=[_,_,Sv.own (_++[onW a m i]),_,_,_,_,_,_]
   rw[onW,c1,t0];rfl
  |cons s L =>
   have hs:s<m/\(j5 3 m (i:Int)).getD s 0=2:=by
    have:s∈qg (j5 3 m (i:Int)) m:=by rw[z];exact xq
    obtain⟨h1,h2⟩:=Xk.mp this;exact⟨Xb.mp h1,of_decide_eq_true h2⟩
   obtain⟨l0,e0⟩:=Vk (c:=0) hi hs.1 hs.2 (.inl rfl);obtain⟨l1,e1⟩:=Vk (c:=1) hi hs.1 hs.2 (.inr rfl);have w:0<3^(m-1-s):=dk (by simp);have i0:(i:Int)-2*((3^(m-1-s):Nat):Int)=((i-(2-0)*3^(m-1-s):Nat):Int):=by omega
   have i1:(i:Int)-((3^(m-1-s):Nat):Int)=((i-(2-1)*3^(m-1-s):Nat):Int):=by omega
   have g0:=R9 (x:=a) (m:=m) (i:=i) (j:=i-(2-0)*3^(m-1-s)) nofun
   have g1:=R9 (x:=a) (m:=m) (i:=i) (j:=i-(2-1)*3^(m-1-s)) nofun
   have cs:=Dt (w:=a) hl hs.1 hs.2;have c0:=Q8 (v:=0) (by rw[hl];exact hs.1) hs.2 (.inl rfl);have c1:=Q8 (v:=1) (by rw[hl];exact hs.1) hs.2 (.inr rfl);rw[show((0:Nat):Int)=0 from rfl]at e0;rw[show((1:Nat):Int)=1 from rfl]at e1;rw[e0,e1]at cs;rw[e0]at c0;rw[e1]at c1;have k1:wsum a m (j5 3 m ((i-(2-0)*3^(m-1-s):Nat):Int))+wsum a m (j5 3 m ((i-(2-1)*3^(m-1-s):Nat):Int))=wsum a m (j5 3 m (i:Int)):=cs.symm;have k2:((2^qp (j5 3 m ((i-(2-0)*3^(m-1-s):Nat):Int)):Nat):Int)+((2^qp (j5 3 m ((i-(2-1)*3^(m-1-s):Nat):Int)):Nat):Int)=((2^qp (j5 3 m (i:Int)):Nat):Int):=by have c0:qp (j5 3 m ((i-(2-0)*3^(m-1-s):Nat):Int))+1=qp (j5 3 m (i:Int)):=c0;have c1:qp (j5 3 m ((i-(2-1)*3^(m-1-s):Nat):Int))+1=qp (j5 3 m (i:Int)):=c1;rw[show qp (j5 3 m ((i-(2-1)*3^(m-1-s):Nat):Int))=qp (j5 3 m ((i-(2-0)*3^(m-1-s):Nat):Int))by omega,<-c0,T4];omega
   rw[onW]at g0 g1;have er:(aq (i+1)).map (onW a m)=(aq i).map (onW a m)++[onW a m i]:=by rw[cT,Xe];rfl
   rw[er,onW,<-k1,<-k2];ext;rw[stp,j2o];ext;rw[jk1];ext;rw[i0,g0];ext;erw[j2o,jk0];rw[i1,g1];ext;rw[at0,at0,at1,at1];ext;exact⟨_,rfl,_,_,_,_,_,_,rfl⟩
 .rintro ρ ⟨s3,s4,s5,s6,s7,s8,rfl⟩;ext;rw[jn,X6]
noncomputable def rcO(d:Option (List Int)):Rc:=match d with
 |none=>.val .non
 |some l=>.fresh (l.map D.int)
theorem Wg{f:D->En->So}{ds:List D}{ρ:En}{g:En->So}{Q:Rc->Prop}(W:Nat->En->Prop)(h0:W 0 ρ)(hs:∀i d ρ,ds[i]?=a3 d->W i ρ->∃ρ',f d ρ=.next ρ'/\W (i+1) ρ')(hk:∀ρ',W ds.length ρ'->Q (fin (g ρ'))):Q (fin (Yk (Jp f ds ρ) g)):=by
 obtain⟨ρ',e,w⟩:=Qv (f:=f) W (k:=0) (ds:=ds) (ρ:=ρ) h0 λi d ρ hi w=>by rw[Pj]at w ⊢;exact hs i d ρ hi w
 rw[e];rw[Pj]at w;exact hk ρ' w
theorem j2z {n m:Nat} {c:Int} (hm:m<=6):∃d:Option (List Int),evP 1000 G T (n+1) "_law_prices" [.int c,.int m]=rcO d/\∀l,d=a3 l->l.length=m/\l.all (btw 1)=a6:=by
 rw[jd (F:=Ol) (by rfl) rfl];simp only[Ol,Wd,enter];by_cases h:c%4=0
 .refine⟨a9,?_,λl e=>nomatch e⟩;ext;rfl
 ext;refine Wg (Q:=λr=>∃d:Option (List Int),r=rcO d/\∀l,d=a3 l->l.length=m/\l.all (btw 1)=a6) (λj ρ=>∃(dr lf:Int)(l:List Int)(s5:Sv),l.length=j/\l.all (btw 1)=a6/\ρ=[.val (.int c),.val (.int m),.val (.int dr),.val (.int lf),.own (l.map D.int),s5]) ⟨_,_,[],_,rfl,rfl,rfl⟩ ?_ ?_
 .rintro j d ρ hj ⟨dr,lf,l,s5,hl,hall,rfl⟩;obtain⟨h1,rfl⟩:=Vj hj;have h1:j<m:=by rw[X6]at h1;exact h1
  have fin:∀(v:Int),1<=v/\v<=1000000->(l++[v]).length=j+1/\(l++[v]).all (btw 1)=a6:=λv hv=>by refine⟨by rw[Xa,hl];rfl,?_⟩;rw[ka,hall];simp only[Tz,kQ,btw,gP,dF];rw[decide_eq_true hv.1,decide_eq_true hv.2];rfl
  simp only[zu];ext;generalize hdr:(dr*48271+13*(0+(j:Int))+5)%2147483647=dr2;have hc:∃v:Int,(1<=v/\v<=1000000)/\atI [D.int (1+dr2/16%5),D.int (1+dr2/16%1000000)] (c/4%2)=a3 (.int v):=by
   have:c/4%2=0\/c/4%2=1:=by omega
   rcases this with e|e
   .exact⟨1+dr2/16%5,by omega,by rw[e,at0]⟩
   .exact⟨1+dr2/16%1000000,by omega,by rw[e,at1]⟩
  obtain⟨v,hv,ev⟩:=hc;rw[ev];ext;by_cases hb:(1000000000000000000:Int)<=c
  .ext;have lf2:=fin (1+lf%1000000) nofun
   have ix:ixN (l.map D.int++[D.int v]).length (0+(j:Int))=a3 j:=by rw[Xa,km,hl,Tn];unfold ixN;rw[if_pos nofun,if_pos (by show(j:Int)<((j+1:Nat):Int);omega),X6]
   rw[j1c ix];ext;refine⟨_,rfl,dr2,lf/1000000,l++[1+lf%1000000],.val (.int (0+(j:Int))),lf2.1,lf2.2,?_⟩;have e:(l.map D.int++[D.int v]).set j (D.int (1+lf%1000000))=(l++[1+lf%1000000]).map D.int:=by rw[k5,if_neg (by rw[km];omega),km,hl,fA,Xe];rfl
   rw[<-e]
   try rfl
  .ext;exact⟨_,rfl,dr2,lf,l++[v],.val (.int (0+(j:Int))),(fin v hv).1,(fin v hv).2,by rw[Xe];rfl⟩
 .rintro ρ ⟨dr,lf,l,s5,hl,hall,rfl⟩;ext;rw[jn,X6]at hl;exact⟨a3 l,rfl,λl' e=>by cases e;exact⟨hl,hall⟩⟩
theorem j5n {n m:Nat} {d:Option (List Int)} (hm:m<=6):evP 1000 G T (n+1) "_law_costs" [feD d,.int m]=match d with
  |none=>.fresh ((a5 m (1:Int)).map D.int)
  |some l=>.val (.lst (l.map D.int)):=by
 rw[jd (F:=Dh) (by rfl) rfl];simp only[Dh,Mr,enter];cases d with
 |none =>
  simp only[feD];ext;rw[qj (l:=(a5 m (1:Int)).map D.int) (by rfl) (by rw[jn];omega) ?_ (.inl rfl)]
  .ext
  .have e:(a5 m (1:Int)).map D.int=(upto 0 (m:Int).toNat).map λ_=>D.int 1:=by rw[List.map_const',jn,X6,iW]
   rw[e];exact Eo λd hd=>zj (by ext) (by ext)
 |some l =>simp only[feD];ext
theorem j7y:∀(ts acc:List ah),acc.Nodup->(ts.foldl ddS acc).length=acc.length+ts.length->(acc++ts).Nodup
 |[],acc,hn,_=>by rw[Xx];exact hn
 |v::ts,acc,hn,h=>by
  rw[Tt,X7]at h;have hl:=Lj ts (ddS acc v);by_cases e:acc.any (· == v)=a6
  .have ed:ddS acc v=acc:=if_pos e;rw[ed]at hl h;omega
  .have ed:ddS acc v=acc++[v]:=if_neg e;rw[ed]at h;have nv:v∉acc:=λz=>e (List.any_eq_true.mpr ⟨v,z,beq_self_eq_true v⟩);have:=j7y ts (acc++[v]) (by
    rw[gj]
    exact⟨hn,by simp,λx hx y hy=>by rw[xr.mp hy];exact λz=>nv (z▸hx)⟩) (by rw[h,Xa,cM];omega)
   rw[Tf]at this;exact this
theorem jb5{ns:List ah}(h:(dd ns).length=ns.length):ns.Nodup:=j7y ns [] d8 (by rw[show([]:List ah).length=0 from rfl,Pj];exact h)
theorem j8u {n m:Nat} {c:Int} (hm:1<=m/\m<=6):∃ws:List ah,(ws.Nodup/\ws.length=m)/\evP 1000 G T (n+1) "_law_words" [.int c,.int m]=.fresh (ws.map D.str):=by
 rw[jd (F:=Dc) (by rfl) rfl];simp only[Dc,Ml,enter];have ll:=jlq;have tot:∀k:Bool,((m:Int)*(if k then 1 else 0)).toNat=if k then m else 0:=λk=>by cases k<;>simp
 ext;simp only[Dp];ext;obtain⟨k,ek⟩:∃k:Bool,decide ((1000000000000000000:Int)<=c)=k:=⟨_,rfl⟩
 rw[ek];have kb:-4611686018427387904<=(m:Int)*(if k then 1 else 0)/\(m:Int)*(if k then 1 else 0)<4611686018427387904:=by cases k<;>simp<;>omega
 ext;rw[tot];refine Wg (Q:=λr=>∃ws:List ah,(ws.Nodup/\ws.length=m)/\r=.fresh (ws.map D.str)) (λi ρ=>∃(ns:List ah)(r:Int)(s5 s6 s7 s8:Sv),ns.length=i/\ρ=[.val (.int c),.val (.int m),.val (.str "mdkbvqhzcgrnapxolsiefwtyju"),.own (ns.map D.str),.val (.int r),s5,s6,s7,s8,.un,.un,.un,.un]) ⟨[],c,.un,.un,.un,.un,rfl,rfl⟩ ?_ ?_
 .rintro i d ρ hi ⟨ns,r,s5,s6,s7,s8,hl,rfl⟩;have hi2:i<7:=by have:=(X8.mp hi).1;rw[jn]at this;cases k<;>simp at this<;>omega
  simp only[zu];ext;refine O3 (λj ρ=>∃(x:List Nat)(r2:Int)(s8:Sv),x.length=j/\ρ=[.val (.int c),.val (.int m),.val (.str "mdkbvqhzcgrnapxolsiefwtyju"),.own (ns.map D.str),.val (.int r2),.val d,.val (.int (1+r%8)),.val (.str (sL x)),s8,.un,.un,.un,.un]) ⟨[],r/8,s8,rfl,rfl⟩ ?_ ?_
  .rintro j e ρ hj ⟨x,r2,s8',hx,rfl⟩;have hj2:j<8:=by have:=(X8.mp hj).1;rw[jn]at this;omega
   have lx:(sL x).length=j:=by rw[Jf,hx]
   simp only[zu];ext;rw[j0e nofun];ext;have l1:(⟨#[lt (r2%26)]⟩:ah).length=1:=rfl;ext;refine⟨_,rfl,x++[lt (r2%26)],r2/26,.val e,by simp[hx],?_⟩;rw[show(⟨#[lt (r2%26)]⟩:ah)=sL [lt (r2%26)]from rfl,W0]
  .rintro ρ2 ⟨x,r2,s8',hx,rfl⟩;ext;refine⟨_,rfl,ns++[sL x],r2,.val d,.val (.int (1+r%8)),.val (.str (sL x)),s8',by simp[hl],?_⟩;rw[Xe];rfl
 rintro ρ' ⟨ns,r,s5,s6,s7,s8,hl,rfl⟩;rw[jn]at hl;have nl:ns.length<=6:=by rw[hl];split<;>omega
 ext;rw[jeh nofun];by_cases hd:((dd ns).length:Int)=(m:Int)
 .have lm:ns.length=m:=by
   cases k with
   |true=>simpa using hl
   |false =>have:ns=[]:=fQ (by simpa using hl);subst this;have z:(dd []).length=0:=rfl;rw[z]at hd;omega
  ext;exact⟨ns,⟨jb5 nofun,lm⟩,rfl⟩
 refine⟨Qs c m,⟨j0n hm.2,Ez _ _⟩,?_⟩;by_cases h:c%4<2
 .ext;rw[qj (l:=((Yv c).map λx=>(⟨#[x]⟩:ah)).map D.str) (by rfl) (by rw[jn];decide) ?_ (.inl rfl)];rotate_left
  .rw[Qa,Yv,Xj,Xj];refine qi λk hk'=>zj (by ext) ?_;have hk:=Xb.mp hk';ext;rw[j0e nofun];ext;simp
  rw[j3y (Oe (by rw[Qw];decide)),Cy];have st:=jc5 (c:=c) hm.2;obtain⟨s,hs⟩:∃s:Nat,s=stN c m:=⟨_,rfl⟩
  have es:c/8%(9-(m:Int))=(s:Int):=by rw[hs];unfold stN;have:=Th (c/8) (show(9-(m:Int))≠0 by omega);omega
  have lg:(sL (Yv c)).length=8:=by rw[Jf,Qw]
  by_cases h0:c%4=0
  .ext;rw[es,qj (l:=(Qs c m).map D.str) (by rfl) (by rw[jn];omega) ?_ (.inl rfl)]
   .ext
   .rw[X6,Qa,Qs,Xj];refine qi λk hk'=>zj (by ext) ?_;have hk:=Xb.mp hk';ext;have e:(s:Int)+(0+(k:Int))+1=((s+k+1:Nat):Int):=by omega
    have hh:wrd c m k=(Yv c).take (stN c m+k+1):=by unfold wrd;rw[if_pos h,if_pos h0]
    rw[e,Cg (by rw[Qw];omega)];simp only[df,hh,hs]
  .ext;rw[es,qj (l:=(Qs c m).map D.str) (by rfl) (by rw[jn];omega) ?_ (.inl rfl)]
   .ext
   .rw[X6,Qa,Qs,Xj];refine qi λk hk'=>zj (by ext) ?_;have hk:=Xb.mp hk';ext;have e:8-(s:Int)-(0+(k:Int))-1=((8-s-k-1:Nat):Int):=by omega
    have hh:wrd c m k=(Yv c).drop (8-stN c m-k-1):=by unfold wrd;rw[if_pos h,if_neg h0]
    rw[e,Ci (by rw[Qw];omega)];simp only[df,hh,hs]
 .have a:=jcn c;obtain⟨s,hs⟩:∃s:Nat,s=szN c:=⟨_,rfl⟩
  have es:c/4%8=(s:Int):=by rw[hs];unfold szN;omega
  obtain⟨q,hq⟩:∃q:Nat,q=atN c:=⟨_,rfl⟩
  have eq:c/512%((s:Int)+1)=(q:Int):=by rw[hq];unfold atN;have:=Th (c/512) (show((s:Int)+1)≠0 by omega);rw[<-hs];omega
  ext;rw[es,qj (l:=((Vy c s).map λx=>(⟨#[x]⟩:ah)).map D.str) (by rfl) (by rw[jn];omega) ?_ (.inl rfl)];rotate_left
  .rw[X6,Qa,Vy,Xj,Xj];refine qi λk hk'=>zj (by ext) ?_;have hk:=Xb.mp hk';ext;rw[j0e nofun];ext;simp
  rw[j3y (Oe (by rw[vh];omega)),Cy];have lg:(sL (Vy c s)).length=s:=by rw[Jf,vh]
  ext;rw[eq,qj (l:=(Qs c m).map D.str) (by rfl) (by rw[jn];omega) ?_ (.inl rfl)]
  .ext
  .rw[X6,Qa,Qs,Xj];refine qi λk hk'=>zj (by ext) ?_;have hk:=Xb.mp hk';ext;rw[j0e nofun];ext;rw[Cg (by rw[vh];omega),Ci (by rw[vh];omega)];have e1:(⟨#[lt ((c/9+7*(0+(k:Int)))%26)]⟩:ah)=sL [lt ((c/9+7*(0+(k:Int)))%26)]:=rfl;have l1:(sL ((Vy c s).take q)).length=q:=by rw[Jf,Xq,vh];omega
   have l2:(sL ((Vy c s).drop q)).length=s-q:=by rw[Jf,Tp,vh]
   have l3:(sL [lt ((c/9+7*(0+(k:Int)))%26)]).length=1:=rfl;have l4:(sL ((Vy c s).take q)++sL [lt ((c/9+7*(0+(k:Int)))%26)]).length=q+1:=by rw[W0,Jf,Xa,Xq,vh,X7,Tg];omega
   rw[e1];ext;rw[W0,W0];simp only[df,wrd,h,if_false,<-hs,<-hq,Tf,List.singleton_append,Tn]
noncomputable def Uu(n:Nat)(ns:List Int)(a most:Nat):List Int :=
 (aq (2^V7 ns a most)).map λ(k:Nat)=>if decide ((1000000000000000000:Int)<=qb ns (a+2))=a6 then qb ns (a+2)/(1*2^(0+(k:Int)).toNat)%2 else Dq 1000 G T n (j5 2 (V7 ns a most) (0+(k:Int))) (qb ns a/(most:Int)%5) (qb ns (a+2))
theorem jfv{n:Nat}{ns:List Int}{a most:Nat}(hm:1<=most/\most<=6):∀x∈Uu n ns a most,x=0\/x=1:=by
 intro x hx;obtain⟨k,_,rfl⟩:=Xm.mp hx;have mb:=Kp (ns:=ns) (a:=a) hm;split
 .omega
 .exact(j2m jiu (j5l _ _) (by rw[jw];omega)).1
theorem p2n{k:Nat}(h:k<64):0<(2:Int)^k/\(2:Int)^k<18446744073709551616:=by
 refine⟨cA (by decide),?_⟩;have h1:2^k<2^64:=Nat.pow_lt_pow_right (by decide) h;have h2:(2:Nat)^64=18446744073709551616:=by decide
 rw[h2]at h1;have h3:((2^k:Nat):Int)=(2:Int)^k:=by simp
 omega
theorem j2y{n:Nat}{ns:List Int}{a most:Nat}(ha:a<=50)(hm:1<=most/\most<=6):∃ws:List ah,(ws.Nodup/\ws.length=V7 ns a most) /\
  evP 1000 G T (n+2) "_law_question" [.lst (ns.map D.int),.int a,.int most]=.val (.tup [.tup (ws.map D.str),.tup ((Uu n ns a most).map D.int)]):=by
 rw[jd (F:=Wm) (by rfl) rfl];simp only[Wm,Yd,enter];have mb:=Kp (ns:=ns) (a:=a) hm;obtain⟨m,em⟩:∃m:Nat,m=V7 ns a most:=⟨_,rfl⟩
 have em2:1+qb ns a%(most:Int)=(m:Int):=by rw[em];unfold V7;have h1:=Th (qb ns a) (show(most:Int)≠0 by omega);omega
 rw[<-em]at mb;have p2:=Kg (m:=m) nofun
 have pc:((2^m:Nat):Int)=(2:Int)^m:=by simp
 have e3:(1*2^m:Int).toNat=2^m:=by rw[cS,<-pc];exact X6 _
 have c0:evP 1000 G T (n+1) "_law_cell" [.lst (ns.map D.int),.int a]=.val (.int (qb ns a)):=Wa j0f nofun
 have c1:evP 1000 G T (n+1) "_law_cell" [.lst (ns.map D.int),.int ((a:Int)+1)]=.val (.int (qb ns (a+1))):=Wa j0f (k:=a+1) nofun
 have c2:evP 1000 G T (n+1) "_law_cell" [.lst (ns.map D.int),.int ((a:Int)+2)]=.val (.int (qb ns (a+2))):=Wa j0f (k:=a+2) nofun
 obtain⟨ws,⟨wnd,wl⟩,we⟩:=j8u (n:=n) (c:=qb ns (a+1)) (m:=m) nofun
 refine⟨ws,⟨wnd,by rw[wl,em]⟩,?_⟩;ext;rw[c0];ext;rw[em2,c1];ext;erw[we,c0,c2,X6];rw[e3];rw[Fx (λi=>[.val (.lst (ns.map D.int)),.val (.int a),.val (.int most),.val (.int m),.own (ws.map D.str),.val (.int (qb ns a/(most:Int)%5)),.val (.int (qb ns (a+2))),.own (((Uu n ns a most).take i).map D.int),if i=0 then .un else .val (.int ((i:Int)-1)),if i=0 then .un else .own ((j5 2 m ((i:Int)-1)).map D.int),.un]) (by simp)]
 .ext;rw[jn,T6 (by simp[Uu,<-em])]
 .intro i d hi;obtain⟨h1,rfl⟩:=Vj hi;have hz:=j5l m (0+(i:Int));have hlz:=jw 2 m (0+(i:Int));obtain⟨hb,eb⟩:=j2m (fu:=1000) (n:=n) (G:=G) jiu hz nofun (kd:=qb ns a/(most:Int)%5) (c:=qb ns (a+2))
  have lt64:2^m<=64:=by omega
  have pw:=p2n (k:=(0+(i:Int)).toNat) nofun
  have al:(Uu n ns a most).length=2^m:=by simp[Uu,<-em]
  have ag:(Uu n ns a most)[i]?=a3 (if decide ((1000000000000000000:Int)<=qb ns (a+2))=a6 then qb ns (a+2)/(1*2^(0+(i:Int)).toNat)%2 else Dq 1000 G T n (j5 2 m (0+(i:Int))) (qb ns a/(most:Int)%5) (qb ns (a+2))):=by unfold Uu;rw[<-em,xx,t6 h1];rfl
  simp only[zu];ext;rw[qj (l:=(j5 2 m (0+(i:Int))).map D.int) (by rfl) (by rw[jn];omega) ?_ (.inl rfl)];rotate_left
  .have ed:j5 2 m (0+(i:Int))=(aq m).map λ(k:Nat)=>(0+(i:Int))/2^(m-1-k)%2:=by
    refine Tv λk=>?_;by_cases hk:k<m
    .rw[Qy hk,xx,t6 hk];rfl
    .rw[Xu (by rw[jw];omega),Xu (by simp;omega)]
   rw[X6,Qa,ed,Xj];refine qi λk hk'=>zj (by ext) ?_;have hk:=Xb.mp hk';have et:((m:Int)-(0+(k:Int))-1).toNat=m-1-k:=by omega
   have p:=p2k (k:=m-1-k) nofun
   rw[<-et]at p;ext;rw[et,cS];rfl
  ext;rw[jbc,eb];ext;rw[jeg rfl];simp only[Dp];ext;have pick:∀(k:Bool)(x y:Int),atI [D.int x,.int y] (if k then 1 else 0)=a3 (.int (if k=a6 then y else x)):=λk x y=>by cases k<;>rfl
  rw[pick];ext;rw[Tw,ag];simp
theorem j8n{least x:Int}(h1:least<=x)(h2:x<=1000000):btw least x=a6:=by simp[btw,h1,h2]
theorem j2p{least x:Int}{l:List Int}(h:l.all (btw least)=a6)(h1:least<=x)(h2:x<=1000000):(l++[x]).all (btw least)=a6:=by rw[ka,h,Tz,kQ,j8n h1 h2];rfl
theorem jfw{l:List Int}{k:Nat}{v:Int}(h:l.all (btw 0)=a6)(h1:0<=v)(h2:v<=1000000):(l.set k v).all (btw 0)=a6:=by
 rw[Xy]at h ⊢;intro x hx;rcases gD hx with z|z
 .exact h x z
 .rw[z];exact j8n h1 h2
theorem j3j:∀{l:List Int}{k:Nat}{v:Int},l.all (btw 0)=a6->k<l.length->1<=v->0<(l.set k v).sum
 |[],k,v,_,h,_=>by simp at h
 |x::l,k,v,ha,hk,hv=>by
  rw[Tz,Xd]at ha;have hx:0<=x:=by have:=ha.1;simp[btw]at this;exact this.1
  have sn:∀{l:List Int},l.all (btw 0)=a6->0<=l.sum:=by
   intro l;induction l with
   |nil=>intro _;simp
   |cons y l ih =>
    intro h;rw[Tz,Xd]at h;have:=ih h.2;have hy:0<=y:=by have:=h.1;simp[btw]at this;exact this.1
    rw[Xr];omega
  cases k with
  |zero =>have:=sn ha.2;rw[Pq,Xr];omega
  |succ k =>have:=j3j (k:=k) (v:=v) ha.2 (by simpa using hk) hv;rw[Pb,Xr];omega
theorem j3u{c:Int}{l:Nat}(h:0<l):∃k:Nat,k<l/\c%(l:Int)=(k:Int):=by
 have h1:=Th c (b:=(l:Int)) nofun
 have h2:=Sd c (b:=(l:Int)) nofun
 exact⟨(c%(l:Int)).toNat,by omega,by omega⟩
theorem j3z{l k:Nat}(h:k<l):ixN l (k:Int)=a3 k:=by unfold ixN;rw[if_pos nofun,if_pos nofun,X6]
theorem j04 {n m:Nat} {c:Int} (hm:m<=6):∃wt:List Int,evP 1000 G T (n+2) "_law_weights" [.int c,.int m]=.fresh (wt.map D.int)/\wt.length=2^m/\wt.all (btw 0)=a6/\wt.sum≠0:=by
 rw[jd (F:=M5) (by rfl) rfl];simp only[M5,Yx,enter];have p2:=Kg hm;have p6:=p64 hm;have pg:1<=2^m:=jD;have pc:((2^m:Nat):Int)=(2:Int)^m:=by simp
 have e3:(1*2^m:Int).toNat=2^m:=by rw[cS,<-pc];exact X6 _
 ext;rw[X6];ext;rw[e3,Qa];refine Wg (Q:=λr=>∃wt:List Int,r=.fresh (wt.map D.int)/\wt.length=2^m/\wt.all (btw 0)=a6/\wt.sum≠0) (λi ρ=>∃(acc:List Int)(dr lf:Int)(s5:Sv),ρ=[.val (.int c),.val (.int m),.val (.int dr),.val (.int lf),.own (acc.map D.int),s5]/\acc.length=i/\acc.all (btw 0)=a6) ⟨[],_,_,.un,rfl,rfl,rfl⟩ ?_ ?_
 .rintro i d ρ hi ⟨acc,dr,lf,s5,rfl,ha,hb⟩;rw[xx]at hi;obtain⟨k,hk,rfl⟩:=Xw.mp hi;obtain⟨h1,h2⟩:=X8.mp hk;rw[iX]at h2;subst h2;rw[Xh]at h1;simp only[zu];ext;generalize (dr*48271+17*(0+(i:Int))+3)%2147483647=d2;have h3:c%3=0\/c%3=1\/c%3=2:=by omega
  have one:∃v:Int,(0<=v/\v<=1000000)/\atI [D.int (d2/16%4),D.int (d2/16%(1000000+1)),D.int 1] (c%3)=a3 (.int v):=by
   rcases h3 with e|e|e<;>rw[e]
   .exact⟨_,by omega,rfl⟩
   .exact⟨_,by omega,rfl⟩
   .exact⟨_,by omega,rfl⟩
  obtain⟨v,hv,ev⟩:=one;rw[ev];ext;by_cases hbg:(1000000000000000000:Int)<=c
  .have ix:ixN (acc.map D.int++[D.int v]).length (0+(i:Int))=a3 i:=by rw[Xa,km,ha,Tn];unfold ixN;rw[if_pos nofun,if_pos (by show(i:Int)<((i+1:Nat):Int);omega),X6]
   ext;rw[j1c ix];ext;refine⟨_,rfl,acc++[lf%(1000000+1)],d2,lf/(1000000+1),.val (.int (0+(i:Int))),?_,by rw[Xa];simp;omega,j2p hb nofun nofun⟩;have e:(acc.map D.int++[D.int v]).set i (D.int (lf%(1000000+1)))=(acc++[lf%(1000000+1)]).map D.int:=by rw[k5,if_neg (by rw[km];omega),km,ha,fA,Xe];rfl
   rw[<-e]
  .ext;exact⟨_,rfl,acc++[v],_,_,_,by rw[Xe];rfl,by rw[Xa];simp;omega,j2p hb nofun nofun⟩
 .rintro ρ' ⟨acc,dr,lf,s5,rfl,ha,hb⟩;rw[km,Xh]at ha;by_cases hs:acc.sum=0
  .obtain⟨k,hk,ek⟩:=j3u (c:=c/3) (l:=acc.length) nofun
   have ek:c/3%(1*2^m)=(k:Int):=by rw[cS,<-pc,<-ha];exact ek
   ext;rw[X6];ext;rw[ek,j1c (n:=k) (by rw[km];exact j3z hk)];ext;refine⟨acc.set k 1,by rw[kP],by rw[T8];exact ha,jfw hb nofun nofun,?_⟩;have:=j3j (v:=1) hb hk nofun
   omega
  .ext;exact⟨acc,rfl,ha,hb,hs⟩
noncomputable def hvL(w:List Int)(m:Nat):List Int:=(aq (3^m)).map λ(j:Nat)=>wsum w m (j5 3 m (j:Int))
theorem jit(w:List Int)(m:Nat):(hvL w m).length=3^m:=by simp[hvL]
theorem jch{w:List Int}{m j:Nat}(h:j<3^m):atI ((hvL w m).map D.int) (j:Int)=a3 (.int (wsum w m (j5 3 m (j:Int)))):=J8 (by rw[xx,hvL,xx,t6 h];rfl)
theorem Le{n m:Nat}{ws:List ah}{a w:List Int}(hw:ws.length=m)(hm:1<=m/\m<=6)(hl:w.length=2^m) :
  evP 1000 G T (n+4) "_law_heavy" [qD ws a,.lst (w.map D.int)]=.fresh ((hvL w m).map D.int):=by
 have on:=Rp (n:=n) (.inr rfl:D.lst (w.map D.int)=_\/_) hw hm hl;have p3:=O7 hm.2;rw[jd (F:=Dg) (by rfl) rfl];simp only[Dg,Mq,enter,qD];ext;erw[at0,on];rw[qj (l:=(hvL w m).map D.int) (by rfl) (by rw[km,Xh];omega) ?_ (.inl rfl)]
 .ext
 .rw[hvL,Xj];exact qi λj _=>zj (by ext) (by simp only[onW];ext;rw[at0];ext;rfl)
theorem Y7 {n m i:Nat} {a:List Int} (h01:∀x∈a,x=0\/x=1):evP 1000 G T (n+1) "_law_is_open" [onW a m i]=.val (.bl (opB a m (j5 3 m (i:Int)))):=by
 have hl:(j5 3 m (i:Int)).length=m:=jw 3 m _;have c:=j4g (a:=a) h01 hl λt ht=>Vc (by decide) ht;have e:(decide ((0:Int)<(cnt a (j5 3 m (i:Int)) m 1:Nat))&&decide (((cnt a (j5 3 m (i:Int)) m 1:Nat):Int)<((2^qp (j5 3 m (i:Int)):Nat):Int)))=opB a m (j5 3 m (i:Int)):=by
  have c:cnt a (j5 3 m (i:Int)) m 0+cnt a (j5 3 m (i:Int)) m 1=2^qp (j5 3 m (i:Int)):=c;rw[<-c];unfold opB stD Fj;by_cases h1:cnt a (j5 3 m (i:Int)) m 1=0
  .rw[if_pos h1,h1];rfl
  .rw[if_neg h1,decide_eq_true nofun,dF];by_cases h0:cnt a (j5 3 m (i:Int)) m 0=0
   .rw[if_pos h0,h0,decide_eq_false nofun];rfl
   .rw[if_neg h0,decide_eq_true nofun];rfl
 rw[jd (F:=M6) (by rfl) rfl];simp only[M6,Yy,enter,onW,<-j2c h01];ext;rw[at0,at1];ext;rw[e]
theorem jlj{ns:List Int}(h:ns≠[]):zr .min (a3 (.a [.w (ns.map D.int)]))=a3 (.v (.e (.int (Qn ns)))):=jlk h
theorem jbl{i j k:Nat}{f:En->So}{x y z:D}{ρ:En}:N5 [i,j,k,k] f (.tup [x,y,z]) ρ=f (((ρ.set i (.val x)).set j (.val y)).set k (.val z)):=rfl
theorem j6i{f:D->En->So}{ds:List D}{ρ:En}{g g2:En->So}{Q:En->Prop}(W:Nat->En->Prop)(h0:W 0 ρ)(hs:∀i d ρ,ds[i]?=a3 d->W i ρ->∃ρ',f d ρ=.next ρ'/\W (i+1) ρ')(hk:∀ρ',W ds.length ρ'->∃ρ2,Yk (g ρ') g2=.next ρ2/\Q ρ2):∃ρ2,Yk (Yk (Jp f ds ρ) g) g2=.next ρ2/\Q ρ2:=by
 obtain⟨ρ',e,w⟩:=Qv (f:=f) W (k:=0) (ds:=ds) (ρ:=ρ) h0 λi d ρ hi w=>by rw[Pj]at w ⊢;exact hs i d ρ hi w
 rw[e];rw[Pj]at w;exact hk ρ' w
theorem jiv{t:List Int}{k:Nat}{z:Int}(h:z=(k:Int))(hk:k<t.length):atI (t.map D.int) z=a3 (.int (t.getD k 0)):=by rw[h];exact Uk hk
theorem jaz{a:List Int}{m N:Nat}:Jl ((aq N).map (onW a m))=(aq N).map λ(j:Nat)=>D.tup [.int (j:Int),onW a m j]:=by
 apply Tv;intro i;unfold Jl;rw[xx,iD,xx,xx];by_cases h:i<N
 .rw[t6 h];simp
 .rw[Xu (by rw[Xh];omega)];rfl
theorem j06{n m:Nat}{ws:List ah}{a pr w:List Int}(hw:ws.length=m)(hm:1<=m/\m<=6)(ha:a.length=2^m)(h01:∀x∈a,x=0\/x=1)(hr:pr.length=m)(hq:Vw pr)(hl:w.length=2^m) :
  evP 1000 G T (n+5) "_law_whole" [qD ws a,.lst (w.map D.int),.lst (pr.map D.int)]=.fresh ((tab pr (wsum w m) a m).map D.int):=by
 have hv:=Le (n:=n) (a:=a) hw hm hl;have on:=Rp (n:=n+1) (.inl rfl:D.tup (a.map D.int)=_\/_) hw hm ha;rw[jd (F:=De) (by rfl) rfl];simp only[De,Mm,enter];rw[show qD ws a=.tup [.tup (ws.map D.str),.tup (a.map D.int)]from rfl]at hv ⊢;ext;rw[at0];ext;rw[hw,hv];ext;rw[on];ext;rw[jaz];have p3:=O7 hm.2;have hvl:=jit w m;refine Zw (λi ρ=>∃s6 s7 s8 s9 s10 s11 s12 s13,ρ=[.val (.tup [.tup (ws.map D.str),.tup (a.map D.int)]),.val (.lst (w.map D.int)),.val (.lst (pr.map D.int)),.val (.int m),.own ((hvL w m).map D.int),.own ((v7 pr (wsum w m) m (opB a m) i).map D.int),s6,s7,s8,s9,s10,s11,s12,s13]) ⟨_,_,_,_,_,_,_,_,rfl⟩ ?_ ?_
 .rintro i d ρ hi ⟨s6,s7,s8,s9,s10,s11,s12,s13,rfl⟩;have hi':i<3^m:=by have:=(X8.mp hi).1;rw[km,Xh]at this;exact this
  rw[xx,t6 hi']at hi;cases hi;have hl':(j5 3 m (i:Int)).length=m:=jw 3 m _;have tl:=Vl pr (wsum w m) m (opB a m) i;have io:=Y7 (n:=n+3) (m:=m) (i:=i) h01;have st:=Rj (n:=n+2) (i:=i) hm.2;have gh:=jch (w:=w) hi';simp only[jfr];ext;rw[io];cases z:opB a m (j5 3 m (i:Int)) with
  |false =>ext;rw[show(v7 pr (wsum w m) m (opB a m) (i+1)).map D.int=(v7 pr (wsum w m) m (opB a m) i).map D.int++[D.int 0]by rw[v7,z,Xe];rfl];exact⟨_,rfl,_,_,_,_,_,_,_,_,rfl⟩
  |true =>
   have ne:=Vo h01 hl' (λt ht=>Vc (by decide) ht) z;have ol:(qg (j5 3 m (i:Int)) m).length<=m:=Xl (t7 _ _) (by rw[Xh];exact xu _);ext;rw[st];ext;obtain⟨cs,hcs⟩:∃cs:Nat->Int,cs=λs=>pr.getD s 0*wsum w m (j5 3 m (i:Int))+((v7 pr (wsum w m) m (opB a m) i).getD (i-2*3^(m-1-s)) 0+(v7 pr (wsum w m) m (opB a m) i).getD (i-1*3^(m-1-s)) 0):=⟨_,rfl⟩
   refine j6i (λj ρ=>∃s10 s11 s12 s13,ρ=[.val (.tup [.tup (ws.map D.str),.tup (a.map D.int)]),.val (.lst (w.map D.int)),.val (.lst (pr.map D.int)),.val (.int m),.own ((hvL w m).map D.int),.own ((v7 pr (wsum w m) m (opB a m) i).map D.int),.val (.int (i:Int)),.val (onW a m i),.val (.int 0),.own ((((qg (j5 3 m (i:Int)) m).take j).map cs).map D.int),s10,s11,s12,s13]) ⟨_,_,_,_,rfl⟩ ?_ ?_
   .rintro j d ρ hj ⟨s10,s11,s12,s13,rfl⟩;rw[xx]at hj;obtain⟨s,hs,rfl⟩:=Xw.mp hj;obtain⟨q1,q2⟩:=Xk.mp (Xf hs);have hs':=Xb.mp q1;have h2:(j5 3 m (i:Int)).getD s 0=2:=of_decide_eq_true q2;obtain⟨l0,_⟩:=Vk (c:=0) hi' hs' h2 (.inl rfl);obtain⟨l1,_⟩:=Vk (c:=1) hi' hs' h2 (.inr rfl);have wpos:0<3^(m-1-s):=dk (by simp);have g:=Uk (p:=pr) (k:=s) nofun
    have gq:=hq s nofun
    have g0:=jiv (t:=v7 pr (wsum w m) m (opB a m) i) (k:=i-2*3^(m-1-s)) (z:=(i:Int)-2*((3^(m-1-s):Nat):Int)) nofun nofun
    have g1:=jiv (t:=v7 pr (wsum w m) m (opB a m) i) (k:=i-1*3^(m-1-s)) (z:=(i:Int)-((3^(m-1-s):Nat):Int)) nofun nofun
    have tk:(qg (j5 3 m (i:Int)) m).take (j+1)=(qg (j5 3 m (i:Int)) m).take j++[s]:=by rw[Tw,hs];rfl
    have ll:((qg (j5 3 m (i:Int)) m).take j).length<=1000:=by rw[Xq];omega
    simp only[stp,jbl];ext;rw[g,gh];ext;rw[g0,g1];ext;have ce:(((qg (j5 3 m (i:Int)) m).take (j+1)).map cs).map D.int=(((qg (j5 3 m (i:Int)) m).take j).map cs).map D.int++[D.int (pr.getD s 0*wsum w m (j5 3 m (i:Int))+(v7 pr (wsum w m) m (opB a m) i).getD (i-2*3^(m-1-s)) 0+(v7 pr (wsum w m) m (opB a m) i).getD (i-1*3^(m-1-s)) 0)]:=by rw[tk,Xe,Xe,Int.add_assoc];simp only[xm,bY,hcs]
    rw[ce];exact⟨_,rfl,_,_,_,_,rfl⟩
   .rintro ρ ⟨s10,s11,s12,s13,rfl⟩;rw[km,T6 (xu _)];ext;rw[jlj (by simpa using ne)];ext;rw[show(v7 pr (wsum w m) m (opB a m) (i+1)).map D.int=(v7 pr (wsum w m) m (opB a m) i).map D.int++[D.int (Qn ((qg (j5 3 m (i:Int)) m).map cs))]by rw[v7,z,Xe,hcs];rfl];exact⟨_,rfl,_,_,_,_,_,_,_,_,rfl⟩
 .rintro ρ ⟨s6,s7,s8,s9,s10,s11,s12,s13,rfl⟩;ext;rw[Xh];rfl
noncomputable def nd:Pl->Nat
 |.tell _=>1
 |.ask _ n y=>nd n+nd y+1
theorem j57{ws:List ah}{pr a:List Int}{wt:List Int->Int}{m:Nat}:∀(pl:Pl)(p:List Int),p.length=m->Wo ws pr wt a m pl p->nd pl+1<=2^(qp p+1)
 |.tell _,p,_,_=>by have:0<2^qp p:=dk (by simp);rw[nd,T4];omega
 |.ask w n y,p,hp,⟨_,s,hs,_,_,b0,b1⟩=>by obtain⟨q1,q2⟩:=Xk.mp hs;have hs':=Xb.mp q1;have h2:p.getD s 0=2:=of_decide_eq_true q2;have c0:qp (p.set s 0)+1=qp p:=Q8 nofun h2 (.inl rfl);have c1:qp (p.set s 1)+1=qp p:=Q8 nofun h2 (.inr rfl);have i0:=j57 n (p.set s 0) (by rw[T8];exact hp) b0;have i1:=j57 y (p.set s 1) (by rw[T8];exact hp) b1;rw[c0]at i0;rw[c1]at i1;rw[nd,T4];omega
noncomputable def tri(pl:Pl)(p:List Int)(paid:Int):D:=.tup [pD pl,.int (jz p),.int paid]
noncomputable def lfD(x:List Int×Int):D:=.tup [.int (jz x.1),.int x.2]
noncomputable def lfS(wt:List Int->Int)(ls:List (List Int×Int)):Int:=(ls.map λx=>x.2*wt x.1).sum
def j1t(m:Nat)(ls:List (List Int×Int)):Prop:=∀x∈ls,x.1.length=m/\∀t∈x.1,0<=t/\t<3
theorem jc4{a p:List Int}{m:Nat}{b:Int}(h:stD a p m=.int b):opB a m p=a4:=by unfold opB;rw[h];rfl
theorem stack{ws:List ah}{pr a:List Int}{wt:List Int->Int}{m:Nat}{c:En->Option Bool}{f:En->So}(E:List D->List D->Sv->Sv->Sv->Sv->En)
  (sp:∀(p:List Int)(s:Nat),p.length=m->s<m->p.getD s 0=2->wt p=wt (p.set s 0)+wt (p.set s 1))
  (hc:∀st x fd s8 s9 s10 s11,c (E (st++[x]) fd s8 s9 s10 s11)=a3 a6)
  (ht:∀b p paid st fd s8 s9 s10 s11,p.length=m->(∀t∈p,0<=t/\t<3)->stD a p m=.int b->fd.length<=1000->∃s8' s9' s10' s11',f (E (st++[tri (.tell b) p paid]) fd s8 s9 s10 s11)=.next (E st (fd++[lfD (p,paid)]) s8' s9' s10' s11'))
  (ha:∀w n y s p paid st fd s8 s9 s10 s11,p.length=m->(∀t∈p,0<=t/\t<3)->opB a m p=a6->s∈qg p m->ws[s]?=a3 w->st.length<=1000->∃s8' s9' s10' s11',f (E (st++[tri (.ask w n y) p paid]) fd s8 s9 s10 s11)=.next (E (st++[tri n (p.set s 0) (paid+pr.getD s 0)]++[tri y (p.set s 1) (paid+pr.getD s 0)]) fd s8' s9' s10' s11')) :
  ∀(pl:Pl)(p:List Int)(paid:Int)(st fd:List D)(g:Nat)(s8 s9 s10 s11:Sv),Wo ws pr wt a m pl p->p.length=m->(∀t∈p,0<=t/\t<3)->st.length+nd pl<=1000->fd.length+nd pl<=1000 ->
   ∃(ls:List (List Int×Int)) (s8' s9' s10' s11':Sv),ls.length<=nd pl/\j1t m ls/\lfS wt ls=paid*wt p+Wp pr wt a m p/\qx c f (g+nd pl) (E (st++[tri pl p paid]) fd s8 s9 s10 s11)=qx c f g (E st (fd++ls.map lfD) s8' s9' s10' s11')
 |.tell b,p,paid,st,fd,g,s8,s9,s10,s11,hb,hp,hp3,h1,h2=>by
  unfold nd at h1 h2 ⊢;obtain⟨s8',s9',s10',s11',e⟩:=ht b p paid st fd s8 s9 s10 s11 hp hp3 hb nofun
  have w:=Vv (pr:=pr) (wt:=wt) hp hp3 (jc4 hb);refine⟨[(p,paid)],s8',s9',s10',s11',xu _,λx hx=>by rw[xr.mp hx];exact⟨hp,hp3⟩,by rw[w];unfold lfS;simp,?_⟩;rw[qx,hc];dsimp only;rw[e];rfl
 |.ask w n y,p,paid,st,fd,g,s8,s9,s10,s11,⟨ho,s,hs,hw,hW,b0,b1⟩,hp,hp3,h1,h2=>by
  rw[nd]at h1 h2 ⊢;obtain⟨q1,q2⟩:=Xk.mp hs;have hs':=Xb.mp q1;have hp2:p.getD s 0=2:=of_decide_eq_true q2;obtain⟨z8,z9,z10,z11,e⟩:=ha w n y s p paid st fd s8 s9 s10 s11 hp hp3 ho hs hw nofun
  have k0:=vm (s:=s) hp hp3 (.inl rfl:(0:Int)=0\/(0:Int)=1);have k1:=vm (s:=s) hp hp3 (.inr rfl:(1:Int)=0\/(1:Int)=1);obtain⟨l1,y8,y9,y10,y11,a1,x1,m1,e1⟩:=stack E sp hc ht ha y (p.set s 1) (paid+pr.getD s 0) (st++[tri n (p.set s 0) (paid+pr.getD s 0)]) fd (g+nd n) z8 z9 z10 z11 b1 k1.1 k1.2 (by rw[Xa,cM];omega) nofun
  obtain⟨l0,x8,x9,x10,x11,a0,x0,m0,e0⟩:=stack E sp hc ht ha n (p.set s 0) (paid+pr.getD s 0) st (fd++l1.map lfD) g y8 y9 y10 y11 b0 k0.1 k0.2 nofun (by rw[Xa,km];omega)
  refine⟨l1++l0,x8,x9,x10,x11,by rw[Xa];omega,?_,?_,?_⟩
  .intro x hx;rcases Pn.mp hx with q|q
   .exact x1 x q
   .exact x0 x q
  .have sm:lfS wt (l1++l0)=lfS wt l1+lfS wt l0:=by unfold lfS;rw[Xe,jZ]
   rw[sm,m1,m0,hW,sp p s hp hs' hp2,fT,fT,iM,iM];omega
  .rw[show g+(nd n+nd y+1)=(g+nd n+nd y)+1 by omega,qx,hc];dsimp only;rw[e];dsimp only;rw[e1,e0,Tf,<-Xe]
theorem j7q{ws:List ah}{pr a:List Int}{wt:List Int->Int}{m:Nat}{c:En->Option Bool}{f g:En->So}{Q:Rc->Prop}(E:List D->List D->Sv->Sv->Sv->Sv->En)
  (sp:∀(p:List Int)(s:Nat),p.length=m->s<m->p.getD s 0=2->wt p=wt (p.set s 0)+wt (p.set s 1))
  (hc:∀st x fd s8 s9 s10 s11,c (E (st++[x]) fd s8 s9 s10 s11)=a3 a6) (h0:∀fd s8 s9 s10 s11,c (E [] fd s8 s9 s10 s11)=a3 a4)
  (ht:∀b p paid st fd s8 s9 s10 s11,p.length=m->(∀t∈p,0<=t/\t<3)->stD a p m=.int b->fd.length<=1000->∃s8' s9' s10' s11',f (E (st++[tri (.tell b) p paid]) fd s8 s9 s10 s11)=.next (E st (fd++[lfD (p,paid)]) s8' s9' s10' s11'))
  (ha:∀w n y s p paid st fd s8 s9 s10 s11,p.length=m->(∀t∈p,0<=t/\t<3)->opB a m p=a6->s∈qg p m->ws[s]?=a3 w->st.length<=1000->∃s8' s9' s10' s11',f (E (st++[tri (.ask w n y) p paid]) fd s8 s9 s10 s11)=.next (E (st++[tri n (p.set s 0) (paid+pr.getD s 0)]++[tri y (p.set s 1) (paid+pr.getD s 0)]) fd s8' s9' s10' s11'))
  {pl:Pl} (hb:Wo ws pr wt a m pl (a5 m 2)) (hn:nd pl<=127)
  (hQ:∀(ls:List (List Int×Int)) s8 s9 s10 s11,ls.length<=127->j1t m ls->lfS wt ls=Wp pr wt a m (a5 m 2)->Q (fin (g (E [] (ls.map lfD) s8 s9 s10 s11)))) :
  Q (fin (Yk (qx c f 1000 (E [tri pl (a5 m 2) 0] [] .un .un .un .un)) g)):=by
 obtain⟨ls,s8,s9,s10,s11,hl,hx,hy,e⟩:=stack E sp hc ht ha pl (a5 m 2) 0 [] [] (999-nd pl+1) .un .un .un .un hb (Xg ..) (Qm m) (by show 0+_<=_;omega) (by show 0+_<=_;omega);rw[show 999-nd pl+1+nd pl=1000 by omega]at e;rw[Sq,Sq]at e;rw[e,qx,h0];exact hQ ls s8 s9 s10 s11 nofun hx (by rw[hy];omega)
theorem only{ws:List ah} {w:ah} {L:List Nat} {s:Nat} (nd:ws.Nodup) (hL:L.Nodup) (hs:s∈L) (hw:ws[s]?=a3 w) (hl:∀k∈L,k<ws.length):L.filter (λk=>ws.getD k "" == w)=[s]:=by
 have one:∀k∈L,(ws.getD k "" == w)=decide (k=s):=λk hk=>by
  have hk':=hl k hk;have hs':=hl s hs;rw[kh hs']at hw;cases hw;rw[kj,kh hk'];show(ws[k]==ws[s])=_;by_cases e:k=s
  .subst e;simp
  .rw[decide_eq_false e,beq_eq_false_iff_ne];exact λz=>e ((jO nd).mp z)
 rw[jH one];clear one hl;induction L with
 |nil=>cases hs
 |cons x L ih =>
  obtain⟨n1,n2⟩:=Xi.mp hL;by_cases e:x=s
  .subst e;rw[Pk (by simp),List.filter_eq_nil_iff.mpr (λy hy z=>n1 (by rw[<-of_decide_eq_true z];exact hy))]
  .rw[Pa (by simpa using e)];rcases xn.mp hs with q|q
   .exact absurd q.symm e
   .exact ih n2 q
theorem j30(p:List Int)(m:Nat):(qg p m).Nodup:=lF _ fG
theorem Bd:∀m:Nat,jz (a5 m 2)=((3^m:Nat):Int)-1
 |0=>rfl
 |m+1=>by
  rw[Xv,jz,Bd m,Xg,T4];have pc:((3^m:Nat):Int)=(3:Int)^m:=by simp
  rw[<-pc];omega
theorem gtw {ws:List ah} {k:Nat} (h:k<ws.length):atI (ws.map D.str) (k:Int)=a3 (.str (ws.getD k "")):=J8 (by rw[xx,kj,kh h];rfl)
theorem jo4(x y z u:D):atI [x,y,z,u] 0=a3 x:=rfl
theorem jo3(x y z u:D):atI [x,y,z,u] 1=a3 y:=rfl
theorem jo2(x y z u:D):atI [x,y,z,u] 2=a3 z:=rfl
theorem jo1(x y z u:D):atI [x,y,z,u] 3=a3 u:=rfl
theorem jd0{a p:List Int}{m:Nat}{b:Int}(h:stD a p m=.int b):b=if decide ((0:Int)<(cnt a p m 1:Nat))=a6 then 1 else 0:=by
 unfold stD Fj at h;split at h
 .rename_i z;cases h;rw[z];rfl
 .rename_i z;split at h
  .cases h;rw[decide_eq_true nofun];rfl
  .cases h
theorem jb6{n m:Nat}{ws:List ah}{a pr w:List Int}{pl:Pl}(nd':ws.Nodup)(hw:ws.length=m)(hm:1<=m/\m<=6)(ha:a.length=2^m)(h01:∀x∈a,x=0\/x=1)(hr:pr.length=m)(hb:Wo ws pr (wsum w m) a m pl (a5 m 2)) :
  ∃ls:List (List Int×Int),ls.length<=1000/\j1t m ls/\lfS (wsum w m) ls=Wp pr (wsum w m) a m (a5 m 2)/\evP 1000 G T (n+4) "_law_plan_costs" [qD ws a,pD pl,.lst (pr.map D.int)]=.fresh (ls.map lfD):=by
 have p3:=O7 hm.2;have nl:=j57 pl _ (Xg ..) hb;have t2:qp (a5 m 2)<=6:=Xl ip (by rw[Xg];exact hm.2);have nl:nd pl<=127:=by
  have:2^(qp (a5 m 2)+1)<=2^7:=cR (by decide) nofun
  omega
 have on:=Rp (n:=n) (.inl rfl:D.tup (a.map D.int)=_\/_) hw hm ha;have th:=Zm (n:=n+2) hm.2;rw[jd (F:=Yr) (by rfl) rfl];simp only[Yr,Zv,enter,qD];ext;erw[at0,on];rw[hw,th];ext;rw[Bh,<-Bd];refine j7q (Q:=λr=>∃ls:List (List Int×Int),ls.length<=1000/\j1t m ls/\lfS (wsum w m) ls=Wp pr (wsum w m) a m (a5 m 2)/\r=.fresh (ls.map lfD))
  (λst fd s8 s9 s10 s11=>[.val (.tup [.tup (ws.map D.str),.tup (a.map D.int)]),.val (pD pl),.val (.lst (pr.map D.int)),.val (.tup (ws.map D.str)),.val (.int m),.own ((aq (3^m)).map (onW a m)),.own fd,.own st,s8,s9,s10,s11,.un]) (λp s h1 h2 h3=>Dt h1 h2 h3) ?_ ?_ ?_ ?_ hb nl ?_
 .intro st x fd s8 s9 s10 s11;ext
 .intro fd s8 s9 s10 s11;ext
 .intro b p paid st fd s8 s9 s10 s11 hp hp3 hb hf;obtain⟨h1,e⟩:=Rw hp hp3;obtain⟨b1,_⟩:=Z0 hp3;obtain⟨j,hj⟩:∃j:Nat,j=(jz p).toNat:=⟨_,rfl⟩
  have ej:jz p=(j:Int):=by omega
  rw[<-hj]at h1 e;have g:=R9 (x:=a) (m:=m) h1;have io:=Y7 (n:=n+2) (m:=m) (i:=j) h01;rw[<-e,jc4 hb]at io;have c0:atI [D.int (wsum a m p),.int ((2^qp p:Nat):Int)] 0=a3 (.int (wsum a m p)):=at0 ..;have sm:evP 1000 G T (n+3) "_law_same" [.tup [.str "tell",.int b],.tup [.str "tell",.int b]]=.val (.bl a6):=Iz jci 1 (n:=n+1) (by simp[D.dep,D.depL]) (by simp[Z4,V8]);have tb:=jd0 hb;rw[j2c h01]at tb;rw[onW,<-e]at g io;simp only[tri,pD,lfD,ej];ext;erw[g,io,g,c0];by_cases hz:(0:Int)<wsum a m p
  .rw[if_pos (decide_eq_true hz)]at tb;subst tb;ext;simp only[if_true];rw[sm];ext;exact⟨_,_,_,_,rfl⟩
  .rw[if_neg (by rw[decide_eq_false hz];exact xg)]at tb;subst tb;ext;simp only[if_false,ph];rw[sm];ext;exact⟨_,_,_,_,rfl⟩
 .intro w n' y s p paid st fd s8 s9 s10 s11 hp hp3 ho hs hw' hst;obtain⟨h1,e⟩:=Rw hp hp3;obtain⟨b1,_⟩:=Z0 hp3;obtain⟨j,hj⟩:∃j:Nat,j=(jz p).toNat:=⟨_,rfl⟩
  have ej:jz p=(j:Int):=by omega
  rw[<-hj]at h1 e;obtain⟨q1,q2⟩:=Xk.mp hs;have hs':=Xb.mp q1;have h2:p.getD s 0=2:=of_decide_eq_true q2;have v0:=U0 (p:=p) (s:=s) (c:=0) nofun
  have v1:=U0 (p:=p) (s:=s) (c:=1) nofun
  have pc:((3^(m-1-s):Nat):Int)=(3:Int)^(m-1-s):=by simp
  rw[hp,h2,<-pc,ej]at v0 v1;have v0:jz (p.set s 0)=(j:Int)-2*((3^(m-1-s):Nat):Int):=by omega
  have v1:jz (p.set s 1)=(j:Int)-((3^(m-1-s):Nat):Int):=by omega
  have g:=R9 (x:=a) (m:=m) h1;have io:=Y7 (n:=n+2) (m:=m) (i:=j) h01;rw[<-e,ho]at io;have ss:=Rj (n:=n+1) (m:=m) (i:=j) hm.2;rw[<-e]at ss;rw[onW,<-e]at g io;have gp:=Uk (p:=pr) (k:=s) nofun
  simp only[tri,pD,lfD,ej];ext;erw[g,io,ss];rw[qj (l:=[stp m j s]) (by rfl) (by rw[km];exact Xl (t7 _ _) (by rw[Xh];omega)) ?_ (.inl rfl)];rotate_left
  .rw[show[stp m j s]=[s].map (stp m j)from rfl,<-only nd' (j30 p m) hs hw' (λk hk=>by rw[hw];exact Xb.mp (Xk.mp hk).1)];refine Ys λk hk=>?_;have hk':k<m:=Xb.mp (Xk.mp hk).1;have gk:=gtw (ws:=ws) (k:=k) nofun
   refine Rh (b:=ws.getD k "" == w) ?_ λ_=>?_
   .simp only[stp];ext;rw[jk2,jo3];ext;rw[gk];ext
   .ext
  ext;rw[jo4];ext;rw[jb7,decide_eq_true rfl];ext;rw[j2o,stp,v0,v1];ext;erw[jk2,gp];rw[jo2,j2o];ext;rw[jk1];ext;rw[jo1,j2o];ext;rw[jk0];ext;exact⟨_,_,_,_,rfl⟩
 .intro ls s8 s9 s10 s11 h1 h2 h3;ext;exact⟨ls,by omega,h2,h3,rfl⟩
theorem j9z{n m:Nat}{ws:List ah}{a w:List Int}{ls:List (List Int×Int)}(hw:ws.length=m)(hm:1<=m/\m<=6)(hl:w.length=2^m)(h0:w.all (btw 0)=a6)(hls:ls.length<=1000)(hok:j1t m ls) :
  evP 1000 G T (n+5) "_law_cost" [qD ws a,.lst (w.map D.int),.lst (ls.map lfD)]=.val (.int (lfS (wsum w m) ls)):=by
 have hv:=Le (n:=n) (a:=a) hw hm hl;rw[jd (F:=Ie) (by rfl) rfl];simp only[Ie,N7,enter];simp only[qD]at hv ⊢;ext;rw[hv];ext;rw[qj (l:=(ls.map λx=>x.2*wsum w m x.1).map D.int) (by rfl) (by rw[km];omega) ?_ (.inl rfl)]
 .ext;rfl
 .rw[Xj];refine qi λx hx=>?_;obtain⟨x1,x2⟩:=hok x hx;obtain⟨h1,e⟩:=Rw x1 x2;obtain⟨b1,_⟩:=Z0 x2;have g:=jch (w:=w) h1;rw[<-e,Tj b1]at g;have s1:=Lz h0 m x.1;have s2:=jcv h0 hm.2 x.1;refine j3f (by ext) ?_;ext;rw[g];ext;rfl
noncomputable def bt(m k s:Nat):Int:=(k:Int)/2^(m-1-s)%2
theorem jjw{m k s:Nat}(h:s<m):(j5 2 m (k:Int)).getD s 0=bt m k s:=by rw[kj,Qy h];rfl
theorem j5r(m k s:Nat):bt m k s=0\/bt m k s=1:=by unfold bt;omega
noncomputable def pd(pr a:List Int)(m k:Nat):List Nat->List Int->Int
 |[],_=>0
 |s::o,p=>if opB a m p=a6 then pr.getD s 0+pd pr a m k o (p.set s (bt m k s))else pd pr a m k o p
theorem j51{pr a:List Int}{m k:Nat}(hpr:∀s,0<=pr.getD s 0):∀(o:List Nat)(p:List Int),0<=pd pr a m k o p
 |[],_=>t8 _
 |s::o,p=>by
  rw[pd];split
  .have:=j51 hpr o (p.set s (bt m k s)) (a:=a) (m:=m) (k:=k);have:=hpr s;omega
  .exact j51 hpr o p
noncomputable def Co(w pr a:List Int)(m:Nat)(o:List Nat)(p:List Int):Int:=((inL p m).map λ(k:Nat)=>w.getD k 0*pd pr a m k o p).sum
theorem j6d{f:Nat->Int}:∀{L:List Nat},(∀k∈L,0<=f k)->0<=(L.map f).sum
 |[],_=>t8 _
 |k::L,h=>by rw[xm,Xr];have:=h k xq;have:=j6d (f:=f) (L:=L) λj hj=>h j (xf _ hj);omega
theorem jd4{f g:Nat->Int}(L:List Nat):(L.map λk=>f k+g k).sum=(L.map f).sum+(L.map g).sum:=by
 induction L with
 |nil=>rfl
 |cons k L ih=>rw[xm,xm,xm,Xr,Xr,Xr,ih];omega
theorem jd3{f:Nat->Int}{c:Int}(L:List Nat):(L.map λk=>f k*c).sum=c*(L.map f).sum:=by
 induction L with
 |nil=>simp
 |cons k L ih=>rw[xm,xm,Xr,Xr,ih,fT,d6 c (f k)]
theorem jmb{p:List Int}{m s k:Nat}{c:Int}(hp:p.length=m)(hs:s<m)(h2:p.getD s 0=2)(hc:c=0\/c=1)(hk:k∈inL (p.set s c) m):bt m k s=c:=by have:=(Xk.mp hk).2;rw[M3 (by rw[jw];exact hp) nofun h2 nofun,Xd]at this;have:=of_decide_eq_true this.2;rw[jjw hs]at this;exact this.symm
theorem U9{p:List Int}{s:Nat}{v:Int}(h:s<p.length):(p.set s v).getD s 0=v:=by rw[kj,T5 h];rfl
theorem O1{p:List Int}{s t:Nat}{v:Int}(h:s≠t):(p.set s v).getD t 0=p.getD t 0:=by rw[kj,cQ h,<-kj]
theorem jec{ns:List Int}{x:Int}(h:x∈ns):Qn ns<=x:=(Fw (λe=>by rw[e]at h;cases h)).2 x h
theorem jmw{w pr a:List Int}{m:Nat}(h01:∀x∈a,x=0\/x=1)(hpr:∀s,0<=pr.getD s 0)(hw:∀k,0<=w.getD k 0):∀(o:List Nat)(p:List Int),p.length=m->(∀t∈p,0<=t/\t<3)->o.Nodup->(∀s∈o,s<m/\p.getD s 0=2)->(∀s,s<m->p.getD s 0=2->s∈o)->Wp pr (wsum w m) a m p<=Co w pr a m o p:=by
 intro o;have nn:∀(o:List Nat)(p:List Int),0<=Co w pr a m o p:=λo p=>j6d λk _=>kD (hw k) (j51 hpr o p);induction o with
 |nil =>
  intro p hp hp3 _ _ h2;cases z:opB a m p with
  |false=>rw[Vv hp hp3 z];exact nn [] p
  |true =>obtain⟨s,hs⟩:=List.exists_mem_of_ne_nil _ (Vo h01 hp hp3 z);obtain⟨q1,q2⟩:=Xk.mp hs;exact nomatch h2 s (Xb.mp q1) (of_decide_eq_true q2)
 |cons s o ih =>
  intro p hp hp3 hn h1 h2;cases z:opB a m p with
  |false=>rw[Vv hp hp3 z];exact nn (s::o) p
  |true =>
   obtain⟨n1,n2⟩:=Xi.mp hn;obtain⟨hs,hps⟩:=h1 s xq;have sub:∀c:Int,(c=0\/c=1)->Wp pr (wsum w m) a m (p.set s c)<=Co w pr a m o (p.set s c):=λc hc=>by
    have k:=vm (s:=s) hp hp3 hc;refine ih (p.set s c) k.1 k.2 n2 (λs' hs'=>?_) (λs' l' e'=>?_)
    .have ne:s≠s':=λe=>n1 (e▸hs');rw[O1 ne];exact h1 s' (xf _ hs')
    .have ne:s≠s':=λe=>by subst e;rw[U9 nofun]at e';omega
     rw[O1 ne]at e';exact(xn.mp (h2 s' l' e')).resolve_left λq=>ne q.symm
   have s0:=sub 0 (.inl rfl);have s1:=sub 1 (.inr rfl);have cf:∀c:Int,(c=0\/c=1)->((inL (p.set s c) m).map λ(k:Nat)=>w.getD k 0*pd pr a m k o (p.set s (bt m k s))).sum=Co w pr a m o (p.set s c):=λc hc=>by unfold Co;congr 1;refine S6 λk hk=>?_;rw[jmb hp hs hps hc hk]
   have e:Co w pr a m (s::o) p=pr.getD s 0*wsum w m p+(Co w pr a m o (p.set s 0)+Co w pr a m o (p.set s 1)):=by rw[<-cf 0 (.inl rfl),<-cf 1 (.inr rfl),<-j1x hp hs hps];unfold Co wsum;rw[<-jd3,<-jd4];congr 1;refine S6 λk _=>?_;rw[pd,if_pos z,fT]
   have le:=jec (ns:=(qg p m).map λs=>pr.getD s 0*wsum w m p+(Wp pr (wsum w m) a m (p.set s 0)+Wp pr (wsum w m) a m (p.set s 1))) (Xm.mpr ⟨s,Xk.mpr ⟨Xb.mpr hs,decide_eq_true hps⟩,rfl⟩);rw[<-Lx hp hp3 z]at le;rw[e];omega
theorem j1z:∀(m:Nat)(r:List Int),r.length=m->fits (a5 m 2) r=a6
 |0,[],_=>rfl
 |0,_::_,h=>by cases h
 |m+1,[],h=>by cases h
 |m+1,y::r,h=>by have:=j1z m r (by simpa using h);rw[Xv];simp[fits,this]
theorem jis(m:Nat):inL (a5 m 2) m=aq (2^m):=by unfold inL;rw[List.filter_eq_self];exact λk _=>j1z m _ (jw 2 m _)
def Ord(m:Nat)(o:List Nat):Prop:=o.Nodup/\(∀s∈o,s<m)/\∀s,s<m->s∈o
theorem j22{α:Type}{x:α}:∀{l:List α}{k:Nat},l[k]?=a3 x->∀y,y∈l↔y=x\/y∈l.eraseIdx k
 |[],k,h,y=>by cases k<;>cases h
 |a::l,0,h,y=>by rw[cu]at h;cases h;rw[cw,xn]
 |a::l,k+1,h,y=>by
  rw[tu]at h;rw[sy,xn,xn,j22 (l:=l) (k:=k) h y];constructor
  .rintro(q|q|q)
   .exact .inr (.inl q)
   .exact .inl q
   .exact .inr (.inr q)
  .rintro(q|q|q)
   .exact .inr (.inl q)
   .exact .inl q
   .exact .inr (.inr q)
theorem j21{α:Type}{x:α}:∀{l:List α}{k:Nat},l.Nodup->l[k]?=a3 x->(l.eraseIdx k).Nodup/\x∉l.eraseIdx k
 |[],k,_,h=>by cases k<;>cases h
 |a::l,0,hn,h=>by rw[cu]at h;cases h;rw[cw];exact⟨(Xi.mp hn).2,(Xi.mp hn).1⟩
 |a::l,k+1,hn,h=>by
  rw[tu]at h;obtain⟨h1,h2⟩:=Xi.mp hn;obtain⟨i1,i2⟩:=j21 h2 h;rw[sy];refine⟨Xi.mpr ⟨λz=>h1 ((j22 (l:=l) h a).mpr (.inr z)),i1⟩,λz=>?_⟩;rcases xn.mp z with q|q
  .subst q;exact h1 (Xf h)
  .exact i2 q
theorem j7r{α β:Type}{f:α->β}:∀{l:List α}{k:Nat},(l.map f).eraseIdx k=(l.eraseIdx k).map f
 |[],k=>by cases k<;>rfl
 |a::l,0=>by rw[xm,cw,cw]
 |a::l,k+1=>by rw[xm,sy,sy,xm,j7r]
theorem j52{m:Nat}{c:En->Option Bool}{f:En->So}(E:List Nat->List Nat->Int->Int->Sv->En)
  (h0:∀od dr rs s,c (E [] od dr rs s)=a3 a4)
  (hs:∀lf od dr rs s,0<lf.length->lf.length<=6->od.length<=6->c (E lf od dr rs s)=a3 a6/\∃(z:Nat)(hz:z<lf.length)(dr' rs':Int)(s':Sv),f (E lf od dr rs s)=.next (E (lf.eraseIdx z) (od++[lf[z]]) dr' rs' s')) :
  ∀(n:Nat)(lf od:List Nat)(dr rs:Int)(s:Sv)(g:Nat),lf.length=n->n+od.length<=6->n<g->lf.Nodup->od.Nodup->(∀x,x∈lf->x∉od)->(∀x,x<m↔x∈lf\/x∈od)->∃(od':List Nat)(dr' rs':Int)(s':Sv),qx c f g (E lf od dr rs s)=.next (E [] od' dr' rs' s')/\Ord m od'/\od'.length<=6:=by
 intro n;induction n with
 |zero =>
  intro lf od dr rs s g hl hb hg n1 n2 dj all;have l0:lf=[]:=fQ hl;subst l0;obtain⟨g,rfl⟩:∃k,g=k+1:=⟨g-1,by omega⟩
  exact⟨od,dr,rs,s,by rw[qx,h0],⟨n2,λx hx=>(all x).mpr (.inr hx),λx hx=>((all x).mp hx).resolve_left λh=>nomatch h⟩,by omega⟩
 |succ n ih =>
  intro lf od dr rs s g hl hb hg n1 n2 dj all;obtain⟨g,rfl⟩:∃k,g=k+1:=⟨g-1,by omega⟩
  obtain⟨e1,z,hz,dr',rs',s',e2⟩:=hs lf od dr rs s nofun nofun nofun
  have gz:lf[z]?=a3 lf[z]:=kh hz;obtain⟨m1,m2⟩:=j21 n1 gz;have em:=j22 gz;rw[qx,e1];dsimp only;rw[e2];dsimp only;refine ih (lf.eraseIdx z) (od++[lf[z]]) dr' rs' s' g (by rw[List.length_eraseIdx_of_lt hz];omega) (by rw[Xa,cM];omega) nofun m1 ?_ ?_ ?_
  .rw[gj];exact⟨n2,by simp,λx hx y hy=>by rw[xr.mp hy];exact λq=>dj lf[z] (pq hz) (q▸hx)⟩
  .intro x h1 h2;rcases Pn.mp h2 with q|q
   .exact dj x ((em x).mpr (.inr h1)) q
   .rw[xr.mp q]at h1;exact m2 h1
  .intro x;rw[all x,em x,Pn,xr];constructor
   .rintro((q|q)|q)
    .exact .inr (.inr q)
    .exact .inl q
    .exact .inr (.inl q)
   .rintro(q|q|q)
    .exact .inl (.inr q)
    .exact .inr q
    .exact .inl (.inl q)
noncomputable def nI(k:Nat):D:=.int (k:Int)
theorem j2l{n m:Nat}{ws:List ah}{a pr w:List Int}{c:Int}(hw:ws.length=m)(hm:1<=m/\m<=6)(ha:a.length=2^m)(h01:∀x∈a,x=0\/x=1)(hr:pr.length=m)(hq:Vw pr)(hl:w.length=2^m)(h0:w.all (btw 0)=a6) :
  ∃v:Int,Wp pr (wsum w m) a m (a5 m 2)<=v/\evP 1000 G T (n+4) "_law_by_order" [qD ws a,.lst (w.map D.int),.lst (pr.map D.int),.int c]=.val (.int v):=by
 have on:=Rp (n:=n) (.inl rfl:D.tup (a.map D.int)=_\/_) hw hm ha;have p3:=O7 hm.2;have p2:=Kg hm.2;have pc:((2^m:Nat):Int)=(2:Int)^m:=by simp
 have e3:(1*2^m:Int).toNat=2^m:=by rw[cS,<-pc];exact X6 _
 have hpr:∀s,0<=pr.getD s 0:=λs=>by
  by_cases h:s<pr.length
  .exact(hq s h).1
  .rw[kj,Xu nofun];decide
 have hwn:∀k,0<=w.getD k 0/\w.getD k 0<=1000000:=λk=>by
  rw[kj];cases z:w[k]? with
  |none=>decide
  |some x =>have:=Xy.mp h0 x (Xf z);unfold btw at this;rw[Xd]at this;exact⟨of_decide_eq_true this.1,of_decide_eq_true this.2⟩
 rw[jd (F:=Wn) (by rfl) rfl];simp only[Wn,Ye,enter,qD];ext;erw[at0,on,hw];rw[X6,Bh];obtain⟨od,dr,rs,s10,e,ho,hol⟩:=j52 (m:=m)
  (c:=λρ=>truth (ev (evP 1000 G T (n+3)) G (.cmp .gt (.blt .len (.cons (.var 6) .nil)) (.lit (.int 0))) ρ))
  (f:=run 1000 (evP 1000 G T (n+3)) G (.seq (.set 8 (.bin .mod (.bin .add (.bin .mul (.var 8) (.lit (.int 48271))) (.lit (.int 7))) (.lit (.int 2147483647)))) (.seq (.set 10 (.bin .mod (.ix (.lst (.cons (.bin .fdiv (.var 8) (.lit (.int 16))) (.cons (.var 9) .nil))) (.blt .int (.cons (.cmp .ge (.var 3) (.bin .pow (.lit (.int 10)) (.lit (.int 18)))) .nil))) (.blt .len (.cons (.var 6) .nil)))) (.seq (.set 9 (.bin .fdiv (.var 9) (.blt .len (.cons (.var 6) .nil)))) (.seq (.apop 7 6 (.var 10)) .nop)))))
  (λlf od dr rs s=>[.val (.tup [.tup (ws.map D.str),.tup (a.map D.int)]),.val (.lst (w.map D.int)),.val (.lst (pr.map D.int)),.val (.int c),.val (.int m),.own ((aq (3^m)).map (onW a m)),.own (lf.map nI),.own (od.map nI),.val (.int dr),.val (.int rs),s,.un,.un,.un,.un,.un,.un])
  (λod dr rs s=>by ext)
  (λlf od dr rs s h1 h2 h3=>by
   refine⟨by ext,?_⟩
   ext
   simp only[Dp]
   ext
   generalize decide ((1000000000000000000:Int)<=c)=kb
   obtain⟨x,ex⟩:∃x:Int,atI [D.int ((dr*48271+7)%2147483647/16),.int rs] (if kb then 1 else 0)=a3 (.int x):=by cases kb<;>exact⟨_,rfl⟩
   rw[ex]
   ext
   obtain⟨z,hz,ez⟩:=j3u (c:=x) (l:=lf.length) h1
   rw[ez]
   rw[jfu (k:=z) (d:=nI lf[z]) (by rw[km];exact j3z hz) (by rw[xx,kh hz];rfl) (by decide) (by rw[km];omega) (by rw[km];omega)]
   ext
   refine⟨z,hz,(dr*48271+7)%2147483647,rs/(lf.length:Int),.val (.int (z:Int)),?_⟩
   rw[j7r,Xe]
   rfl)
  m (aq m) [] (c%2147483647) c .un 1000 Xh (by show m+0<=6;omega) nofun fG d8 (λx _ h=>nomatch h) (λx=>by rw[Xb];simp)
 refine⟨Co w pr a m od (a5 m 2),?_,?_⟩
 .refine jmw h01 hpr (λk=>(hwn k).1) od (a5 m 2) (Xg ..) (Qm m) ho.1 (λs hs=>⟨ho.2.1 s hs,?_⟩) (λs hs _=>ho.2.2 s hs);rw[kj,su,if_pos (ho.2.1 s hs)];rfl
 have e:qx _ _ 1000 [.val (.tup [.tup (ws.map D.str),.tup (a.map D.int)]),.val (.lst (w.map D.int)),.val (.lst (pr.map D.int)),.val (.int c),.val (.int m),.own ((aq (3^m)).map (onW a m)),.own ((aq m).map λ(i:Nat)=>D.int (i:Int)),.own [],.val (.int (c%2147483647)),.val (.int c),.un,.un,.un,.un,.un,.un,.un]=_:=e;erw[e,X6];rw[e3,Qa];have th:=Zm (n:=n+2) hm.2;refine Zw (λi ρ=>∃s12 s13 s14 s15 s16:Sv,ρ=[.val (.tup [.tup (ws.map D.str),.tup (a.map D.int)]),.val (.lst (w.map D.int)),.val (.lst (pr.map D.int)),.val (.int c),.val (.int m),.own ((aq (3^m)).map (onW a m)),.own [],.val (.lst (od.map nI)),.val (.int dr),.val (.int rs),s10,.val (.int (((aq i).map λ(k:Nat)=>w.getD k 0*pd pr a m k od (a5 m 2)).sum)),s12,s13,s14,s15,s16]) ⟨_,_,_,_,_,rfl⟩ ?_ ?_
 .rintro k d ρ hk ⟨s12,s13,s14,s15,s16,rfl⟩;rw[xx]at hk;obtain⟨k',hk',rfl⟩:=Xw.mp hk;obtain⟨k1,k2⟩:=X8.mp hk';rw[iX]at k2;subst k2;rw[Xh]at k1;have gw:=Uk (p:=w) (k:=k) nofun
  simp only[zu,Tn];ext;rw[th];ext;rw[<-Bd];refine O3 (λj ρ=>∃(p:List Int)(v:Int)(s15 s16:Sv),(p.length=m/\∀t∈p,0<=t/\t<3)/\v+pd pr a m k (od.drop j) p=pd pr a m k od (a5 m 2)/\(∀s∈od.drop j,p.getD s 0=2)/\ρ=[.val (.tup [.tup (ws.map D.str),.tup (a.map D.int)]),.val (.lst (w.map D.int)),.val (.lst (pr.map D.int)),.val (.int c),.val (.int m),.own ((aq (3^m)).map (onW a m)),.own [],.val (.lst (od.map nI)),.val (.int dr),.val (.int rs),s10,.val (.int (((aq k).map λ(k:Nat)=>w.getD k 0*pd pr a m k od (a5 m 2)).sum)),.val (.int (k:Int)),.val (.int (jz p)),.val (.int v),s15,s16]) ⟨a5 m 2,0,_,_,⟨Xg ..,Qm m⟩,by rw[bU];omega,λs hs=>?_,rfl⟩ ?_ ?_
  .rw[bU]at hs;rw[kj,su,if_pos (ho.2.1 s hs)];rfl
  .rintro j d ρ hj ⟨p,v,s15,s16,⟨hp,hp3⟩,hv,h2,rfl⟩;rw[xx]at hj;obtain⟨s,hs,rfl⟩:=Xw.mp hj;obtain⟨jl,je⟩:=X8.mp hs;have dr':od.drop j=s::od.drop (j+1):=by rw[Py jl,je]
   rw[dr']at hv h2;have sm:s<m:=ho.2.1 s (Xf hs);have ps:=h2 s xq;have ns:s∉od.drop (j+1):=by have:=(List.drop_sublist j od).nodup ho.1;rw[dr']at this;exact(Xi.mp this).1
   obtain⟨j1,e⟩:=Rw hp hp3;obtain⟨b1,_⟩:=Z0 hp3;obtain⟨q,hq'⟩:∃q:Nat,q=(jz p).toNat:=⟨_,rfl⟩
   have ej:jz p=(q:Int):=by omega
   rw[<-hq']at j1 e;have g:=R9 (x:=a) (m:=m) j1;have io:=Y7 (n:=n+2) (m:=m) (i:=q) h01;rw[<-e]at io;rw[pd]at hv;simp only[zu,nI];ext;rw[ej,g];ext;rw[io];cases z:opB a m p with
   |false =>rw[if_neg (by rw[z];exact xg)]at hv;ext;exact⟨_,rfl,p,v,_,_,⟨hp,hp3⟩,hv,λs' hs'=>h2 s' (xf _ hs'),by rw[ej]⟩
   |true =>
    rw[if_pos z]at hv;have th2:=Zm (n:=n+2) (k:=m-1-s) nofun
    have e1:(m:Int)-1-(s:Int)=((m-1-s:Nat):Int):=by omega
    have et:((m:Int)-(s:Int)-1).toNat=m-1-s:=by omega
    have pk:=p2k (k:=m-1-s) nofun
    rw[<-et]at pk;have gp:=Uk (p:=pr) (k:=s) nofun
    have vs:=U0 (p:=p) (s:=s) (c:=bt m k s) nofun
    have pc3:((3^(m-1-s):Nat):Int)=(3:Int)^(m-1-s):=by simp
    rw[hp,ps,<-pc3,ej]at vs;have vs:jz (p.set s (bt m k s))=(q:Int)-(2-bt m k s)*((3^(m-1-s):Nat):Int):=by rw[vs];rcases j5r m k s with b|b<;>rw[b]<;>omega
    have be:(k:Int)/(1*2^((m:Int)-(s:Int)-1).toNat)%2=bt m k s:=by rw[et,cS];rfl
    have bb:0<=bt m k s/\bt m k s<=1:=by rcases j5r m k s with b|b<;>rw[b]<;>decide
    ext;rw[be,e1,th2];ext;rw[gp];ext;refine⟨_,rfl,p.set s (bt m k s),v+pr.getD s 0,_,_,vm hp hp3 (j5r m k s),by omega,λs' hs'=>?_,by rw[vs]⟩;rw[O1 (s:=s) (t:=s') (λq=>ns (by rw[q];exact hs'))];exact h2 s' (xf _ hs')
  .rintro ρ ⟨p,v,s15,s16,⟨hp,hp3⟩,hv,_,rfl⟩;rw[km,dO,pd]at hv;have hv:v=pd pr a m k od (a5 m 2):=by omega
   subst hv;have wb:=hwn k;ext;rw[gw];ext;rw[cT,Xe,jZ];simp only[xm,bY,Xr,List.sum_nil,Int.add_zero];exact⟨_,rfl,_,_,_,_,_,rfl⟩
 .rintro ρ ⟨s12,s13,s14,s15,s16,rfl⟩;ext;rw[Xh];unfold Co;rw[jis]
noncomputable def depth:Nat:=14
theorem jlr{t:List Int}{k:Nat}(h:t.length=k+1):atI (t.map D.int) (-1)=a3 (.int (t.getD k 0)):=by unfold atI ixN;rw[km,h,if_neg (by decide),if_pos nofun];show(t.map D.int)[_]?=_;rw[show(-1+((k+1:Nat):Int)).toNat=k by omega,xx,kj,kh nofun];rfl
theorem jdw{m:Nat}{d:Option (List Int)}(h:∀l,d=a3 l->l.length=m/\l.all (btw 1)=a6):Vw (prD d m):=λs hs=>by
 cases d with
 |none =>have hs:s<(a5 m (1:Int)).length:=hs;rw[Xg]at hs;show 0<=(a5 m (1:Int)).getD s 0/\_;rw[kj,su,if_pos hs];show(0:Int)<=1/\(a5 m (1:Int)).getD s 0<=1000000;rw[kj,su,if_pos hs];decide
 |some l =>have hs:s<l.length:=hs;have:=Xy.mp (h l rfl).2 (l.getD s 0) (by rw[kj,kh hs];exact pq _);unfold btw at this;rw[Xd]at this;have h1:=of_decide_eq_true this.1;have h2:=of_decide_eq_true this.2;show 0<=l.getD s 0/\l.getD s 0<=1000000;omega
theorem jng{d:Option (List Int)}{i:Nat}{Γ:ah->List D->Rc}{ρ:En}{e:Option ah}{ρ0:En}{r:Sx}(hi:i<ρ.length):Yk (orE (Rm i (rcW (rcO d)) ρ) e ρ0) (run 1000 Γ G (.seq (.keep i) r))=run 1000 Γ G r (ρ.set i (.val (feD d))):=by
 cases d with
 |none =>simp only[rcO,j4x,j16,Ui,Yg,Ww,Ub,T5 hi,Oc];rfl
 |some l =>simp only[rcO,j4y,j15,Ui,Yg,Ww,Ub,T5 hi,Od,i3];rfl
theorem jnh {n m:Nat} {d:Option (List Int)} {i:Nat} {ρ:En} {e:Option ah} {ρ0:En} {r:Sx} {Γ:ah->List D->Rc} (hm:m<=6) (hi:i<ρ.length):Yk (orE (Rm i (rcW (evP 1000 G T (n+1) "_law_costs" [feD d,.int m])) ρ) e ρ0) (run 1000 Γ G (.seq (.keep i) r))=run 1000 Γ G r (ρ.set i (.val (.lst ((prD d m).map D.int)))):=by
 have cs:=j5n (n:=n) (d:=d) hm;cases d with
 |none =>have cs:evP 1000 G T (n+1) "_law_costs" [feD a9,.int m]=.fresh ((a5 m (1:Int)).map D.int):=cs;rw[cs];simp only[j4y,j15,Ui,Yg,Ww,Ub,T5 hi,Od,i3];rfl
 |some l =>have cs:evP 1000 G T (n+1) "_law_costs" [feD (a3 l),.int m]=.val (.lst (l.map D.int)):=cs;rw[cs];simp only[j4x,j16,Ui,Yg,Ww,Ub,T5 hi,Oc];rfl
theorem Ea {n m:Nat} {d:Option (List Int)} (hm:m<=6) (hd:∀l,d=a3 l->l.length=m/\l.all (btw 1)=a6):evP 1000 G T (n+2) "prices_told" [.int m,feD d]=.fresh ((prD d m).map D.int):=by
 cases d with
 |none=>exact j6o (n:=n+1) hm
 |some l=>exact j9j (hd l rfl).1 hm (hd l rfl).2
theorem jbg{Γ:ah->List D->Rc}{f:ah}{x y:D}{l:List D}:j2j Γ f (a3 (.a [.e x,.o l])) (a3 (.v (.e y)))=rcV (Γ f [x,.lst l,y]):=rfl
theorem Wt:∀l:List Int,l.all (btw 0)=a6->0<=l.sum/\l.sum<=1000000*(l.length:Int)
 |[],_=>⟨t8 _,t8 _⟩
 |x::l,h=>by rw[Tz,Xd]at h;obtain⟨i1,i2⟩:=Wt l h.2;have h1:=h.1;unfold btw at h1;rw[Xd]at h1;have x1:=of_decide_eq_true h1.1;have x2:=of_decide_eq_true h1.2;rw[Xr,X7];omega
theorem lawTrue:∀ns:List Int,ns.length<=63->evP 1000 G T (depth+1) "law" [.lst (ns.map D.int)]=.val (.bl a6):=by
 intro ns hns;rw[jd (F:=j5g) (by rfl) rfl];simp only[j5g,j5t,enter,depth];obtain⟨most,hmost,gm⟩:=j9u (qb ns 39);have mo:1<=most/\most<=6:=by omega
 have hm:=Kp (ns:=ns) (a:=0) (most:=most) mo;obtain⟨ws,⟨wnd,wl⟩,qs⟩:=j2y (n:=12) (ns:=ns) (a:=0) (most:=most) (by decide) mo;have qs:evP 1000 G T 14 "_law_question" [.lst (ns.map D.int),.int 0,.int most]=_:=qs;have a01:=jfv (n:=12) (ns:=ns) (a:=0) (most:=most) mo;obtain⟨m,em⟩:∃m:Nat,m=V7 ns 0 most:=⟨_,rfl⟩
 have al:(Uu 12 ns 0 most).length=2^m:=by simp[Uu,<-em]
 rw[<-em]at hm wl;generalize Uu 12 ns 0 most=a at *;have hm6:1<=m/\m<=6:=by omega
 have cz:∀k:Nat,k<=50->evP 1000 G T 14 "_law_cell" [.lst (ns.map D.int),.int (k:Int)]=.val (.int (qb ns k)):=λk hk=>Wa j0f (k:=k) nofun
 have c39:evP 1000 G T 14 "_law_cell" [.lst (ns.map D.int),.int 39]=_:=cz 39 (by decide);have c3:evP 1000 G T 14 "_law_cell" [.lst (ns.map D.int),.int 3]=_:=cz 3 (by decide);have c4:evP 1000 G T 14 "_law_cell" [.lst (ns.map D.int),.int 4]=_:=cz 4 (by decide);have c40:evP 1000 G T 14 "_law_cell" [.lst (ns.map D.int),.int 40]=_:=cz 40 (by decide);obtain⟨d,dp,dok⟩:=j2z (n:=13) (c:=qb ns 3) hm6.2;obtain⟨w,we,wlen,w0,wsn⟩:=j04 (n:=12) (c:=qb ns 4) hm6.2;have prl:(prD d m).length=m:=by
  cases d with
  |none=>exact Xg ..
  |some l=>exact(dok l rfl).1
 have hq:=jdw dok;have lw:=j06 (n:=9) (pr:=prD d m) (w:=w) wl hm6 al a01 prl hq wlen;have tl:(tab (prD d m) (wsum w m) a m).length=3^m:=Vl ..;have p3:=O7 hm6.2;have la:=jlr (t:=tab (prD d m) (wsum w m) a m) (k:=3^m-1) nofun
 have wp:(tab (prD d m) (wsum w m) a m).getD (3^m-1) 0=Wp (prD d m) (wsum w m) a m (a5 m 2):=by unfold Wp;rw[Bd,show(((3^m:Nat):Int)-1).toNat=3^m-1 by omega]
 rw[wp]at la;obtain⟨pl,hb,pe⟩:=j8t (n:=0) wl hm6 al a01 prl hq wlen w0 wsn (Ea (n:=10) hm6.2 dok);obtain⟨ls,hl,hok,hls,ce⟩:=jb6 (n:=10) wnd wl hm6 al a01 prl hb;have lc:=j9z (n:=9) (a:=a) wl hm6 wlen w0 hl hok;rw[hls]at lc;have bo:=λc:Int=>j2l (n:=10) (c:=c) wl hm6 al a01 prl hq wlen w0;have nn:=jk6 (a:=a) (wt:=wsum w m) a01 (λs hs=>(hq s nofun).1) (Lz w0 m) _ (a5 m 2) rfl (Xg ..) (Qm m);generalize hZ:Wp (prD d m) (wsum w m) a m (a5 m 2)=Z at *;have mn:=λg hg=>jed (n:=4) wl hm6 al a01 prl hq wlen w0 wsn (Ea (n:=9) hm6.2 dok) g hg;rw[hZ]at mn;have mn:=mn _ rfl;have p6:=p64 hm6.2;have sb:0<=w.sum/\w.sum<=64000000:=by have:=Wt w w0;omega
 have dv:=j26 (n:=13) (a:=Z.toNat) (b:=w.sum.toNat) nofun
 rw[Tj nn,Tj sb.1]at dv;simp only[qD]at lw pe ce lc bo mn;ext;erw[c39,gm,qs,at0];rw[wl,c3];ext;rw[dp,jng (by simp)];ext;erw[c4,we,jnh (n:=13) hm6.2 (by simp),lw,la,pe];have gb:=j7n (a:=Z.toNat) (b:=w.sum.toNat) nofun
 generalize hgg:d5 Z.toNat w.sum.toNat=gg at *;have sm:evP 1000 G T 14 "_law_same" [.tup [.int (Z/(gg:Int)),.int (w.sum/(gg:Int))],.tup [.int (Z/(gg:Int)),.int (w.sum/(gg:Int))]]=.val (.bl a6):=Iz jci 1 (n:=12) (by simp[D.dep,D.depL]) (by simp[Z4,V8]);obtain⟨sl,hsl,cutE⟩:∃sl:List Int,sl.length<=63/\cutD (ns.map D.int) (a3 41) (a3 46)=sl.map D.int:=by unfold cutD;refine⟨(ns.drop (HT.sIx (ns.map D.int).length 0 (a3 41))).take (HT.sIx (ns.map D.int).length (ns.map D.int).length (a3 46)-HT.sIx (ns.map D.int).length 0 (a3 41)),by rw[Xq,Tp];omega,by rw[List.map_take,List.map_drop]⟩
 have cl:(cutD (ns.map D.int) (a3 41) (a3 46)).length<=63:=by rw[cutE,km];exact hsl
 have isn:(feD d).isNon=d.isNone:=by cases d<;>rfl
 have fn:d.isNone=a6->feD d=.non:=λh=>by cases d with
  |none=>rfl
  |some l=>cases h
 have pe0:d.isNone=a6->evP 1000 G T (0+14) "whole_plan" [.tup [.tup (ws.map D.str),.tup (a.map D.int)],.lst (w.map D.int),.non]=.val (pD pl):=λh=>by rw[<-fn h];exact pe
 have mn0:d.isNone=a6->evP 1000 G T (4+10) "mean_price" [.tup [.tup (ws.map D.str),.tup (a.map D.int)],.lst (w.map D.int),.non]=.val (.tup [.int (Z/(gg:Int)),.int (w.sum/(gg:Int))]):=λh=>by rw[<-fn h];exact mn
 have hh:d.isNone=a4\/(d.isNone=a6/\qb ns 3/4%2=0)\/(d.isNone=a6/\¬qb ns 3/4%2=0):=by
  cases d.isNone with
  |false=>exact .inl rfl
  |true =>
   by_cases h:qb ns 3/4%2=0
   .exact .inr (.inl ⟨rfl,h⟩)
   .exact .inr (.inr ⟨rfl,h⟩)
 rw[isn];rcases hh with hb|⟨hb,h3⟩|⟨hb,h3⟩
 all_goals
  rw[hb];ext
  try (rw[c3];ext)
  try (rw[pe0 hb];ext)
  erw[ce,lc,c40];rw[cutE,show D.int (qb ns 40)::sl.map D.int=(qb ns 40::sl).map D.int from rfl];refine Zw (λi ρ=>∃s9:Sv,ρ=[.val (.lst (ns.map D.int)),.val (.tup [.tup (ws.map D.str),.tup (a.map D.int)]),.val (.int m),.val (feD d),.val (.lst (w.map D.int)),.val (.lst ((prD d m).map D.int)),.val (.int Z),.val (pD pl),.val (.lst (ls.map lfD)),s9,.un,.un]) ⟨_,rfl⟩ ?_ ?_
  .rintro i x ρ hi ⟨s9,rfl⟩;obtain⟨c,_,rfl⟩:=Xm.mp (Xf hi);obtain⟨v,hv,be⟩:=bo c;simp only[zu];ext;rw[V6 rfl,be];ext;exact⟨_,rfl,_,rfl⟩
  .rintro ρ ⟨s9,rfl⟩;ext;rw[dv];ext;rw[isn,hb];ext
   try (rw[mn0 hb];ext;rw[sm];ext)
   rw[jbg,mn];ext;rw[sm];ext
end K31
end
open PySem PySem.W PyProof.Rows
local macro_rules | `(tactic| walk_at "lf") => `(tactic| (refine' L2.lf_mk ?a ?l ?c ?k; (case a => k_is); (case l => k_is); (case c => k_is); (case k => k_is)))
local macro_rules | `(tactic| walk_at "ld") => `(tactic| (refine' L2.lfd_mk ?a ?l ?c ?k ?t; (case a => k_is); (case l => k_is); (case c => k_is); (case k => k_is); (case t => k_is)))
set_option Elab.async false
namespace PySem.W.Fast
def tw9456944978341640980:=0
def tw17861545425210004431:=0
def tw2085333172167392105:=0
def tw12557455722792136405:=0
def tw11004758622609293881:=0
def tw2356809741882698937:=0
def tw7570033494930927406:=0
def tw1107165514193747815:=0
def tw8681395971779294628:=0
def tw3444374488302337198:=0
def tw4075806352041241012:=0
def tw15364623594981752507:=0
def tw5639707160882824499:=0
def tw15835407721974937460:=0
def tw9944023569300514618:=0
def tw9994476783954548770:=0
def tw2482493432048378467:=0
def tw6578025058214788972:=0
def tw3021431747107417372:=0
def tw6776543883291313556:=0
def tw10566714019113323513:=0
def tw14735723510857819601:=0
def tw3938152046100961938:=0
def tw10289145317426856751:=0
def tw12201995495032506166:=0
def tw9501087759202659479:=0
def tw11502960925646519102:=0
def tw14067310923529295174:=0
def tw5284489819054053942:=0
def tw4260338410039806770:=0
def tw10942608975995104504:=0
def tw7465303079682761041:=0
def tw2292048987676113607:=0
def tw7586417338366959695:=0
def tw11376055047003957253:=0
def tw15855094068405543753:=0
def tw2491224252350779649:=0
def tw8053725107959531903:=0
def tw7565269992331180253:=0
def tw5839743947073087445:=0
def tw4790393850703913484:=0
def tw5234870087386382218:=0
def tw1901553599473130209:=0
def tw7866148177345857182:=0
def tw12993893026847582822:=0
def tw10755433437251143738:=0
def tw4748848052894577463:=0
def tw9409201428925999994:=0
def tw3610492846278721237:=0
def tw12548321112027640705:=0
def tw5402024101477635335:=0
def tw9145833710317148387:=0
def tw10235582965903097835:=0
def tw4953864772891147700:=0
def tw7940696554899118479:=0
def tw9436845322133043425:=0
def tw9188893671474267189:=0
def tw8363554077539152953:=0
def tw5814009784084624906:=0
def tw1225710960659138690:=0
def tw9522147308530110886:=0
def tw9286010925530904475:=0
def tw6945473072993745477:=0
def tw17655245690440103507:=0
def tw13719587608749089889:=0
def tw17666544203327890671:=0
def tw13505216873791411966:=0
def tw8257795688424773231:=0
def tw6605537811593614652:=0
def tw8654298775119779766:=0
def tw15538279391199237672:=0
def tw17089446257174206798:=0
def tw15235260583311115983:=0
def tw3819712504220575991:=0
def tw6991417677845803064:=0
def tw14833959353286615782:=0
def tw4992069128409464591:=0
def tw17760672744786218407:=0
def tw17087695810818958180:=0
def tw7568138337040227946:=0
def tw9659096224564445884:=0
def tw17152031290682026649:=0
def tw5975009936425412510:=0
def tw9902748031604150331:=0
def tw7705488685356785602:=0
def tw2899736765572224288:=0
def tw13318736445668984592:=0
def tw13710132510503660987:=0
def tw12058570645085272538:=0
def tw13928604630683501274:=0
def tw5520967917344373618:=0
def tw12014684335356086640:=0
def tw11797296319852514449:=0
def tw9895639738722300780:=0
def tw3437093433570682258:=0
def tw4259286570964383205:=0
def tw938151583775775958:=0
def tw15408027536596915504:=0
def tw15527005370313167274:=0
def tw3112759998511923519:=0
def tw18071809950182717128:=0
def tw14383482846951886021:=0
def tw5185763637430015180:=0
def tw15833385743442400507:=0
def tw1822751031111587346:=0
def tw11548407314507250079:=0
def tw9320752118789923384:=0
def tw10145136506776729633:=0
def tw8683032960761473947:=0
def tw13591291570326715304:=0
def tw8723312643371513856:=0
def tw4346851638931483127:=0
def tw2758980544665265827:=0
def tw11143719830596631472:=0
def tw3205338072564545888:=0
def tw8967254926928017449:=0
def tw2111219344217023914:=0
def tw10065196069896183195:=0
def tw8593685613991831416:=0
def tw692394857447036194:=0
def tw5504106371954983335:=0
def tw11749204671688758794:=0
def tw9755431686979938741:=0
def tw14102361125265582821:=0
def tw859178035068533537:=0
def tw5617843872499510929:=0
def tw5562460877542104103:=0
def tw4101838330532602246:=0
def tw1183890229866508577:=0
def tw10585947042884725735:=0
def tw14436125986202189284:=0
def tw18188134952676395313:=0
def tw2156878150511786036:=0
def tw9952834735628564476:=0
def tw10648326417150828603:=0
def tw14731279993780259041:=0
def tw16229045413433014868:=0
def tw7004420751015654834:=0
def tw5587207219007541567:=0
def tw15295204278373306098:=0
def tw11290530736714155987:=0
def tw438479295229619092:=0
def tw16366037081863952517:=0
def tw13984238931258135079:=0
def tw2522638998988729654:=0
def tw16245026088021165041:=0
def tw7083481605264981250:=0
def tw5185443895569637385:=0
def tw8872331395220639792:=0
def tw6232668463656913312:=0
def tw11977268367804144165:=0
def tw8803595921702999164:=0
def tw10940451014750149883:=0
def tw10958474977997074494:=0
def tw12733985469765963632:=0
def tw16770094206998571724:=0
def tw7854554427410653159:=0
def tw2760627429251966142:=0
def tw14622208555426243612:=0
def tw8028107054017266076:=0
def tw16722108345508885864:=0
def tw231649542728218679:=0
def tw2481004819720346462:=0
def tw565388530006159435:=0
def tw2546093628193742858:=0
def tw6028270950321833558:=0
def tw8023081636569571295:=0
def tw4900583119464834675:=0
def tw5559637548777383196:=0
def tw12352071110699803666:=0
def tw10936208044618152839:=0
def tw3826419516373877623:=0
def tw4433962664265673325:=0
def tw2904433437194490745:=0
def tw951733360974095434:=0
def tw14329459909908897558:=0
def tw14188118342852475765:=0
def tw1708689211545279841:=0
def tw11307093724616770493:=0
def tw12733247777158655554:=0
def tw3062528174410122248:=0
def tw8571571290793457276:=0
def tw4712064836141111204:=0
def tw534607225406862677:=0
def tw2989775936155814717:=0
def tw14025294633245592380:=0
def tw5432973399272997305:=0
def tw8954910366354612988:=0
def tw12679341033269058491:=0
def tw14779957638399849225:=0
def tw11633072382362834876:=0
def tw2283145970671624398:=0
def tw2011648041012651708:=0
def tw12891232177545157781:=0
def tw17146399543066812321:=0
def tw7895835963273992115:=0
def tw11964903153291079906:=0
def tw2836961750766191837:=0
def tw3084923631128039175:=0
def tw12805614057994614096:=0
def tw17472798667930189638:=0
def tw1358835858908697021:=0
def tw8532916008207188726:=0
def tw581646125247240838:=0
def tw8900478129079970190:=0
def tw3974759643639268404:=0
def tw2426201234570584658:=0
def tw463839923602444929:=0
def tw11312610999394201057:=0
def tw3181086225657085479:=0
def tw15201905808758918086:=0
def tw4813996951169126374:=0
def tw2350451113217342901:=0
def tw7815731928256296854:=0
def tw16685286171427821122:=0
def tw10346592529410747168:=0
def tw5808886207233896066:=0
def tw4780243916312854608:=0
def tw1049091178049096726:=0
def tw7849997692176011432:=0
def tw15177345575640709895:=0
def tw12101547862411361726:=0
def tw10090501939508662423:=0
def tw7939615061347386272:=0
def tw2322810116215313831:=0
def tw660731433183820448:=0
def tw8235168163071515334:=0
def tw9522985882459236784:=0
def tw16905430261823081619:=0
def tw17859079082172358876:=0
def tw6088328849903323655:=0
def tw722318438255812795:=0
def tw13097441093455599708:=0
def tw14540352295686342343:=0
def tw15699232584729398593:=0
def tw13108826185732336708:=0
def tw8088412380508715180:=0
def tw3466336747050036966:=0
def tw3200823452173951857:=0
def tw2047065861610144379:=0
def tw12502447234975255855:=0
def tw13289542156484115181:=0
def tw5916378686819970270:=0
def tw8166830346370326343:=0
def tw9440214871029036613:=0
def tw16056751578924882487:=0
def tw14496840198935372895:=0
def tw13318866178661214590:=0
def tw11268350816200332075:=0
def tw120038222887043483:=0
def tw2610154798879908094:=0
def tw6691083051252409926:=0
def tw3260755999924268170:=0
def tw11617752753405097085:=0
def tw3836494988594219937:=0
def tw7493265919676766713:=0
def tw17015819308414392697:=0
def tw4290664014516282937:=0
def tw6890619129776368472:=0
def tw1143946983088885579:=0
def tw16567371568502525144:=0
def tw12585462648900249500:=0
def tw14664967690984121673:=0
def tw4282969961703180905:=0
def tw15010837833811601933:=0
def tw3051956947459304575:=0
def tw13194913266631934464:=0
def tw2785636334896802090:=0
def tw3605767179567886230:=0
def tw14562108594066972739:=0
def tw7001650325865444352:=0
def tw16714689675736501124:=0
def tw16919425012307467335:=0
def tw18400217144555507547:=0
end PySem.W.Fast
set_option maxRecDepth 100000 in
set_option maxHeartbeats 0 in
theorem PySem.Challenge.cw_leastasks_k31_whole_plans_cost_least_holds : PySem.Challenge.rw_leastasks_k31_whole_plans_cost_least.Holds := by
  w_on; o_law; k_head; (case hw => w_witness2)
  k_fill
  refine L2.walkL (l := PySem.Challenge.rw_leastasks_k31_whole_plans_cost_least) (k := L2.lv (K31.depth + 1)) (x := "_law_script") (by decide) rfl rfl (fun w h Y => ⟨PySem.W.km_in_of Y, PySem.W.km_tabs_of Y⟩) ?tz ?F
  case tz => intro w; kernel_rfl
  case F =>
    intro w mg fa h KX Gn hmg tz
    refine' K31.head KX Gn hmg ?h0 ?h1 ?h2 ?h3 ?h4 ?h5 ?h6 ?h7 ?h8 ?h9 ?h10 ?h11 ?h12 ?h13 ?h14 ?h15 ?h16 ?h17 ?h18 ?h19 ?h20 ?h21 ?h22 ?h23 ?h24 ?h25 ?h26 ?h27 ?h28 ?h29 ?h30 ?h31 ?h32 ?h33 ?h34 ?h35 ?h36 ?h37 ?h38 ?h39 ?h40 ?h41 ?h42 ?h43 ?h44 ?h45 ?h46 ?h47 ?h48 ?h49 ?h50 ?h51 ?bz tz ?gn0 ?gn1 ?ga2l ?gn2 ?gn3 ?ga6l ?gn4 ?gn5 ?gn6 ?gn7 ?exa K31.lawTrue
    (case h0 => walk_at "lf")
    (case h1 => walk_at "lf")
    (case h2 => walk_at "lf")
    (case h3 => walk_at "lf")
    (case h4 => walk_at "lf")
    (case h5 => walk_at "lf")
    (case h6 => walk_at "lf")
    (case h7 => walk_at "lf")
    (case h8 => walk_at "lf")
    (case h9 => walk_at "lf")
    (case h10 => walk_at "lf")
    (case h11 => walk_at "lf")
    (case h12 => walk_at "lf")
    (case h13 => walk_at "lf")
    (case h14 => walk_at "lf")
    (case h15 => walk_at "lf")
    (case h16 => walk_at "lf")
    (case h17 => walk_at "lf")
    (case h18 => walk_at "lf")
    (case h19 => walk_at "lf")
    (case h20 => walk_at "lf")
    (case h21 => walk_at "lf")
    (case h22 => walk_at "lf")
    (case h23 => walk_at "lf")
    (case h24 => walk_at "lf")
    (case h25 => walk_at "lf")
    (case h26 => walk_at "lf")
    (case h27 => walk_at "ld")
    (case h28 => walk_at "ld")
    (case h29 => walk_at "ld")
    (case h30 => walk_at "lf")
    (case h31 => walk_at "lf")
    (case h32 => walk_at "lf")
    (case h33 => walk_at "lf")
    (case h34 => walk_at "lf")
    (case h35 => walk_at "lf")
    (case h36 => walk_at "lf")
    (case h37 => walk_at "lf")
    (case h38 => walk_at "lf")
    (case h39 => walk_at "lf")
    (case h40 => walk_at "lf")
    (case h41 => walk_at "lf")
    (case h42 => walk_at "lf")
    (case h43 => walk_at "lf")
    (case h44 => walk_at "lf")
    (case h45 => walk_at "lf")
    (case h46 => walk_at "lf")
    (case h47 => walk_at "lf")
    (case h48 => walk_at "lf")
    (case h49 => walk_at "lf")
    (case h50 => walk_at "lf")
    (case h51 => walk_at "lf")
    (case gn0 => k_is)
    (case gn1 => k_is)
    (case gn2 => k_is)
    (case gn3 => k_is)
    (case gn4 => k_is)
    (case gn5 => k_is)
    (case gn6 => k_is)
    (case gn7 => k_is)
    (case ga6l => k_is)
    (case ga2l => k_is)
    (case bz => kernel_rfl)
    (case exa => kernel_rfl)
#print axioms PySem.Challenge.cw_leastasks_k31_whole_plans_cost_least_holds