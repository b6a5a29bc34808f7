import PyProof.Rows.All
import Wide.All
import OpenK.AllK
import Wide.FinOn
import Lean
import PyProof.EqAt
import PyProof.EqKinds
import PyProof.TupleCall
import PyProof.Rows.SetFrom
import KE.KDictList
import KE.KMinKey
import PyProof.ListRange
import KE.KIntText
import PyProof.ReprRoads
import PyProof.Rows.TupTab
import PyProof.TupleOfSeq
import PyProof.Rows.SortStr
import PyProof.Rows.SortWalk
import KE.KRevIter
import PyProof.TupleOfGen
import PyProof.StrBlockL
import PySem.Challenge.RW_leastasks_k51_whole_numbers_stay
set_option Elab.async false
set_option linter.all false
set_option maxRecDepth 100000
set_option maxHeartbeats 4000000
set_option genSizeOf false
set_option genInjectivity false
abbrev zo:=List Int
open Option renaming some→a8,none→af,getD_some→dW,isSome_some→fv,getD_none→g9,map_some→gx,join_some→jW,bind→lD
open Bool renaming false→a9,true→ae,or_eq_true→cD,eq_iff_iff→dh,and_false→i7,true_and→iA,and_true→iB,not_eq_true'→ku,not_false→l7,false_and→l9,or_false→lE,not_true→lF,false_or→lG
open PySem renaming wpAny_bind→aa,Value→ah,Addr→ai,starEach→aj,Shared→aq,wpAny_pure→ar,Str→au,Expr→av,sizeLine→aw,wpAny→ay,Program→az,mainGlobals→aA,model→aB,eval→aC,World→aD,Heap→aE,Around→aF,foldedSetIterable→aH,FuncData→aJ,attributeBase→aL,wpAny_Call_Name_kw→aM,argBest→aN,behindInMarks→aO,Pos→aP,wpAny_newObj_type→aQ,backTo→aR,Keyword→aS,swapsWith→aT,cLine→aU,keywordEach→aV,cellsFrom→aW,Stmt→aX,compareOp→aZ,wpAny_field→b7,codeAny_builtin→b8,wpAny_call_entry→b9,wpAny_callSpecial?_slot→ba,Scope→be,wpAny_seqItems→bg,binaryOp→bh,backToKw→br,wpAny_holding→bA,wpAny_mono→bC,call_meets→bD,assignEach→bE,NameKind→bF,wpAny_truthy_bool→bI,wpAny_pyIter_list→bJ,codeAny_mono→bK,wpAny_typeNameOfWhole_valiter→bP,wpAny_setField_rec→bQ,IsPair→bW,codeAny→bZ,Builtin→cC,wpAny_typeNameOf_valiter→cK,plainId_quiet→cL,holding→cN,rawInt→cQ,pyNext→cZ,Obj→d7,assign→dk,wpAny_letGo→dn,sliceBounds→dq,boot_len→du,wpAny_passesOwn→dG,wpAny_loadPart'→dH,strKind→dO,BindsTo→dP,Env→dR,Arguments→dS,closureFor→dZ,builtinsNs→eA,swapsWithSole→eL,swappedStores→eM,sizeLine_eq→eY,IsZip→eZ,wpAny_pyNext_list_item→fc,sysModules→fe,intKind→ff,bootBuiltins→fg,Result→fh,letOwnedTupleGo→fq,wpAny_isOneOf_valiter→fG,wpAny_updateSeq_pair→fK,wpAny_tryCatch→fM,wpAny_setField→fN,recursionLimit→fO,newFunctionEnv→fP,intItems→fQ,firstArgMember→fR,bindArgs→fU,JoinOk→fV,IsPart→fW,GenState→fX,tupleKind→fZ,codeAmong→g0,PassesOwn→g6,wpAny_standAt→gu,wpAny_onRaise→gv,wpAny_attempt→gw,wpAny_pyIter_tuple→gE,typeIs_int→gG,isTrue→gH,defaultsOf→gJ,wpAny_dictEntries→hJ,standAt→hU,intText?→hV,draw→hW,concat_meets→hZ,callerA→i3,wpAny_forIn_list→ia,seqItems?→ib,scanBound→ic,noFill_tuple_add→ie,DictEntry→ig,wpAny_of_eq→ir,richCompare→iu,numAt→iw,Tok→iy,wpAny_updateSeq→iD,wpAny_execs_nil→iE,wpAny_dictEpoch→iG,spliced→iL,wpAny_runValue→iT,wpAny_call→iU,typeIs_str→iV,pyIter→iW,ZipApart→iX,CmpOp→iY,wpAny_binaryOp_repeat_ref→jD,wpAny_newList→jG,wpAny_comprehension_free→jH,seq_tuple_add→jI,call→jJ,pushCells→jP,field→jQ,bindL→jR,bindC→jS,again→jT,Model→jU,Meets→jV,seqSlot_of→k9,seqIndex_neg→ka,richCompare_meets_room→kc,getItem→ke,wpAny_pyNext_list_end→kz,wpAny_isTrue_Compare1→kA,seqIndex_of→kH,lookup_relabel_local→kI,intItems_at→kJ,atKey→kK,Operator→kL,wpAny_rule→lq,wpAny_load→lr,wpAny_Name→lz,tupleKind_room_in1→lA,entryOfKey→lB,wpAny_pyIter_enum→lK,wpAny_assign_Name→lL,wpAny_Return_some→lM,relabel→lN,newList→lO,collect→lP,call_sum_walkAnyS→lQ,ItemsOf→lR,wpAny_pyIter_zip→mi,wpAny_isInstance→mj,wpAny_execs_cons→mo,seqIndex?→mq,pushCells_keeps→mU,codeAny_of_tree→mV,Fin→mW,wpAny_fieldsOf→n5,newExc→n6,isSubtype_stop→n9,fitsIndex_both→nh,compEnvC→ni,Params→nj,wpAny_handled→nA,intBits_le_64→nB,evalPart_none→nC,call_list_seq→nD
open List renaming replicate→ak,range→ao,mem_or_eq_of_mem_set→cu,getD_cons_succ→cy,filterMap_cons→cz,all_cons→cB,length_zipIdx→cE,filter_append→cF,map_set→cO,getElem?_set→cP,any_cons→d6,length→d8,eq_nil_of_length_eq_zero→d9,nodup_nil→dz,getElem?_append_right→dB,foldl→dC,drop_zero→dD,pairwise_singleton→eB,filter_cons_of_pos→eC,filter_cons_of_neg→eD,map_nil→eK,of_mem_zip→eP,toList_toArray→fB,mem_map_of_mem→fC,getD_cons_zero→fD,set_eq_take_append_cons_drop→fY,not_mem_nil→gz,drop_length→gB,forIn_cons→gQ,countP_map→gR,range_add→i5,perm_ext_iff_of_nodup→i6,getElem?_cons_zero→iI,eraseIdx_cons_succ→iJ,drop_of_length_le→iM,all_map→iN,take_append_drop→iZ,singleton_append→j3,getElem?_mapIdx→jE,zip_cons_cons→jX,map_replicate→jY,getElem_range→jZ,contains_cons→k5,reverse_cons→kq,pairwise_map→kr,zipIdx_cons→kB,range'_succ→kC,mem_flatMap→kD,any_toArray→kE,zipIdx_nil→kO,set_append→kP,mem_zipIdx→kQ,find?_cons→kR,filter_map→kS,all_append→kT,forIn_nil→l6,set_set→lT,all_nil→lU,range'→mB
open Option.some renaming inj→ax
open PySem.Builtin.SmallTypes renaming nextOf→aG,ownedTupleIsFree→bj,ownedTupleHandOut→dy
open PySem.Value renaming ref→aI,none→aY,int→bB,bool→bT,str→bV,type→eE,notImplemented→iO,isInt→lI
open PySem.Builtin.Str renaming strSliceIndices→aK,tooLong→cU,occurrences→gr,glued→n0
open PySem.Builtin.Tuple renaming tupleExact→bc,tupleCompareSizes→eU,tupleTooMany→fE,tupleItemsOf→md
open Or renaming inl→bf,inr→bH
open PySem.NameKind renaming free→bo,cell→bL
open Ne renaming symm→bu
open PySem.W renaming nsIn→bx,OpenLaw→dQ,KdlSrc→gC,WalkO→jF,CodeHd→k6,Frag→mY
open PySem.Builtin renaming bitXor→bG,bitAnd→dj
open PySem.Obj renaming mapSeq→bM,data_mapFields→dE,mapFields→iC,isFreed_of_fields→jv,cls_mapFields→kv
open PySem.Builtin.Slice renaming slicePlaces→bN,sliceAdjust→cY,sliceApplied→fF,slicePartIndex→mf,sliceFields→mh
open PyProof.Rows.F renaming plain_set_update_loop→bO,entry_set_update_loop→dU
open PySem.Txt renaming slice→bR,join→fb,mul→k7,split→nu
open PySem.Builtin.List renaming listTooLong→bS,listExtendWith→mS
open False renaming elim→bU
open PySem.PassesOwn renaming never→bX
open PySem.AutoSeq1 renaming wpAny_loadPart'→bY,sub_tuple_tuple→gP
open Function renaming comp→c9
open ForInStep renaming yield→cb
open Array renaming getElem?_eq_getElem→cg,length_toList→di,getElem?_toList→eR,toList_append→fm,toList→lH
open PySem.Str renaming ofString→cj,length→mZ
open PySem.F renaming slot_tuple_iterator_next→ck,args_tuple_add_2→dF,entry_tuple_add→dN,slot_tuple_add→dX,entry_min_loop→dY,slot_list_append→eF,slot_zip_next→f7,slot_int_rmul→f9,args_dict_valueiterator_next_1→gD,entry_dict_valueiterator_next→gO,type_list_append→gX,plainAttrs_tuple→gY,args_tuple_lt_2→i4,entry_tuple_lt→i8,args_tuple_iterator_next_1→i9,slot_tuple_lt→ip,entry_tuple_iterator_next→iq,slot_tuple_index→iP,slot_tuple_count→iQ,slot_list_extend→iR,slot_dict_values→iS,slot_list_index→jA,slot_list_count→jB,slot_dict_values_iter→jC,slot_str_join→jN,slot_list_pop→jO,args_object_init_2→k8,args_tuple_mul_2→kF,plain_tuple_new→kU,plain_list_iadd→kW,entry_tuple_mul→kX,args_zip_next_1→kY,args_int_rmul_2→kZ,slot_tuple_mul→lb,entry_zip_next→lh,entry_int_rmul→lj,fills_int_mul→lJ
open Nat renaming pow_succ→cq,lt_of_le_of_lt→cG,lt_succ_self→d5,le_succ→de,le_of_lt→dw,mul_comm→eN,lt_or_ge→eO,not_lt_zero→eV,mod_two_eq_zero_or_one→ij,pow_pos→jK,mul_le_mul_right→jL,one_le_two_pow→kn,add_sub_cancel→ko,le_add_right→kN,min_eq_left→l5,mul_assoc→lS,succ_mul→mr,sub_zero→mw,sub_self→mx,min_self→my,add_zero→mz
open PySem.Builtin.Dict_items renaming ownsTuple→cA,newIterator→kx,dictOf→ky
open PySem.Calls renaming callWith_builtin→cJ,spliced_cons→dm,spliced_nil→dM,evalArgs_plain→eX,Name_function_global→gZ
open PySem.Heap renaming SameBut→cM,get?_update_self→eT,ExtBut→f6,get?_update_other→iK
open PyProof.Rows renaming seqObj→cR,IntsAre→d4,AllBare→eJ,envOfC→fj,IsTup→iz,get?_update_seq→iH,subscriptTail_builtinR→kg,StrsAre→ki,boot_min→kM,slot_tuple_getitem→lC,tail_any→nq,slicePart_none→nr,subscriptTail→nE,Constant_none→nF
open Int renaming pow_succ→cS,mul_comm→cT,add_mul_ediv_left→cX,add_comm→eQ,natCast_add→eW,toNat_of_nonneg→fH,mul_assoc→fJ,ne_of_gt→gj,mul_le_mul_of_nonneg_right→gL,fdiv_eq_ediv_of_nonneg→ik,le_of_lt→ja,le_trans→mC,mul_one→mX
open PySem.SeqAt renaming EqAt→cV,RcAt→gW
open List.Sublist renaming refl→df
open Classical renaming propDecidable→dJ
open List.Perm renaming refl→eG,eq_of_pairwise→gK,swap→jM
open List.Nodup renaming length_le_of_subset→fw
open Sum renaming inr→gc,inl→gh
open PySem.EqMixed renaming ne_str_int→lV,ne_str_bool→lW,ne_int_str→lX,ne_bool_str→lY,eq_str_int→lZ,eq_str_bool→m8,eq_int_str→m9,eq_bool_str→ma
open PySem.EqNone renaming ne_str_none→mD,ne_none_str→mE,ne_none_none→mF,ne_none_int→mG,ne_none_bool→mH,ne_int_none→mI,ne_bool_none→mJ,eq_str_none→mK,eq_none_str→mM,eq_none_none→mN,eq_none_int→mO,eq_none_bool→mP,eq_int_none→mQ,eq_bool_none→mR
def kh:=@List.getElem?_eq_getElem
def xf:=@List.getD_eq_getElem?_getD
def xg:=@List.length_map
def xj:=@PySem.Heap.get?_push_of_some
def xm:=@List.getElem?_map
def xn:=@List.mem_cons_of_mem
def xq:=@Bool.false_ne_true
def xr:=@List.mem_map
def xu:=@List.mem_singleton
def xx:=@List.length_cons
def X3:=@PySem.Heap.get?_push_size
def X4:=@PySem.Heap.lt_size
def X5:=@Int.toNat_natCast
def X6:=@List.mem_cons_self
def X7:=@List.map_cons
def X8:=@Nat.le_refl
def Xa:=@List.mem_range
def Xb:=@List.mem_cons
def Xc:=@List.getElem?_eq_none
def Xd:=@List.size_toArray
def Xe:=@List.getElem?_eq_some_iff
def Xf:=@List.map_map
def Xg:=@List.length_range
def Xh:=@List.length_append
def Xi:=@List.map_append
def Xj:=@Nat.ne_of_lt
def Xk:=@List.mem_filter
def Xl:=@Bool.and_eq_true
def Xm:=@List.getElem?_range
def Xn:=@Nat.le_trans
def Xo:=@List.mem_append_right
def Xp:=@List.mem_of_getElem?
def Xq:=@List.length_set
def Xr:=@Nat.lt_of_lt_of_le
def Xu:=@List.map_congr_left
def Xv:=@List.nodup_cons
def Xw:=@List.lookup_cons
def Xx:=@List.getElem_mem
def Xy:=@List.ext_getElem?
def Xz:=@Int.zero_add
def ph:=@List.all_eq_true
def pq:=@List.length_take
def P0:=@List.mem_append
def Pa:=@List.append_nil
def Pb:=@Option.map_eq_some_iff
def Pg:=@List.length_replicate
def Ph:=@List.replicate_succ
def Pj:=@Nat.zero_add
def Pk:=@List.getElem?_set_self
def Pn:=@Bool.false_eq_true
def Pq:=@PySem.Heap.size_push
def Pr:=@Nat.ne_of_gt
def Pu:=@List.length_filter_le
def Py:=@Nat.lt_irrefl
def Pz:=@List.set_cons_succ
def t6:=@Nat.lt_trans
def t7:=@PySem.mem_of_lookup
def t8:=@List.append_assoc
def tu:=@Option.isSome_iff_exists
def T3:=@List.set_cons_zero
def T4:=@List.getElem?_set_ne
def T5:=@PySem.Around.under_plainId
def T6:=@List.mem_iff_getElem
def T7:=@Nat.pow_le_pow_right
def T8:=@Int.pow_pos
def T9:=@List.take_of_length_le
def Tc:=@PySem.F.plain_min_loop
def Td:=@List.flatten_cons
def Te:=@List.take_add_one
def Tf:=@List.getElem?_append_left
def Tg:=@List.length_nil
def Th:=@PySem.F.slot_dict_valueiterator_next
def Ti:=@PySem.W.mg_of
def Tj:=@List.mem_append_left
def Tn:=@PySem.F.plainAttrs_list
def Tp:=@List.foldl_cons
def Tq:=@Int.emod_nonneg
def Tt:=@PySem.Heap.SameBut.update
def Tu:=@Int.ediv_eq_zero_of_lt
def Tv:=@List.length_drop
def Tw:=@List.cons_append
def Tz:=@List.nodup_range
def sr:=@List.length_singleton
def su:=@List.drop_eq_getElem_cons
def S5:=@List.getElem?_replicate
def S6:=@List.getElem?_cons_succ
def S7:=@List.take_length
def S8:=@List.countP_cons
def S9:=@Nat.zero_le
def Sd:=@List.range_succ_eq_map
def Sg:=@Int.le_refl
def Sh:=@Int.one_mul
def Sq:=@List.mem_filterMap
def Ss:=@List.mem_replicate
def Sw:=@Int.emod_lt_of_pos
def Sy:=@List.idxOf_lt_length_of_mem
def gb:=@List.nil_append
def gf:=@List.range_succ
def gk:=@List.sum_cons
def gm:=@Nat.lt_succ_of_lt
def gn:=@Nat.lt_of_succ_le
def k9j:=@And.intro
abbrev k9k:=mY
abbrev k9l:=ah→aq→Prop
abbrev k9m:=List (ai×d7)
abbrev k9n:=au→Option ah
abbrev k9o:=("__debug__":au)
abbrev k9p:=("__classdict__":au)
local macro_rules | `(tactic| omega)=>`(tactic| first | with_reducible assumption | with_reducible exact Nat.le_of_lt (by assumption) | with_reducible exact Nat.le_refl _ | lia)
local macro_rules | `(nofun)=>`(by omega)
section
namespace L2
open PySem PySem.Spec PyProof.Rows
noncomputable abbrev Key:=Sum Int au
noncomputable def jfa:Key->ah->Bool
 |.inl k,v=>lI k v
 |.inr x,v=>Value.isStrOf x v
noncomputable def jqe(w:aD):Key->Int
 |.inl k=>hashInt k
 |.inr x=>hashStr w x
def vd:∀{k:Key}{v:ah},jfa k v=ae->(∃i t,k=gh i/\v=bB i t)\/(∃x t,k=gc x/\v=bV x t)
 |.inl i,v,h=>by obtain⟨t,e⟩:=Value.isInt_shape (k:=i) (v:=v) h;exact .inl ⟨i,t,rfl,e⟩
 |.inr x,v,h=>by obtain⟨t,e⟩:=Value.isStrOf_shape (x:=x) (v:=v) h;exact .inr ⟨x,t,rfl,e⟩
def jl2(a b:Int):decide ((gh a:Key)=gh b)=(a==b):=by
 by_cases e:a=b
 .subst e;simp
 .have h:¬(gh a:Key)=gh b:=λq=>e (Sum.inl.inj q);rw[decide_eq_false h];exact(beq_eq_false_iff_ne.mpr e).symm
def jkz(a b:au):decide ((gc a:Key)=gc b)=decide (a=b):=by
 by_cases e:a=b
 .subst e;simp
 .have h:¬(gc a:Key)=gc b:=λq=>e (Sum.inr.inj q);rw[decide_eq_false h,decide_eq_false e]
def jl1(a:Int)(b:au):decide ((gh a:Key)=gc b)=a9:=decide_eq_false (λq=>nomatch q)
def jl0(a:au)(b:Int):decide ((gc a:Key)=gh b)=a9:=decide_eq_false (λq=>nomatch q)
noncomputable def j6l(prog:az)(w:aD):PySem.KeyKind prog w Key where
 is:=jfa
 hash:=jqe w
 inj:=λv a b ha hb=>by
  rcases vd ha with ⟨i,t,rfl,rfl⟩|⟨x,t,rfl,rfl⟩
  .rcases vd hb with ⟨j,u,rfl,e⟩|⟨y,u,rfl,e⟩
   .injection e with e1 _;rw[e1]
   .exact nomatch e
  .rcases vd hb with ⟨j,u,rfl,e⟩|⟨y,u,rfl,e⟩
   .exact nomatch e
   .injection e with e1 _;rw[e1]
 byValue:=λk v h=>by rcases vd h with ⟨i,t,rfl,rfl⟩|⟨x,t,rfl,rfl⟩<;>rfl
 pyHash:=λhv h=>by
  rcases vd hv with ⟨i,t,rfl,rfl⟩|⟨x,t,rfl,rfl⟩
  .exact wpAny_pyHash_int h
  .exact wpAny_pyHash_str h
 eqBool:=λhu hv h=>by
  rcases vd hu with ⟨i,t,rfl,rfl⟩|⟨x,t,rfl,rfl⟩
  .rcases vd hv with ⟨j,u,rfl,rfl⟩|⟨y,u,rfl,rfl⟩
   .rw[jl2]at h;exact wpAny_eqBool_int h
   .rw[jl1]at h;exact SeqAt.EqAt.int_str i t y u _ _ _ _ h
  .rcases vd hv with ⟨j,u,rfl,rfl⟩|⟨y,u,rfl,rfl⟩
   .rw[jl0]at h;exact SeqAt.EqAt.str_int x t j u _ _ _ _ h
   .rw[jkz]at h;exact wpAny_eqBool_str h
 «strs»:=λk x t v h=>by
  rcases vd h with ⟨i,u,rfl,e⟩|⟨y,u,rfl,e⟩
  .exact nomatch e
  .injection e with e1 _;subst e1;cases v<;>rfl
set_option genInjectivity true in
inductive V where
 |non|bl (b:Bool)|int (i:Int)|str (x:au)|byt (b:Array UInt8)|flt (b:UInt64)|ref (a:ai)|ty (n:String)
 deriving DecidableEq
def RelV:V->ah->Prop
 |.non,u=>u=aY
 |.bl b,u=>u=bT b
 |.int i,u=>∃t,u=bB i t
 |.str x,u=>∃t,u=bV x t
 |.byt b,u=>∃t,u=Value.bytes b t
 |.flt b,u=>∃t,u=Value.float b t
 |.ref a,u=>u=aI a
 |.ty n,u=>u=eE n
abbrev Vals:List V->List ah->Prop:=Paired RelV
theorem Vals.length{xs:List V}{us:List ah}(r:Vals xs us):xs.length=us.length:=Paired.length r
theorem Vals.get:∀{xs:List V}{us:List ah}{i:Nat}{x:V},Vals xs us->xs[i]?=a8 x->∃u,us[i]?=a8 u/\RelV x u
 |_,_,_,_,.nil,e=>by simp at e
 |_,_,0,_,.cons r _,e=>by simp at e;subst e;exact⟨_,rfl,r⟩
 |_,_,i+1,x,.cons _ t,e=>by obtain⟨u,h1,h2⟩:=Vals.get (i:=i) (x:=x) t (by simpa using e);exact⟨u,by simpa using h1,h2⟩
theorem Vals.set{x:V}{u:ah}(r:RelV x u):∀{xs:List V}{us:List ah}(i:Nat),Vals xs us->Vals (xs.set i x) (us.set i u)
 |_,_,_,.nil=>.nil
 |_,_,0,.cons _ t=>.cons r t
 |_,_,i+1,.cons q t=>.cons q (Vals.set r i t)
theorem Vals.append:∀{xs ys:List V}{us ws:List ah},Vals xs us->Vals ys ws->Vals (xs++ys) (us++ws)
 |_,_,_,_,.nil,s=>s
 |_,_,_,_,.cons r t,s=>.cons r (Vals.append t s)
theorem Vals.take:∀{xs:List V}{us:List ah}(n:Nat),Vals xs us->Vals (xs.take n) (us.take n)
 |_,_,0,_=>.nil
 |_,_,_+1,.nil=>.nil
 |_,_,n+1,.cons r t=>.cons r (Vals.take n t)
theorem Vals.drop:∀{xs:List V}{us:List ah}(n:Nat),Vals xs us->Vals (xs.drop n) (us.drop n)
 |_,_,0,r=>r
 |_,_,_+1,.nil=>.nil
 |_,_,n+1,.cons _ t=>Vals.drop n t
def jmp:Option V->Option ah->Prop
 |some v,a8 u=>RelV v u
 |none,af=>True
 |_,_=>False
def KV{κ:Type}:List (κ×V)->List (κ×ah)->Prop:=Paired λ(p:κ×V) (q:κ×ah)=>p.1=q.1/\RelV p.2 q.2
noncomputable def kV:Key->V
 |.inl i=>.int i
 |.inr x=>.str x
inductive HO where
 |lst (xs:List V)
 |tup (xs:List V)
 |dK (kvs:List (Key×V))|dT (kvs:List (List Key×V))
 |dI (xs:List (zo×ai×ah)) (ep:Nat)
 |set (S:Int->Bool) (n:Nat)
 |ins (C dx:ai) (fs:List (au×V))
 |own (x:ai)
 |xd (fs:List (au×V))
 |met (f x:ai)
 |rng (lo hi:Int)
 |frz (o:d7) (u:HO)
 |tbl (ps:Array ah)
 |cod (q:au)
 |ext (φ:aE->Prop)
noncomputable abbrev Hp:=ai->Option HO
noncomputable def upd(H:Hp)(a:ai)(o:HO):Hp:=λb=>if b=a then a8 o else H b
variable{H:Hp}{a:ai}{o:HO}
def j8:upd H a o a=a8 o:=by unfold upd;rw[if_pos rfl]
variable{b:ai}
def jk(h:b≠a):upd H a o b=H b:=by unfold upd;rw[if_neg h]
def v9(h:H a=a8 o)(h':H b=af):a≠b:=by intro e;subst e;rw[h]at h';cases h'
def Vh(h:aE)(a:ai):Prop:=∀o,h.get? a=a8 o->o.dict=af
def Vh.new(h:aE)(xs:Array ah):Vh (h.push { cls:=.type "tuple",data:=.seq xs }) h.objs.size:=λo e=>by have z:(h.push { cls:=.type "tuple",data:=.seq xs }).get? h.objs.size=a8 { cls:=.type "tuple",data:=.seq xs }:=X3 _ rfl;rw[z]at e;cases e;rfl
variable{h:aE}
def Vh.of{d:Data}{c:ah}(e:h.get? a=a8 { cls:=c,data:=d }):Vh h a:=λo e'=>by rw[e]at e';cases e';rfl
def Dg(o:d7)(q:au):Prop:=∃(vs:Array ah)(t:iy),o.data=.fields vs/\vs[1]?=a8 (.str q t)
section
variable(P:az)(w:aD)
def jm(H:Hp)(h:aE)(a:ai):HO->Prop
 |.lst xs=>xs.length<=aw/\∃(its:List ah)(n:Nat),Vals xs its/\h.get? a=a8 { cls:=.type "list",data:=.seq its.toArray n }
 |.tup xs=>xs.length<=aw/\∃its:List ah,Vals xs its/\iz h a its.toArray/\Vh h a
 |.dK kvs=>kvs.length<=aw/\(a==fe)=a9/\∃vs,KV kvs vs/\h.DictOf (j6l P w) a vs
 |.dT kvs=>kvs.length<=aw/\(a==fe)=a9/\∃xs:List (List Key×ai×ah),
   Paired (λ(p:List Key×V) (q:List Key×ai×ah)=>p.1=q.1/\H q.2.1=a8 (.tup (p.1.map kV))/\RelV p.2 q.2.2) kvs xs /\
   ∃o es ep,h.get? a=a8 o/\o.ExactDict/\o.data=.dict es ep/\es.toList=xs.map (lB (fZ (j6l P w)))/\(xs.map (·.1)).Nodup
 |.dI xs ep=>xs.length<=aw/\(a==fe)=a9/\(xs.map λx=>x.1).Nodup/\∃(o:d7)(es:Array ig),h.get? a=a8 o/\o.ExactDict/\o.data=.dict es ep/\es.toList=xs.map (lB (fZ (ff P w)))
 |.set S n=>h.SetOf (ff P w) a S n
 |.ins C dx fs=>H dx=a8 (.own a)/\fs.length<=1000/\dx≠a/\h.get? a=a8 (W.instObj C dx) /\
   ∃mA,h.Ns1 dx mA/\(∀f,jmp (fs.lookup f) (mA f))/\PySem.Within mA (fs.map (·.1))
 |.own _=>∃o,h.get? a=a8 o
 |.xd fs=>∃mA,h.Ns1 a mA/\∀f,jmp (fs.lookup f) (mA f)
 |.rng lo hi=>∃t u v,h.get? a=a8 { cls:=.type "range",data:=.fields #[.int lo t,.int hi u,.int 1 v] }
 |.frz o u=>h.get? a=a8 o/\jm H h a u
 |.tbl ps=>h.get? a=a8 { cls:=.none,data:=.fields ps }
 |.cod q=>∃ps:Array ah,h.get? a=a8 (W.tabObj ps)/\TriplesOk ps.toList/\∀pos cv,g0 pos ps.toList=a8 cv->∃(c:ai)(oc:d7),cv=.ref c/\H c=a8 (.frz oc (.own 0))/\Dg oc q
 |.met f x=>h.get? a=a8 (W.methodObj (.ref f) (.ref x))
 |.ext φ=>φ h/\(∃o,h.get? a=a8 o)/\∀h1 h2:aE,φ h1->(∀o,h1.get? a=a8 o->h2.get? a=a8 o)->φ h2
def HOk(H:Hp)(h:aE):Prop:=∀a o,H a=a8 o->jm P w H h a o
end
section
variable{P:az}{w:aD}{H H':Hp}{h h':aE}{a:ai}{o:HO}
theorem jm.lt(x:jm P w H h a o):a<h.objs.size:=by
 cases o with
 |lst xs=>obtain⟨_,_,_,_,e⟩:=x;exact X4 e
 |tup xs=>obtain⟨_,_,_,p,_⟩:=x;exact p.lt
 |dK kvs=>obtain⟨_,_,_,_,o,_,_,e,_⟩:=x;exact X4 e
 |dT kvs=>obtain⟨_,_,_,_,o,_,_,e,_⟩:=x;exact X4 e
 |dI xs ep=>obtain⟨_,_,_,o,_,e,_⟩:=x;exact X4 e
 |set S n=>obtain⟨o,_,_,_,e,_⟩:=x;exact X4 e
 |ins C dx fs=>obtain⟨_,_,_,e,_⟩:=x;exact X4 e
 |own y=>obtain⟨_,e⟩:=x;exact X4 e
 |xd fs=>obtain⟨_,⟨_,_,_,e,_⟩,_⟩:=x;exact X4 e
 |rng lo hi=>obtain⟨_,_,_,e⟩:=x;exact X4 e
 |frz ob u=>obtain⟨e,_⟩:=x;exact X4 e
 |tbl ps=>exact X4 (show h.get? a=a8 _ from x)
 |cod q=>obtain⟨_,e,_⟩:=x;exact X4 e
 |met f y=>exact X4 (show h.get? a=a8 _ from x)
 |ext φ=>obtain⟨_,⟨_,e⟩,_⟩:=x;exact X4 e
theorem Paired.mapP{α β:Type}{F G:α->β->Prop}:∀{l₁:List α}{l₂:List β},Paired F l₁ l₂->(∀a b,F a b->G a b)->Paired G l₁ l₂
 |_,_,.nil,_=>.nil
 |_,_,.cons r t,f=>.cons (f _ _ r) (Paired.mapP t f)
def jm.stay(x:jm P w H h a o)(k:∀b u,(b=a\/H b=a8 (.own a))->h.get? b=a8 u->h'.get? b=a8 u)
  (ho:∀b,H b=a8 (.own a)->H' b=a8 (.own a)) (ht:∀b xs,H b=a8 (.tup xs)->H' b=a8 (.tup xs)) (hz:∀b o,(∃vs,o.data=.fields vs)->H b=a8 (.frz o (.own 0))->H' b=a8 (.frz o (.own 0))):jm P w H' h' a o:=by
 induction o with
 |lst xs=>obtain⟨z,its,n,r,e⟩:=x;exact⟨z,its,n,r,k _ _ (.inl rfl) e⟩
 |tup xs =>obtain⟨z,its,r,⟨ob,e,c⟩,nd⟩:=x;refine⟨z,its,r,⟨ob,k _ _ (.inl rfl) e,c⟩,λo q=>?_⟩;rw[k _ _ (.inl rfl) e]at q;cases q;exact nd _ e
 |dK kvs=>obtain⟨z,y,vs,r,ob,es,ep,e,c⟩:=x;exact⟨z,y,vs,r,ob,es,ep,k _ _ (.inl rfl) e,c⟩
 |dT kvs =>obtain⟨z,y,xs,r,ob,es,ep,e,c⟩:=x;exact⟨z,y,xs,Paired.mapP r λp q z=>⟨z.1,ht _ _ z.2.1,z.2.2⟩,ob,es,ep,k _ _ (.inl rfl) e,c⟩
 |dI xs ep=>obtain⟨z,y,nd,ob,es,e,c⟩:=x;exact⟨z,y,nd,ob,es,k _ _ (.inl rfl) e,c⟩
 |set S n=>obtain⟨ob,es,ep,t,e,c⟩:=x;exact⟨ob,es,ep,t,k _ _ (.inl rfl) e,c⟩
 |ins C dx fs =>obtain⟨d,z,ne,e,mA,⟨od,es,ep,e2,c⟩,r⟩:=x;exact⟨ho _ d,z,ne,k _ _ (.inl rfl) e,mA,⟨od,es,ep,k _ _ (.inr d) e2,c⟩,r⟩
 |own y=>obtain⟨ob,e⟩:=x;exact⟨ob,k _ _ (.inl rfl) e⟩
 |xd fs=>obtain⟨mA,⟨od,es,ep,e,c⟩,r⟩:=x;exact⟨mA,⟨od,es,ep,k _ _ (.inl rfl) e,c⟩,r⟩
 |rng lo hi=>obtain⟨t,u,v,e⟩:=x;exact⟨t,u,v,k _ _ (.inl rfl) e⟩
 |frz ob u ih=>obtain⟨e,q⟩:=x;exact⟨k _ _ (.inl rfl) e,ih q⟩
 |tbl ps =>have e:h.get? a=a8 { cls:=.none,data:=.fields ps }:=x;show h'.get? a=a8 { cls:=.none,data:=.fields ps };exact k a _ (.inl rfl) e
 |cod q=>obtain⟨ps,e,t,c⟩:=x;exact⟨ps,k _ _ (.inl rfl) e,t,λpos cv z=>let ⟨c,oc,e1,e2,e3⟩:=c pos cv z;⟨c,oc,e1,hz _ _ (let ⟨vs,_,z,_⟩:=e3;⟨vs,z⟩) e2,e3⟩⟩
 |met f y =>have e:h.get? a=a8 (W.methodObj (.ref f) (.ref y)):=x;show h'.get? a=a8 (W.methodObj (.ref f) (.ref y));exact k a _ (.inl rfl) e
 |ext φ=>obtain⟨p,⟨o,e⟩,st⟩:=x;exact⟨st _ _ p λo q=>k _ _ (.inl rfl) q,⟨o,k _ _ (.inl rfl) e⟩,st⟩
theorem HOk.lt(x:HOk P w H h)(e:H a=a8 o):a<h.objs.size:=(x a o e).lt
def HOk.fresh(x:HOk P w H h)(e:h.objs.size<=a):H a=af:=by
 cases q:H a with
 |none=>rfl
 |some u=>exact absurd (Xr (x.lt q) e) (Py _)
def HOk.kept(x:HOk P w H h)(k:∀b u,h.get? b=a8 u->h'.get? b=a8 u):HOk P w H h':=λa o e =>(x a o e).stay (λb u _ q=>k b u q) (λ_ q=>q) (λ_ _ q=>q) λ_ _ _ q=>q
def HOk.laid(x:HOk P w H h)(k:∀b u,h.get? b=a8 u->h'.get? b=a8 u)(hp:h.objs.size<=a)(new:jm P w (upd H a o) h' a o):HOk P w (upd H a o) h':=λb u e=>by
 have hn:=x.fresh hp;by_cases hb:b=a
 .subst hb;rw[j8]at e;cases e;exact new
 .rw[jk hb]at e;exact(x b u e).stay (λc v _ q=>k c v q) (λc q=>by rw[jk (v9 q hn)];exact q) (λc xs q=>by rw[jk (v9 q hn)];exact q) λc _ _ q=>by rw[jk (v9 q hn)];exact q
end
def Rd(H:Hp)(a:ai)(u:HO):Prop:=H a=a8 u\/∃o,H a=a8 (.frz o u)
variable{P:az}{w:aD}
def Rd.ok{u:HO}(r:Rd H a u)(x:HOk P w H h):jm P w H h a u:=by
 rcases r with r|⟨o,r⟩
 .exact x a u r
 .obtain⟨_,q⟩:=x a _ r;exact q
def Mut:Option HO->Prop
 |some (.lst _)=>True
 |some (.dK _)=>True
 |some (.dT _)=>True
 |some (.dI _ _)=>True
 |some (.set _ _)=>True
 |some (.ins _ _ _)=>True
 |some (.ext _)=>True
 |some (.cod _)=>True
 |_=>False
section
variable{P:az}{w:aD}{H:Hp}{h h':aE}{x e:ai}{o':HO}
def HOk.write(ok:HOk P w H h)(mu:Mut (H x))(he:e=x\/H e=a8 (.own x))(k:∀b u,b≠e->h.get? b=a8 u->h'.get? b=a8 u)(heo:∃u,h'.get? e=a8 u)
  (new:jm P w (upd H x o') h' x o'):HOk P w (upd H x o') h':=λb u q=>by
 have nown:∀c y,H c=a8 (.own y)->c≠x:=λc y r z=>by subst z;rw[r]at mu;exact mu
 have ntup:∀c xs,H c=a8 (.tup xs)->c≠x:=λc xs r z=>by subst z;rw[r]at mu;exact mu
 have nfrz:∀c o u,H c=a8 (.frz o u)->c≠x:=λc o u r z=>by subst z;rw[r]at mu;exact mu
 by_cases hb:b=x
 .subst hb;rw[j8]at q;cases q;exact new
 .rw[jk hb]at q;by_cases hbe:b=e
  .have q':H b=a8 (.own x):=by
    rcases he with z|z
    .exact absurd (hbe.trans z) hb
    .rw[hbe];exact z
   rw[q]at q';cases q';obtain⟨v,hv⟩:=heo;exact⟨v,by rw[hbe];exact hv⟩
  .refine(ok b u q).stay (λc v hc r=>k c v ?_ r) (λc r=>by rw[jk (nown c b r)];exact r) (λc xs r=>by rw[jk (ntup c xs r)];exact r) λc o _ r=>by rw[jk (nfrz c o _ r)];exact r
   rcases hc with rfl|hc
   .exact hbe
   .rintro rfl;rcases he with z|z
    .exact nown c b hc z
    .rw[hc]at z;cases z;exact hb rfl
end
structure Un(fs ex:List ai)(H H':Hp)(h h':aE):Prop where
 keep:∀b o,h.get? b=a8 o->H b=af->b∉fs->b∉ex->h'.get? b=a8 o
 slot:∀b o,h.get? b=a8 o->H b=af->b∈fs->b∉ex->∃sl,h'.get? b=a8 { o with slots:=sl }
 free:∀b o,h.get? b=a8 o->H b=af->b∉ex->H' b=af
 there:∀b o,h.get? b=a8 o->b∉ex->∃o',h'.get? b=a8 o'
 tups:∀b xs,H b=a8 (.tup xs)->H' b=a8 (.tup xs)
 frzs:∀b o u,H b=a8 (.frz o u)->H' b=a8 (.frz o u)
 tbls:∀b ps,H b=a8 (.tbl ps)->∃more,H' b=a8 (.tbl (ps++more))
section
variable{fs fs' ex ex':List ai}{H H1 H2:Hp}{h h1 h2 h':aE}{a x e:ai}{o:HO}
def Un.any(u:Un fs ex H H1 h h1){ob:d7}(q:h.get? b=a8 ob)(n:H b=af)(hx:b∉ex):∃sl,h1.get? b=a8 { ob with slots:=sl }:=by
 by_cases hb:b∈fs
 .exact u.slot b ob q n hb hx
 .exact⟨ob.slots,u.keep b ob q n hb hx⟩
def Un.kept(k:∀b u,h.get? b=a8 u->h'.get? b=a8 u):Un fs ex H H h h' :=
 ⟨λb ob q _ _ _=>k b ob q,λb ob q _ _ _=>⟨ob.slots,k b ob q⟩,λ_ _ _ n _=>n,λb ob q _=>⟨ob,k b ob q⟩,λ_ _ q=>q,λ_ _ _ q=>q,λ_ ps q=>⟨#[],by rw[q];simp⟩⟩
def Un.refl:Un fs ex H H h h:=Un.kept λ_ _ q=>q
def Un.laid(k:∀b u,h.get? b=a8 u->h'.get? b=a8 u)(hp:h.objs.size<=a)(hn:H a=af):Un fs ex H (upd H a o) h h' where
 keep:=λb u q _ _ _=>k b u q
 slot:=λb u q _ _ _=>⟨u.slots,k b u q⟩
 free:=λb u q n _=>by rw[jk (Xj (Xr (X4 q) hp))];exact n
 there:=λb u q _=>⟨u,k b u q⟩
 tups:=λb xs q=>by rw[jk (v9 q hn)];exact q
 frzs:=λb u xs q=>by rw[jk (v9 q hn)];exact q
 tbls:=λb ps q=>⟨#[],by rw[jk (v9 q hn),q];simp⟩
def Un.write(mu:Mut (H x))(he:e=x\/H e=a8 (.own x))(k:∀b u,b≠e->h.get? b=a8 u->h'.get? b=a8 u)(heo:∃u,h'.get? e=a8 u):Un fs ex H (upd H x o) h h':=by
 have hx:∀b,H b=af->b≠x:=λb n z=>by subst z;rw[n]at mu;exact mu
 have hb:∀b,H b=af->b≠e:=λb n z=>by
  subst z;rcases he with r|r
  .exact hx b n r
  .rw[n]at r;cases r
 have hm:∀b u,H b=a8 u->¬Mut (a8 u)->b≠x:=λb u q nm z=>by subst z;rw[q]at mu;exact nm mu
 refine⟨λb u q n _ _=>k b u (hb b n) q,λb u q n _ _=>⟨u.slots,k b u (hb b n) q⟩,λb u q n _=>by rw[jk (hx b n)];exact n,λb u q _=>?_,
  λb xs q=>by rw[jk (hm b _ q λz=>z)];exact q,λb u xs q=>by rw[jk (hm b _ q λz=>z)];exact q,λb ps q=>⟨#[],by rw[jk (hm b _ q λz=>z),q];simp⟩⟩
 by_cases hbe:b=e
 .subst hbe;exact heo
 .exact⟨u,k b u hbe q⟩
end
noncomputable def trk(h:aE)(H:Hp):List ai:=(ao h.objs.size).filter λa=>(H a).isSome
noncomputable def Mp(h:aE)(H:Hp):aE:=W.hideAll h (trk h H)
def jah(h:aE)(H:Hp):(Mp h H).objs.size=h.objs.size:=W.hideAll_size _ _
variable{o:d7}
def jde(e:h.get? b=a8 o)(n:H b=af):(Mp h H).get? b=a8 o :=
 W.hideAll_get _ e λhm=>by have q:(H b).isSome=ae:=(Xk.mp hm).2;rw[n]at q;simp at q
def jhd(e:(Mp h H).get? b=a8 o):h.get? b=a8 o/\H b=af:=by
 have e':h.get? b=a8 o:=W.of_hideAll (trk h H) e;refine⟨e',?_⟩;cases q:H b with
 |none=>rfl
 |some x =>have hm:b∈trk h H:=Xk.mpr ⟨Xa.mpr (X4 e'),by simp[q]⟩;have z:(Mp h H).get? b=af:=W.hideAll_none (trk h H) hm;rw[z]at e;cases e
noncomputable def jiq(g h:aE)(L:ai):List (ai×d7):=(ao h.objs.size).filterMap λa=>if a=L\/(g.get? a).isSome=ae then af else(h.get? a).map λo=>(a,o)
noncomputable def rest(g h:aE)(L d:ai):List (ai×d7):=(jiq g h L).filter λp=>decide (p.1≠d)
structure Mod(K:k9k)(mg:k9n)(base:aE):Prop where
 kin:K.In base
 glob:base.Ns aA mg
 blt:∃mb,base.Ns eA mb/\∀x:au,x ≠ "__name__"->mb x=fg x
 nolimit:base.NoLimit
 bm:∃bm ob,mg "__builtins__" = a8 (.ref bm)/\bm≠eA/\base.get? bm=a8 ob/\ob.cls=.type "module"/\ob.dict=a8 eA/\ob.data=.plain
structure Cx where
 prog:az
 w:aD
 K:k9k
 mg:au->Option ah
 base:aE
 A:aF
 N:List au
 s₀:aq
 H₀:Hp
 env:dR
 outer:List dR
 stack:List dR
 ex:List ai
 fn:au->Bool
 calm:Bool
 pn:List (ai×d7)
 xe:ah->aq->Prop
noncomputable def frs(l:List dR):List ai:=l.filterMap (·.frame)
noncomputable abbrev Cx.fs(X:Cx):List ai:=frs X.outer
def Vis(sc:be)(x:au):Prop:=sc.names.lookup x=a8 .local\/sc.names.lookup x=a8 .cell\/sc.names.lookup x=a8 .free
def Loc(sc:be)(x:au):Prop:=sc.names.lookup x=a8 .local\/sc.names.lookup x=a8 .cell
def Look(env:dR)(h:aE)(m:k9n)(x:au)(u:ah):Prop :=
 (env.kindOf x=a8 .local/\m x=a8 u)\/((env.kindOf x=a8 .cell\/env.kindOf x=a8 .free)/\∃c,env.cells.lookup x=a8 c/\h.IsCell c (a8 u))
structure Cx.Ok(X:Cx):Prop where
 mod:Mod X.K X.mg X.base
 kind:X.env.scope.kind=.function
 glob:X.env.globals=aA
 blt:X.env.builtins=eA
 above:X.s₀.heap.objs.size<=X.env.locals
 inj:∀x y c,X.env.cells.lookup x=a8 c->X.env.cells.lookup y=a8 c->x=y
 has:∀x,(X.env.kindOf x=a8 .cell\/X.env.kindOf x=a8 .free)->∃c,X.env.cells.lookup x=a8 c
 cab:∀x c,X.fn x=ae->X.env.cells.lookup x=a8 c->X.s₀.heap.objs.size<=c
 hd:X.calm=ae->X.A.handled=af
 frames:X.A.frames=a8 X.stack
 stk:X.stack=X.outer\/(X.stack=X.env::X.outer/\X.env.frame=a8 X.env.locals)
 exf:∀b∈X.ex,b≠X.env.locals/\∀x c,X.env.cells.lookup x=a8 c->c≠b
 bs:∀b o,X.base.get? b=a8 o->X.s₀.heap.get? b=a8 o/\X.H₀ b=af
 bsz:X.base.objs.size<=X.s₀.heap.objs.size
 noex:∀b o,X.base.get? b=a8 o->b∉X.ex
 exfs:∀b∈X.ex,b∉X.fs
 funs:X.s₀.heap.FunFrames X.base X.outer
 frf:∀b∈X.fs,X.H₀ b=af
structure Inv(X:Cx)(pins:k9m)(σ:List (Option V))(H:Hp)(s:aq):Prop where
 ok:X.Ok
 os:s.os=X.s₀.os
 bare:eJ s.gens
 base:Un X.fs X.ex X.H₀ H X.s₀.heap s.heap
 loc:∃m,s.heap.Ns X.env.locals m/\∀(i:Nat)(x:au)(v:V),X.N[i]?=a8 x->σ[i]?=a8 (a8 v)->Vis X.env.scope x->∃u,RelV v u/\Look X.env s.heap m x u
 cell:∀x c,X.env.cells.lookup x=a8 c->∃v,s.heap.IsCell c v
 free:H X.env.locals=af
 freeC:∀x c,X.env.cells.lookup x=a8 c->H c=af
 pin:∀p∈X.pn++pins,s.heap.get? p.1=a8 p.2/\H p.1=af/\p.1≠X.env.locals/\p.1∉X.fs/\∀v,p.2.data≠.cell v
 hok:HOk X.prog X.w H s.heap
 len:σ.length=X.N.length
variable{u:ah}{v:V}{ch:List ai}{i:Nat}{x:au}
section
variable{X:Cx}{pins:k9m}{σ:List (Option V)}{H H':Hp}{s:aq}{h':aE}
def Cx.Ok.nofr(ok:X.Ok)(e:X.base.get? b=a8 o):b∉X.fs:=λhb=>by have:=(ok.funs.mem hb).1;rw[e]at this;cases this
theorem Inv.bs(I:Inv X pins σ H s):∀b o,X.base.get? b=a8 o->s.heap.get? b=a8 o/\H b=af:=λb o e =>⟨I.base.keep b o (I.ok.bs b o e).1 (I.ok.bs b o e).2 (I.ok.nofr e) (I.ok.noex b o e),I.base.free b o (I.ok.bs b o e).1 (I.ok.bs b o e).2 (I.ok.noex b o e)⟩
def Inv.bk(I:Inv X pins σ H s):∀b o,X.base.get? b=a8 o->s.heap.get? b=a8 o:=λb o e=>(I.bs b o e).1
theorem Inv.mod(I:Inv X pins σ H s):Mod X.K X.mg X.base:=I.ok.mod
def Inv.kIn(I:Inv X pins σ H s):X.K.In s.heap:=I.ok.mod.kin.keeps I.bk
theorem Inv.lt(I:Inv X pins σ H s):X.env.locals<s.heap.objs.size:=let ⟨_,hn,_⟩:=I.loc;hn.lt
def Inv.sz(I:Inv X pins σ H s):X.s₀.heap.objs.size<=s.heap.objs.size:=Xn I.ok.above (dw I.lt)
def Inv.nofs(I:Inv X pins σ H s)(h:s.heap.objs.size<=a):a∉X.fs:=λhb=>by obtain⟨_,o,ho,_⟩:=I.ok.funs.mem hb;exact absurd (Xr (X4 ho) (Xn I.sz h)) (Py _)
def Inv.cne(I:Inv X pins σ H s):∀x c,X.env.cells.lookup x=a8 c->c≠X.env.locals:=λx c e z=>by obtain⟨v,o,ho,hd⟩:=I.cell x c e;obtain⟨m,⟨o',es,ep,ho',hd',_⟩,_⟩:=I.loc;rw[z,ho']at ho;cases ho;rw[hd']at hd;cases hd
theorem Inv.funs(I:Inv X pins σ H s):s.heap.FunFrames X.base X.outer:=by
 have all:∀(l:List dR),(∀b∈frs l,b∈X.fs)->X.s₀.heap.FunFrames X.base l->s.heap.FunFrames X.base l:=by
  intro l;induction l with
  |nil=>intro _ _;trivial
  |cons env r ih =>intro hs hl;obtain⟨hk,⟨L,o,hf,hn,ho,hd⟩,hr⟩:=hl;have hL:L∈X.fs:=hs L (by unfold frs;rw[cz,hf];exact X6);obtain⟨sl,e⟩:=I.base.slot L o ho (I.ok.frf L hL) hL λz=>I.ok.exfs L z hL;exact⟨hk,⟨L,_,hf,hn,e,hd⟩,ih (λb hb=>hs b (by unfold frs;rw[cz,hf];exact xn _ hb)) hr⟩
 exact all X.outer (λ_ hb=>hb) I.ok.funs
theorem Inv.stack(I:Inv X pins σ H s):s.heap.FunFrames X.base X.stack:=by
 rcases I.ok.stk with e|⟨e,hf⟩
 .rw[e];exact I.funs
 .rw[e];obtain⟨m,hn,_⟩:=I.loc;refine .cons (by rw[I.ok.kind];decide) hf hn ?_ I.funs;exact Heap.get?_none_of_le (Xn I.ok.bsz I.ok.above)
def Inv.stkSub(I:Inv X pins σ H s):∀b∈frs X.stack,b∈X.env.locals::X.fs:=λb hb=>by
 rcases I.ok.stk with e|⟨e,hf⟩
 .rw[e]at hb;exact xn _ hb
 .rw[e]at hb;unfold frs at hb;rw[cz,hf]at hb;exact hb
def Inv.stkFree(I:Inv X pins σ H s):∀b∈frs X.stack,H b=af:=λb hb=>by
 rcases Xb.mp (I.stkSub b hb)with e|hb
 .rw[e];exact I.free
 .obtain⟨_,o,ho,_⟩:=I.ok.funs.mem hb;exact I.base.free b o ho (I.ok.frf b hb) λz=>I.ok.exfs b z hb
def Inv.step{g':Array fX}{t':Nat}{d':Drawn}(I:Inv X pins σ H s)
  (hch:∀b∈ch,(b∈X.ex\/X.s₀.heap.objs.size<=b)/\b≠X.env.locals/\(∀x c,X.env.cells.lookup x=a8 c->c≠b)/\∀p∈X.pn++pins,p.1≠b)
  (keep:∀b o,b≠X.env.locals->b∉X.fs->b∉ch->s.heap.get? b=a8 o->H b=af->h'.get? b=a8 o)
  (slot:∀b o,b≠X.env.locals->b∈X.fs->b∉ch->s.heap.get? b=a8 o->H b=af->∃sl,h'.get? b=a8 { o with slots:=sl }) (free:∀b o,b∉ch->s.heap.get? b=a8 o->H b=af->H' b=af)
  (there:∀b o,b∉ch->s.heap.get? b=a8 o->∃o',h'.get? b=a8 o')
  (tups:∀b xs,H b=a8 (.tup xs)->H' b=a8 (.tup xs)) (frzs:∀b o u,H b=a8 (.frz o u)->H' b=a8 (.frz o u)) (tbls:∀b ps,H b=a8 (.tbl ps)->∃more,H' b=a8 (.tbl (ps++more)))
  (ns:∀m,s.heap.Ns X.env.locals m->h'.Ns X.env.locals m) (hok:HOk X.prog X.w H' h') (hg:eJ g') :
  Inv X pins σ H' { s with heap:=h',gens:=g',drawn:=d',toks:=t' }:=by
 have neL:∀b o,X.s₀.heap.get? b=a8 o->b≠X.env.locals:=λb o e=>Xj (Xr (X4 e) I.ok.above);have neC:∀b o,X.s₀.heap.get? b=a8 o->b∉X.ex->b∉ch:=λb o e hx hb=>by
  rcases(hch b hb).1 with z|z
  .exact hx z
  .exact absurd (Xr (X4 e) z) (Py _)
 have cellK:∀x c,X.env.cells.lookup x=a8 c->∀v,s.heap.IsCell c v->h'.IsCell c v:=λx c e v ⟨o,ho,hd⟩=>by
  have nch:c∉ch:=λz=>(hch c z).2.2.1 x c e rfl;by_cases hc:c∈X.fs
  .obtain⟨sl,q⟩:=slot c o (I.cne x c e) hc nch ho (I.freeC x c e);exact⟨_,q,hd⟩
  .exact⟨o,keep c o (I.cne x c e) hc nch ho (I.freeC x c e),hd⟩
 refine⟨I.ok,I.os,hg,⟨λb o e n hb hx=>?_,λb o e n hb hx=>?_,λb o e n hx=>?_,λb o e hx=>?_,λb xs e=>tups b xs (I.base.tups b xs e),λb o xs e=>frzs b o xs (I.base.frzs b o xs e),λb ps e=>?_⟩,?_,λx c e=>?_,?_,λx c e=>?_,λp hp=>?_,hok,I.len⟩
 .exact keep b o (neL b o e) hb (neC b o e hx) (I.base.keep b o e n hb hx) (I.base.free b o e n hx)
 .obtain⟨sl,e1⟩:=I.base.slot b o e n hb hx;obtain⟨sl',e2⟩:=slot b _ (neL b o e) hb (neC b o e hx) e1 (I.base.free b o e n hx);exact⟨sl',e2⟩
 .obtain⟨o',e1⟩:=I.base.there b o e hx;exact free b o' (neC b o e hx) e1 (I.base.free b o e n hx)
 .obtain⟨o',e1⟩:=I.base.there b o e hx;exact there b o' (neC b o e hx) e1
 .obtain⟨m1,e1⟩:=I.base.tbls b ps e;obtain⟨m2,e2⟩:=tbls b _ e1;exact⟨m1++m2,by rw[e2,Array.append_assoc]⟩
 .obtain⟨m,hn,hl⟩:=I.loc;refine⟨m,ns m hn,λi x v e1 e2 e3=>?_⟩;obtain⟨u,r,l⟩:=hl i x v e1 e2 e3;refine⟨u,r,?_⟩;rcases l with l|⟨k,c,e,z⟩
  .exact .inl l
  .exact .inr ⟨k,c,e,cellK x c e _ z⟩
 .obtain⟨v,z⟩:=I.cell x c e;exact⟨v,cellK x c e v z⟩
 .obtain⟨m,⟨o,_,_,ho,_⟩,_⟩:=I.loc;exact free _ o (λz=>(hch _ z).2.1 rfl) ho I.free
 .obtain⟨v,o,ho,hd⟩:=I.cell x c e;exact free c o (λz=>(hch c z).2.2.1 x c e rfl) ho (I.freeC x c e)
 .obtain⟨e,n,ne,nf,d⟩:=I.pin p hp;have nch:p.1∉ch:=λz=>(hch p.1 z).2.2.2 p hp rfl;exact⟨keep p.1 p.2 ne nf nch e n,free p.1 p.2 nch e n,ne,nf,d⟩
def Inv.un{t':Nat}(I:Inv X pins σ H s)(u:Un X.fs [] H H' s.heap h')(hok:HOk X.prog X.w H' h'):Inv X pins σ H' { s with heap:=h',toks:=t' }:=by
 obtain⟨m,⟨o,es,ep,ho,r⟩,_⟩:=id I.loc;obtain⟨sl,hL⟩:=u.any ho I.free (by simp);exact I.step (g':=s.gens) (d':=s.drawn) (ch:=[]) (λ_ z=>nomatch z) (λb o _ hb _ e n=>u.keep b o e n hb (by simp)) (λb o _ hb _ e n=>u.slot b o e n hb (by simp)) (λb o _ e n=>u.free b o e n (by simp)) (λb o _ e=>u.there b o e (by simp)) u.tups u.frzs u.tbls (λm' hm=>by
  obtain⟨o',es',ep',ho',r'⟩:=hm
  rw[ho]at ho';cases ho'
  exact⟨_,es',ep',hL,r'⟩) hok I.bare
def Inv.call{g':Array fX}{t':Nat}{d':Drawn}(I:Inv X pins σ H s)(u:Un (frs X.stack) ch H H' s.heap h')(hok:HOk X.prog X.w H' h')(hg:eJ g')
  (hch:∀b∈ch,(b∈X.ex\/X.s₀.heap.objs.size<=b)/\b≠X.env.locals/\(∀x c,X.env.cells.lookup x=a8 c->c≠b)/\∀p∈X.pn++pins,p.1≠b) :
  Inv X pins σ H' { s with heap:=h',gens:=g',drawn:=d',toks:=t' }:=by
 obtain⟨m,⟨o,es,ep,ho,r⟩,_⟩:=id I.loc;obtain⟨sl,hL⟩:=u.any ho I.free λz=>(hch _ z).2.1 rfl;exact I.step (ch:=ch) hch (λb o hL hb hc e n=>u.keep b o e n (λz=>(Xb.mp (I.stkSub b z)).elim hL hb) hc) (λb o _ _ hc e n=>u.any e n hc) (λb o hc e n=>u.free b o e n hc) (λb o hc e=>u.there b o e hc) u.tups u.frzs u.tbls (λm' hm=>by
  obtain⟨o',es',ep',ho',r'⟩:=hm
  rw[ho]at ho';cases ho'
  exact⟨_,es',ep',hL,r'⟩) hok hg
def Inv.turned{t':Nat}{it:ai}(I:Inv X pins σ H s)(k:∀b o,b≠it->s.heap.get? b=a8 o->h'.get? b=a8 o)(hn:H it=af)(hL:it≠X.env.locals)
  (h1:it∈X.ex\/X.s₀.heap.objs.size<=it) (h2:∀x c,X.env.cells.lookup x=a8 c->c≠it) (h3:∀p∈X.pn++pins,p.1≠it):Inv X pins σ H { s with heap:=h',toks:=t' }:=by
 have nit:∀b u,H b=a8 u->b≠it:=λb u e z=>by rw[z,hn]at e;cases e
 refine I.step (g':=s.gens) (d':=s.drawn) (ch:=[it]) (λb hb=>?_) (λb o _ _ hc e _=>k b o (λz=>hc (by simp[z])) e) (λb o _ _ hc e _=>⟨o.slots,k b o (λz=>hc (by simp[z])) e⟩) (λ_ _ _ _ n=>n)
  (λb o hc e=>⟨o,k b o (λz=>hc (by simp[z])) e⟩) (λ_ _ e=>e) (λ_ _ _ e=>e) (λb ps e=>⟨#[],by rw[e];simp⟩) (λm hm=>?_) (λb u e=>?_) I.bare
 .have e:b=it:=by simpa using hb
  subst e;exact⟨h1,hL,h2,h3⟩
 .obtain⟨o,es,ep,ho,r⟩:=hm;exact⟨o,es,ep,k _ o (bu hL) ho,r⟩
 .refine(I.hok b u e).stay (λc v hc q=>k c v ?_ q) (λ_ q=>q) (λ_ _ q=>q) λ_ _ _ q=>q;rcases hc with z|z
  .rw[z];exact nit b u e
  .exact nit c _ z
def Inv.tok(I:Inv X pins σ H s)(t:Nat):Inv X pins σ H { s with toks:=t }:=I.un (h':=s.heap) (t':=t) Un.refl I.hok
theorem Inv.kept{t':Nat}(I:Inv X pins σ H s)(k:∀b u,s.heap.get? b=a8 u->h'.get? b=a8 u):Inv X pins σ H { s with heap:=h',toks:=t' }:=I.un (Un.kept k) (I.hok.kept k)
theorem Inv.laid{a:ai}{o:HO}{t':Nat}(I:Inv X pins σ H s)(k:∀b u,s.heap.get? b=a8 u->h'.get? b=a8 u)(hp:s.heap.objs.size<=a)(new:jm X.prog X.w (upd H a o) h' a o) :
  Inv X pins σ (upd H a o) { s with heap:=h',toks:=t' }:=I.un (Un.laid k hp (I.hok.fresh hp)) (I.hok.laid k hp new)
theorem Inv.write{x e:ai}{o:HO}{t':Nat}(I:Inv X pins σ H s)(mu:Mut (H x))(he:e=x\/H e=a8 (.own x))(k:∀b u,b≠e->s.heap.get? b=a8 u->h'.get? b=a8 u)(heo:∃u,h'.get? e=a8 u)
  (new:jm X.prog X.w (upd H x o) h' x o):Inv X pins σ (upd H x o) { s with heap:=h',toks:=t' }:=I.un (Un.write mu he k heo) (I.hok.write mu he k heo new)
def Inv.pins_of{pins':k9m}(I:Inv X pins σ H s)(h:∀p∈pins',s.heap.get? p.1=a8 p.2/\H p.1=af/\p.1≠X.env.locals/\p.1∉X.fs/\∀v,p.2.data≠.cell v):Inv X pins' σ H s :=
 ⟨I.ok,I.os,I.bare,I.base,I.loc,I.cell,I.free,I.freeC,λp hp=>(P0.mp hp).elim (λz=>I.pin p (Tj _ z)) (h p),I.hok,I.len⟩
def j4b{N:List au}(hN:N.Nodup){j:Nat}(a:N[i]?=a8 x)(b:N[j]?=a8 x):i=j:=by obtain⟨h1,e1⟩:=Xe.mp a;obtain⟨h2,e2⟩:=Xe.mp b;exact(List.getElem_inj hN).mp (e1.trans e2.symm)
def j1o{M:jU}{A:aF}{E:k9l}{Q:Unit->aq->Prop}(I:Inv X pins σ H s)(hN:X.N.Nodup)(hi:X.N[i]?=a8 x)(hx:Loc X.env.scope x)(r:RelV v u)
  (h:∀s',Inv X pins (σ.set i (a8 v)) H s'->(∃a,cM a s.heap s'.heap/\(a=X.env.locals\/X.env.cells.lookup x=a8 a))->Q () s') (hf:X.fn x=ae\/X.env.scope.names.lookup x=a8 .local:=by first|exact .inl rfl|exact .inr rfl|assumption):ay M A (storeName X.env x u) Q E s:=by
 obtain⟨m,hn,hl⟩:=id I.loc;have hcls:(X.env.scope.kind==.class || (X.env.scope.kind==.module&&X.env.locals != X.env.globals))=a9:=by rw[I.ok.kind];rfl
 have hiσ:i<σ.length:=by rw[I.len];exact(Xe.mp hi).1
 have cne:=I.cne;have tracked:∀{a:ai}{h':aE},(∃o,s.heap.get? a=a8 o/\H a=af)->cM a s.heap h'->HOk X.prog X.w H h':=λ{a h'} ha hs b ob e=>by
  obtain⟨_,_,hfree⟩:=ha;refine(I.hok b ob e).stay (λc w' hc q=>(hs.2 c ?_).trans q) (λ_ q=>q) (λ_ _ q=>q) λ_ _ _ q=>q;rintro rfl;rcases hc with rfl|hc
  .rw[hfree]at e;cases e
  .rw[hfree]at hc;cases hc
 rcases hx with hk|hk
 .refine wpAny_storeName_local hk hn (λh' hn' hs=>?_) hcls;obtain⟨oL,_,_,hoL,_⟩:=id hn;refine h _ ⟨I.ok,I.os,I.bare,⟨λb o e n hb hx=>?_,λb o e n hb hx=>?_,I.base.free,λb o e hx=>?_,I.base.tups,I.base.frzs,I.base.tbls⟩,⟨_,hn',λj y v' e1 e2 e3=>?_⟩,λy c e=>?_,I.free,I.freeC,λp hp=>?_,tracked ⟨oL,hoL,I.free⟩ hs,by simpa using I.len⟩ ⟨_,hs,.inl rfl⟩
  .exact(hs.2 b (Xj (Xr (X4 e) I.ok.above))).trans (I.base.keep b o e n hb hx)
  .obtain⟨sl,e1⟩:=I.base.slot b o e n hb hx;exact⟨sl,(hs.2 b (Xj (Xr (X4 e) I.ok.above))).trans e1⟩
  .obtain⟨o',e1⟩:=I.base.there b o e hx;exact⟨o',(hs.2 b (Xj (Xr (X4 e) I.ok.above))).trans e1⟩
  .by_cases hj:j=i
   .subst hj;rw[hi]at e1;cases e1;rw[Pk hiσ]at e2;cases e2;exact⟨u,r,.inl ⟨hk,by simp⟩⟩
   .rw[T4 (bu hj)]at e2;obtain⟨u',r',q⟩:=hl j y v' e1 e2 e3;refine⟨u',r',?_⟩;rcases q with ⟨k,e⟩|⟨k,c,e,z⟩
    .refine .inl ⟨k,?_⟩;have:y≠x:=λe=>hj (j4b hN e1 (e▸hi));simp[this,e]
    .exact .inr ⟨k,c,e,z.sameBut hs (cne y c e)⟩
  .obtain⟨w',z⟩:=I.cell y c e;exact⟨w',z.sameBut hs (cne y c e)⟩
  .obtain⟨e,n,ne,nf,d⟩:=I.pin p hp;exact⟨(hs.2 p.1 ne).trans e,n,ne,nf,d⟩
 .have hfn:X.fn x=ae:=by
   rcases hf with z|z
   .exact z
   .rw[z]at hk;cases hk
  obtain⟨c,hc⟩:=I.ok.has x (.inl hk);obtain⟨w',z⟩:=I.cell x c hc;refine wpAny_storeName_cell I.ok.kind hk hc z (λh' hc' hs=>?_);obtain⟨oc,hoc,hocd⟩:=id z;refine h { s with heap:=h' } ⟨I.ok,I.os,I.bare,⟨λb o e n hb hx=>?_,λb o e n hb hx=>?_,I.base.free,λb o e hx=>?_,I.base.tups,I.base.frzs,I.base.tbls⟩,⟨m,hn.sameBut hs (bu (cne x c hc)),λj y v' e1 e2 e3=>?_⟩,λy c' e=>?_,I.free,I.freeC,λp hp=>?_,tracked ⟨oc,hoc,I.freeC x c hc⟩ hs,by simpa using I.len⟩ ⟨c,hs,.inr hc⟩
  .exact(hs.2 b (Xj (Xr (X4 e) (I.ok.cab x c hfn hc)))).trans (I.base.keep b o e n hb hx)
  .obtain⟨sl,e1⟩:=I.base.slot b o e n hb hx;exact⟨sl,(hs.2 b (Xj (Xr (X4 e) (I.ok.cab x c hfn hc)))).trans e1⟩
  .obtain⟨o',e1⟩:=I.base.there b o e hx;exact⟨o',(hs.2 b (Xj (Xr (X4 e) (I.ok.cab x c hfn hc)))).trans e1⟩
  .by_cases hj:j=i
   .subst hj;rw[hi]at e1;cases e1;rw[Pk hiσ]at e2;cases e2;exact⟨u,r,.inr ⟨.inl hk,c,hc,hc'⟩⟩
   .rw[T4 (bu hj)]at e2;obtain⟨u',r',q⟩:=hl j y v' e1 e2 e3;refine⟨u',r',?_⟩;rcases q with q|⟨k,c',e,z'⟩
    .exact .inl q
    .refine .inr ⟨k,c',e,z'.sameBut hs ?_⟩;rintro rfl;exact hj (j4b hN e1 (I.ok.inj _ _ _ e hc▸hi))
  .by_cases hcc:c'=c
   .subst hcc;exact⟨_,hc'⟩
   .obtain⟨w2,z2⟩:=I.cell y c' e;exact⟨w2,z2.sameBut hs hcc⟩
  .obtain⟨e,n,ne,nf,d⟩:=I.pin p hp;refine⟨(hs.2 p.1 ?_).trans e,n,ne,nf,d⟩;intro q;rw[q,hoc]at e;have q':oc=p.2:=ax e;exact d w' (by rw[<-q'];exact hocd)
def j3o{M:jU}{A:aF}{E:k9l}{Q:Unit->aq->Prop}(I:Inv X pins σ H s)(hN:X.N.Nodup)(hi:X.N[i]?=a8 x)(hx:Loc X.env.scope x)(r:RelV v u)
  (h:∀s',Inv X pins (σ.set i (a8 v)) H s'->Q () s') (hf:X.fn x=ae\/X.env.scope.names.lookup x=a8 .local:=by first|exact .inl rfl|exact .inr rfl|assumption):ay M A (storeName X.env x u) Q E s :=
 j1o I hN hi hx r (λs' I' _=>h s' I') hf
def Inv.call'{s':aq}(I:Inv X pins σ H s)(ho:s'.os=s.os)(u:Un (frs X.stack) ch H H' s.heap s'.heap)(hok:HOk X.prog X.w H' s'.heap)(hg:eJ s'.gens)
  (hch:∀b∈ch,(b∈X.ex\/X.s₀.heap.objs.size<=b)/\b≠X.env.locals/\(∀x c,X.env.cells.lookup x=a8 c->c≠b)/\∀p∈X.pn++pins,p.1≠b):Inv X pins σ H' s':=by
 obtain⟨h',g',d',t',o'⟩:=s';have e:o'=s.os:=ho;subst e;exact I.call (g':=g') (t':=t') (d':=d') u hok hg hch
end
abbrev XK:=ah->Option ai->Hp->Prop
noncomputable abbrev St:=List (Option V)
abbrev VK:=V->Hp->Prop
abbrev TE:=St->Hp->VK->Prop
abbrev TT:=St->Hp->(Bool->Hp->Prop)->Prop
abbrev TA:=St->Hp->(List V->Hp->Prop)->Prop
structure Ends where
 nx:St->Hp->Prop
 rt:VK
 bk:St->Hp->Prop:=λ_ _=>False
 ct:St->Hp->Prop:=λ_ _=>False
abbrev TS:=Ends->St->Hp->Prop
def EP(X:Cx)(pins:k9m)(σ:St)(Q:VK)(u:ah)(s':aq):Prop:=∃v H',Inv X pins σ H' s'/\RelV v u/\Q v H'
def TP(X:Cx)(pins:k9m)(σ:St)(Q:Bool->Hp->Prop)(b:Bool)(s':aq):Prop:=∃H',Inv X pins σ H' s'/\Q b H'
def AP(X:Cx)(pins:k9m)(σ:St)(Q:List V->Hp->Prop)(us:List ah)(s':aq):Prop:=∃vs H',Inv X pins σ H' s'/\Vals vs us/\Q vs H'
def Ext(X:Cx)(H1 H2:Hp)(s':aq):Prop:=∀b,H2 b=H1 b\/∃x o v,X.env.cells.lookup x=a8 b/\X.fn x=ae/\H2 b=a8 (.frz o (.own 0))/\s'.heap.get? b=a8 o/\o.data=.cell v
variable{X:Cx}
def Ext.refl{s':aq}:Ext X H H s':=λ_=>.inl rfl
def SP(X:Cx)(pins:k9m)(D:Ends)(f:Flow)(s':aq):Prop :=
 match f with
 |.next=>∃σ' H',Inv X pins σ' H' s'/\D.nx σ' H'
 |.brk=>∃σ' H',Inv X pins σ' H' s'/\D.bk σ' H'
 |.cont=>∃σ' H',Inv X pins σ' H' s'/\D.ct σ' H'
 |.ret u=>∃v σ' H' H2,Inv X pins σ' H' s'/\RelV v u/\Ext X H' H2 s'/\D.rt v H2
def PE(X:Cx)(e:av)(t:TE):Prop :=
 ∀(pins:k9m) (s:aq) (σ:St) (H:Hp) (Q:VK),Inv X pins σ H s->t σ H Q->ay (aB X.prog X.w) X.A (aC e X.env) (EP X pins σ Q) X.xe s
def PT(X:Cx)(e:av)(t:TT):Prop :=
 ∀(pins:k9m) (s:aq) (σ:St) (H:Hp) (Q:Bool->Hp->Prop),Inv X pins σ H s->t σ H Q->ay (aB X.prog X.w) X.A (gH e X.env (aC e X.env)) (TP X pins σ Q) X.xe s
def PW(X:Cx)(e:av)(t:TT):Prop :=
 ∀(whole:Sem ah)(pins:k9m) (s:aq) (σ:St) (H:Hp) (Q:Bool->Hp->Prop),Inv X pins σ H s->t σ H Q->ay (aB X.prog X.w) X.A (gH e X.env whole) (TP X pins σ Q) X.xe s
def PA(X:Cx)(es:List av)(t:TA):Prop :=
 ∀(pos:aP)(pins:k9m) (s:aq) (σ:St) (H:Hp) (Q:List V->Hp->Prop),Inv X pins σ H s->t σ H Q->ay (aB X.prog X.w) X.A (iL (aR pos (aj es X.env))) (AP X pins σ Q) X.xe s
def PS(X:Cx)(st:aX)(t:TS):Prop :=
 ∀(pins:k9m) (s:aq) (σ:St) (H:Hp) (D:Ends),Inv X pins σ H s->t D σ H->ay (aB X.prog X.w) X.A (exec st X.env) (SP X pins D) X.xe s
def PSs(X:Cx)(st:List aX)(t:TS):Prop :=
 ∀(pins:k9m) (s:aq) (σ:St) (H:Hp) (D:Ends),Inv X pins σ H s->t D σ H->ay (aB X.prog X.w) X.A (execs st X.env) (SP X pins D) X.xe s
variable{A:aF}{E:k9l}{s:aq}
def thn{α:Type}{t:Sem α}{Q Q':α->aq->Prop}{M:jU}(h:ay M A t Q E s)(hQ:∀a s,Q a s->Q' a s):ay M A t Q' E s:=bC h hQ λ_ _ x=>x
variable{x:V}{pins:k9m}{σ:St}{t:TE}{e:av}
section
variable{X:Cx}
def bin{a b:av}{ta tb:TE}(ha:PE X a ta)(hb:PE X b tb){R:V->V->Hp->Prop}(I:Inv X pins σ H s)(h:ta σ H λx H1=>tb σ H1 λy H2=>R x y H2)
  {α:Type} {Q:α->aq->Prop} {f:ah->ah->Sem α}
  (hf:∀v u s2 x y H2,Inv X pins σ H2 s2->RelV x v->RelV y u->R x y H2->ay (aB X.prog X.w) X.A (f v u) Q X.xe s2) :
  ay (aB X.prog X.w) X.A (aC a X.env) (λv s₁=>ay (aB X.prog X.w) X.A (aC b X.env) (λu s₂=>ay (aB X.prog X.w) X.A (f v u) Q X.xe s₂) X.xe s₁) X.xe s:=by
 refine thn (ha pins s σ H _ I h) λv s1 ⟨x,H1,I1,r1,q1⟩=>?_;refine thn (hb pins s1 σ H1 _ I1 q1) λu s2 ⟨y,H2,I2,r2,q2⟩=>?_;exact hf v u s2 x y H2 I2 r1 r2 q2
def jpq(i:Nat):TE:=λσ H Q=>∃v,σ[i]?=a8 (a8 v)/\Q v H
def tC(v:V):TE:=λ_ H Q=>Q v H
def vz  {x:au} {pos:aP} (hN:X.N[i]?=a8 x) (hv:Vis X.env.scope x) (hd:(x==k9o)=a9:=by decide) (hcd:(x==k9p)=a9:=by decide):PE X (.Name x pos) (jpq i):=by
 intro pins s σ H Q I h;obtain⟨v,e,h⟩:=h;obtain⟨m,hn,hl⟩:=I.loc;obtain⟨u,r,l⟩:=hl i x v hN e hv;have fin:EP X pins σ Q u s:=⟨v,H,I,r,h⟩
 rcases l with ⟨hk,hm⟩|⟨hk,c,hc,hcell⟩
 .exact lz (wpAny_loadName_local I.ok.kind hk hn hm fin) hd
 .rcases hk with hk|hk
  .exact lz (wpAny_loadName_cell I.ok.kind hk hc hcell fin) hd
  .exact lz (wpAny_loadName_free I.ok.kind hk hc hcell fin hcd) hd
def jk5{i j pos}:PE X (.Constant (.int i) j pos) (tC (.int i)):=λ_ _ _ H _ I h=>wpAny_Constant_int ⟨.int i,H,I.tok _,⟨_,rfl⟩,h⟩
def jo1{b j pos}:PE X (.Constant (.bool b) j pos) (tC (.bl b)):=λ_ _ _ H _ I h=>Constant_bool ⟨.bl b,H,I,rfl,h⟩
def j9r{j pos}:PE X (.Constant .none j pos) (tC .non):=λ_ _ _ H _ I h=>nF ⟨.non,H,I,rfl,h⟩
def j9q{x j pos}:PE X (.Constant (.str x) j pos) (tC (.str x)):=λ_ _ _ H _ I h=>Calls.Constant_str ⟨.str x,H,I.tok _,⟨_,rfl⟩,h⟩
def Gl(X:Cx)(x:au):Prop:=X.env.kindOf x=a8 .globalImplicit
def j0x{E:k9l}{x:au}{pos:aP}{Q:k9l}(I:Inv X pins σ H s)(hg:Gl X x)(hm:X.mg x=a8 u)(h:Q u s)
  (hd:(x==k9o)=a9:=by decide):ay (aB X.prog X.w) X.A (aC (.Name x pos) X.env) Q E s :=
 gZ I.ok.kind hg (Calls.loadGlobal_global (by rw[I.ok.glob];exact I.mod.glob.keeps I.bk) hm h) hd
def Jl{E:k9l}{x:au}{pos:aP}{Q:k9l}(I:Inv X pins σ H s)(hg:Gl X x)(hm:X.mg x=af)(hv:fg x=a8 u)(h:Q u s)
  (hn:x ≠ "__name__":=by decide) (hd:(x==k9o)=a9:=by decide):ay (aB X.prog X.w) X.A (aC (.Name x pos) X.env) Q E s:=by
 obtain⟨mb,h1,h2⟩:=I.mod.blt;exact gZ I.ok.kind hg (Calls.loadGlobal_builtin (by rw[I.ok.glob];exact I.mod.glob.keeps I.bk) hm (by rw[I.ok.blt];exact h1.keeps I.bk) ((h2 x hn).trans hv) h) hd
def jh7 {x:au}   {pos:aP} (hg:Gl X x) (hm:X.mg x=a8 u) (r:RelV v u) (hd:(x==k9o)=a9:=by decide):PE X (.Name x pos) (tC v) :=
 λ_ _ _ H _ I h=>j0x I hg hm ⟨v,H,I,r,h⟩ hd
variable{a b:av}{ta tb:TE}{pos:aP}
def PC(X:Cx)(op:iY)(a b:av)(t:TE):Prop :=
 ∀(pins:k9m) (s:aq) (σ:St) (H:Hp) (Q:VK),Inv X pins σ H s->t σ H Q ->
  ay (aB X.prog X.w) X.A (aC a X.env) (λv s₁=>ay (aB X.prog X.w) X.A (aC b X.env) (λu s₂=>ay (aB X.prog X.w) X.A (aZ op v u) (EP X pins σ Q) X.xe s₂) X.xe s₁) X.xe s
def jcs(b:av){op:iY}(h:op≠.In)(h2:op≠.NotIn):aO op b=a9:=by
 have e1:(op==CmpOp.In)=a9:=by cases op<;>first|rfl|exact absurd rfl h
 have e2:(op==CmpOp.NotIn)=a9:=by cases op<;>first|rfl|exact absurd rfl h2
 cases b<;>simp[aO,e1,e2]
def jpy(ta:TE):TE:=λσ H Q=>ta σ H λx H1=>Q (.bl (decide (x=.non))) H1
def RelV.none_iff{v:ah}(r:RelV x v):(v==aY)=decide (x=.non):=by
 cases x with
 |non=>cases r;rfl
 |bl _=>cases r;rfl
 |int _=>obtain⟨t,rfl⟩:=r;rfl
 |str _=>obtain⟨t,rfl⟩:=r;rfl
 |byt _=>obtain⟨t,rfl⟩:=r;rfl
 |flt _=>obtain⟨t,rfl⟩:=r;rfl
 |ref _=>cases r;rfl
 |ty _=>cases r;rfl
def jk7{j pos'}(ha:PE X a ta):PC X .Is a (.Constant .none j pos') (jpy ta):=by intro pins s σ H Q I h;refine thn (ha pins s σ H _ I h) λv s1 ⟨x,H1,I1,r1,q1⟩=>?_;exact nF (is_none_gen ⟨.bl _,H1,I1,by rw[r1.none_iff];rfl,q1⟩)
def tB(t:TE):TT:=λσ H Q=>t σ H λx H1=>∃c,x=.bl c/\Q c H1
def jjx{op:iY}(h:PC X op a b t)(h1:aO op b=a9:=by first|exact jcs _ (by decide) (by decide)|rfl):PT X (.Compare a [op] [b] pos) (tB t):=by intro pins s σ H Q I hw;refine kA (thn (h pins s σ H _ I hw) λv s1 h1=>thn h1 λu s2 h2=>thn h2 λc s3 ⟨x,H1,I1,r1,q1⟩=>?_) h1;obtain⟨d,rfl,q⟩:=q1;cases r1;exact bI ⟨H1,I1,q⟩
def jjv(h:PE X e t)(he:∀whole,gH e X.env whole=(do let v <-whole;hU e.pos;cN [v] (truthy v)):=by intro _;rfl):PT X e (tB t):=by intro pins s σ H Q I hw;refine isTrue_plain (thn (h pins s σ H _ I hw) λv s1 ⟨x,H1,I1,r1,q1⟩=>?_) (he _);obtain⟨d,rfl,q⟩:=q1;cases r1;exact bI ⟨H1,I1,q⟩
variable{tA tB':TT}{rest:List av}
def jq1(t u:TT):TT:=λσ H Q=>t σ H λc H1=>if c=ae then u σ H1 Q else Q a9 H1
def tOr(t u:TT):TT:=λσ H Q=>t σ H λc H1=>if c=ae then Q ae H1 else u σ H1 Q
def jpu(t:TT):TT:=λσ H Q=>t σ H λc H1=>Q (!c) H1
def jh0(ha:PT X a tA):PW X (.BoolOp .And [a] pos) tA:=by
 intro wh pins s σ H Q I h;refine isTrue_and (thn (ha pins s σ H Q I h) λc s1 e=>?_);cases c with
 |true=>exact isTrue_and_nil e
 |false=>exact e
def jjt(ha:PT X a tA):PW X (.BoolOp .Or [a] pos) tA:=by
 intro wh pins s σ H Q I h;refine isTrue_or (thn (ha pins s σ H Q I h) λc s1 e=>?_);cases c with
 |false=>exact isTrue_or_nil e
 |true=>exact e
def jju(ha:PT X a tA)(hb:PW X (.BoolOp .And (b::rest) pos) tB'):PW X (.BoolOp .And (a::b::rest) pos) (jq1 tA tB'):=by
 intro wh pins s σ H Q I h;refine isTrue_and (thn (ha pins s σ H _ I h) λc s1 ⟨H1,I1,q1⟩=>?_);cases c with
 |true=>exact hb wh pins s1 σ H1 Q I1 q1
 |false=>exact⟨H1,I1,q1⟩
def jny(ha:PT X a tA)(hb:PW X (.BoolOp .Or (b::rest) pos) tB'):PW X (.BoolOp .Or (a::b::rest) pos) (tOr tA tB'):=by
 intro wh pins s σ H Q I h;refine isTrue_or (thn (ha pins s σ H _ I h) λc s1 ⟨H1,I1,q1⟩=>?_);cases c with
 |true=>exact⟨H1,I1,q1⟩
 |false=>exact hb wh pins s1 σ H1 Q I1 q1
def jjw(ha:PT X a tA):PT X (.UnaryOp .Not a pos) (jpu tA):=by intro pins s σ H Q I h;exact isTrue_not (ha pins s σ H (λc H1=>Q (!c) H1) I h)
def jnk(ta tb:TE):TE:=λσ H Q=>ta σ H λx H1=>∃c,x=.bl c/\if c=ae then tb σ H1 Q else Q (.bl a9) H1
def jk3{op}(h:PE X a t):PE X (.BoolOp op [a] pos) t:=λpins s σ H Q I hw=>BoolOp_one (h pins s σ H Q I hw)
def jk6(ha:PE X a ta)(hb:PE X (.BoolOp .And (b::rest) pos) tb):PE X (.BoolOp .And (a::b::rest) pos) (jnk ta tb):=by
 intro pins s σ H Q I h;refine BoolOp_and (thn (ha pins s σ H _ I h) λv s1 ⟨x,H1,I1,r1,q1⟩=>?_);obtain⟨c,rfl,q1⟩:=q1;cases r1;refine bI ?_;cases c with
 |true=>exact hb pins s1 σ H1 Q I1 q1
 |false=>exact⟨.bl a9,H1,I1,rfl,q1⟩
def tIf(t:TT)(ta tb:TE):TE:=λσ H Q=>t σ H λc H1=>if c=ae then ta σ H1 Q else tb σ H1 Q
def jck{c:av}(hc:PT X c tA)(ha:PE X a ta)(hb:PE X b tb):PE X (.IfExp c a b pos) (tIf tA ta tb):=by
 intro pins s σ H Q I h;refine wpAny_IfExp (thn (hc pins s σ H _ I h) λd s1 ⟨H1,I1,q1⟩=>?_);cases d with
 |true=>exact ha pins s1 σ H1 Q I1 q1
 |false=>exact hb pins s1 σ H1 Q I1 q1
end
def SqL(K:k9k)(H:Hp)(a:ai)(xs:List V):Prop :=
 Rd H a (.lst xs) \/
  ∃(o:d7)(its:Array ah)(n:Nat),K.lookup a=a8 o/\o.cls=.type "list"/\o.dict=af/\o.data=.seq its n/\its.size<=aw/\Vals xs its.toList
def SqT(K:k9k)(H:Hp)(a:ai)(xs:List V):Prop :=
 Rd H a (.tup xs) \/
  ∃(o:d7)(its:Array ah)(n:Nat),K.lookup a=a8 o/\o.cls=.type "tuple"/\o.dict=af/\o.data=.seq its n/\its.size<=aw/\Vals xs its.toList
noncomputable def jqp:ah->Option V
 |.none=>a8 .non
 |.bool b=>a8 (.bl b)
 |.int i _=>a8 (.int i)
 |.str x _=>a8 (.str x)
 |.bytes b _=>a8 (.byt b)
 |.float b _=>a8 (.flt b)
 |.ref a=>a8 (.ref a)
 |.type n=>a8 (.ty n)
 |_=>af
def RelV.abs(r:RelV x u):jqp u=a8 x:=by
 cases x with
 |non=>cases r;rfl
 |bl _=>cases r;rfl
 |int _=>obtain⟨t,rfl⟩:=r;rfl
 |str _=>obtain⟨t,rfl⟩:=r;rfl
 |byt _=>obtain⟨t,rfl⟩:=r;rfl
 |flt _=>obtain⟨t,rfl⟩:=r;rfl
 |ref _=>cases r;rfl
 |ty _=>cases r;rfl
def RelV.inj{y:V}(r:RelV x u)(q:RelV y u):x=y:=ax (r.abs.symm.trans q.abs)
theorem Vals.inj:∀{xs ys:List V}{us:List ah},Vals xs us->Vals ys us->xs=ys
 |_,_,_,.nil,.nil=>rfl
 |_,_,_,.cons r t,.cons r' t'=>by rw[r.inj r',Vals.inj t t']
section
variable{X:Cx}{pins:k9m}{σ:St}{H:Hp}{s:aq}{a:ai}{xs ys:List V}
def Inv.list(I:Inv X pins σ H s)(h:SqL X.K H a xs):∃its:List ah,Vals xs its/\PlainL s.heap a its.toArray/\xs.length<=aw:=by
 rcases h with h|⟨o,its,n,hk,hc,hd,hs,hz,r⟩
 .obtain⟨z,its,n,r,e⟩:=h.ok I.hok;exact⟨its,r,⟨_,n,e,rfl,rfl,rfl⟩,z⟩
 .refine⟨its.toList,r,⟨o,n,I.kIn a o hk,hc,hd,by simpa using hs⟩,?_⟩;have e:=r.length;simp only[di]at e;omega
def Inv.tuple(I:Inv X pins σ H s)(h:SqT X.K H a xs):∃its:List ah,Vals xs its/\iz s.heap a its.toArray/\xs.length<=aw:=by
 rcases h with h|⟨o,its,n,hk,hc,hnd,hs,hz,r⟩
 .obtain⟨z,its,r,p,_⟩:=h.ok I.hok;exact⟨its,r,p,z⟩
 .refine⟨its.toList,r,⟨o,I.kIn a o hk,hc,n,by simpa using hs⟩,?_⟩;have e:=r.length;simp only[di]at e;omega
def Inv.tupD(I:Inv X pins σ H s)(h:SqT X.K H a xs):Vh s.heap a:=by
 rcases h with h|⟨o,its,n,hk,hc,hnd,hs,hz,r⟩
 .obtain⟨z,its,r,p,q⟩:=h.ok I.hok;exact q
 .intro o' e;rw[I.kIn a o hk]at e;cases e;exact hnd
def Inv.list_inj(I:Inv X pins σ H s)(h:SqL X.K H a xs)(h':SqL X.K H a ys):xs=ys:=by
 obtain⟨its,r,⟨o,n,e,_,_,d⟩,_⟩:=I.list h;obtain⟨its',r',⟨o',n',e',_,_,d'⟩,_⟩:=I.list h';rw[e]at e';cases e';rw[d]at d';injection d' with d1 _;have:its=its':=by simpa using congrArg lH d1
 subst this;exact r.inj r'
def Inv.tuple_inj(I:Inv X pins σ H s)(h:SqT X.K H a xs)(h':SqT X.K H a ys):xs=ys:=by
 obtain⟨its,r,⟨o,e,_,n,d⟩,_⟩:=I.tuple h;obtain⟨its',r',⟨o',e',_,n',d'⟩,_⟩:=I.tuple h';rw[e]at e';cases e';rw[d]at d';injection d' with d1 _;have:its=its':=by simpa using congrArg lH d1
 subst this;exact r.inj r'
end
noncomputable abbrev Cx.wish(X:Cx)(E:k9l):Cx:={ X with xe:=E }
noncomputable abbrev Cx.nox(X:Cx):Cx:=X.wish λ_ _=>False
theorem Cx.Ok.wish{X:Cx}(ok:X.Ok)(E:k9l):(X.wish E).Ok :=
 ⟨ok.mod,ok.kind,ok.glob,ok.blt,ok.above,ok.inj,ok.has,ok.cab,ok.hd,ok.frames,ok.stk,ok.exf,ok.bs,ok.bsz,ok.noex,ok.exfs,ok.funs,ok.frf⟩
def Cx.Ok.unwish(ok:(X.wish E).Ok):X.Ok :=
 ⟨ok.mod,ok.kind,ok.glob,ok.blt,ok.above,ok.inj,ok.has,ok.cab,ok.hd,ok.frames,ok.stk,ok.exf,ok.bs,ok.bsz,ok.noex,ok.exfs,ok.funs,ok.frf⟩
section
variable{X:Cx}{pins:k9m}{σ:St}{H:Hp}{s:aq}{E:k9l}
theorem Inv.wish(I:Inv X pins σ H s)(E:k9l):Inv (X.wish E) pins σ H s:=⟨I.ok.wish E,I.os,I.bare,I.base,I.loc,I.cell,I.free,I.freeC,I.pin,I.hok,I.len⟩
theorem Inv.unwish(I:Inv (X.wish E) pins σ H s):Inv X pins σ H s:=⟨I.ok.unwish,I.os,I.bare,I.base,I.loc,I.cell,I.free,I.freeC,I.pin,I.hok,I.len⟩
theorem SP.unwish{D:Ends}{f:Flow}{s':aq}(h:SP (X.wish E) pins D f s'):SP X pins D f s':=by
 cases f with
 |next=>obtain⟨σ',H',I,q⟩:=h;exact⟨σ',H',I.unwish,q⟩
 |brk=>obtain⟨σ',H',I,q⟩:=h;exact⟨σ',H',I.unwish,q⟩
 |cont=>obtain⟨σ',H',I,q⟩:=h;exact⟨σ',H',I.unwish,q⟩
 |ret u=>obtain⟨v,σ',H',H2,I,r,x,q⟩:=h;exact⟨v,σ',H',H2,I.unwish,r,x,q⟩
theorem PSs.nox{st:List aX}{t:TS}(h:PSs X.nox st t):PSs X st t:=λpins s σ H D I hw =>bC (h pins s σ H D (I.wish _) hw) (λ_ _ q=>q.unwish) λ_ _ z=>bU z
end
section
variable{X:Cx}{st:aX}{rest:List aX}{t u:TS}{e:av}{te:TE}{pos:aP}
def jng:TS:=λD σ H=>D.nx σ H
def jps(t u:TS):TS:=λD σ H=>t { D with nx:=u D } σ H
def jh1:PSs X [] jng:=λ_ _ σ H _ I h=>iE ⟨σ,H,I,h⟩
def Y6(h1:PS X st t)(h2:PSs X rest u):PSs X (st::rest) (jps t u):=by
 intro pins s σ H D I h;refine mo (thn (h1 pins s σ H { D with nx:=u D } I h) λf s1 q=>?_);cases f with
 |next =>obtain⟨σ',H',I',q⟩:=q;exact h2 pins s1 σ' H' D I' q
 |ret v=>exact q
 |brk=>exact q
 |cont=>exact q
def Nq(h1:PS X st t):PSs X [st] t:=by
 intro pins s σ H D I h;refine mo (thn (h1 pins s σ H D I h) λf s1 q=>?_);cases f with
 |next=>exact iE q
 |ret v=>exact q
 |brk=>exact q
 |cont=>exact q
def Inv.quiet(I:Inv X pins σ H s):interactive X.env=a9:=by simp[interactive,I.ok.kind]
def jnh(te:TE):TS:=λD σ H=>te σ H λ_ H1=>D.nx σ H1
def Nr(he:PE X e te)(hs:aT e af pos.line X.env=pure a9:=by rfl):PS X (.Expr e pos) (jnh te):=by intro pins s σ H D I h;exact wpAny_Expr_any (thn (he pins s σ H _ I h) λv s1 ⟨x,H1,I1,r1,q1⟩=>⟨σ,H1,I1,q1⟩) I.quiet hs
def jpt(te:TE):TS:=λD σ H=>te σ H D.rt
def Ow(he:PE X e te):PS X (.Return (a8 e) pos) (jpt te):=by intro pins s σ H D I h;exact lM (thn (he pins s σ H _ I h) λv s1 ⟨x,H1,I1,r1,q1⟩=>⟨x,σ,H1,H1,I1,r1,.refl,q1⟩)
def jpz(c:TT)(t u:TS):TS:=λD σ H=>c σ H λb H1=>if b=ae then t D σ H1 else u D σ H1
def jnz{c:av}{a b:List aX}{tc:TT}(hc:PT X c tc)(ha:PSs X a t)(hb:PSs X b u):PS X (.If c a b pos) (jpz tc t u):=by
 intro pins s σ H D I h;refine wpAny_If (thn (hc pins s σ H _ I h) λd s1 ⟨H1,I1,q1⟩=>?_);cases d with
 |true=>exact ha pins s1 σ H1 D I1 q1
 |false=>exact hb pins s1 σ H1 D I1 q1
end
abbrev TG:=V->St->Hp->(St->Hp->Prop)->Prop
abbrev TGs:=List V->St->Hp->(St->Hp->Prop)->Prop
def PG(X:Cx)(target:av)(t:TG):Prop :=
 ∀(pins:k9m) (s:aq) (σ:St) (H:Hp) (v:V) (u:ah) (Q:St->Hp->Prop),Inv X pins σ H s->RelV v u->t v σ H Q ->
  ay (aB X.prog X.w) X.A (dk target X.env u) (λ_ s'=>∃σ' H',Inv X pins σ' H' s'/\Q σ' H') X.xe s
def PGs(X:Cx)(ts:List av)(t:TGs):Prop :=
 ∀(pins:k9m) (s:aq) (σ:St) (H:Hp) (vs:List V) (us:List ah) (Q:St->Hp->Prop),Inv X pins σ H s->Vals vs us->t vs σ H Q ->
  ay (aB X.prog X.w) X.A (assignInOrder ((bE ts X.env).map (·.2)) us) (λ_ s'=>∃σ' H',Inv X pins σ' H' s'/\Q σ' H') X.xe s
abbrev j8h:=V->V->V->Hp->(Hp->Prop)->Prop
def jn6(X:Cx)(t:j8h):Prop :=
 ∀(pins:k9m) (s:aq) (σ:St) (H:Hp) (o i v:V) (ov iv u:ah) (Q:Hp->Prop),Inv X pins σ H s->RelV o ov->RelV i iv->RelV v u->t o i v H Q ->
  ay (aB X.prog X.w) X.A (setItem ov iv u) (λ_ s'=>∃H',Inv X pins σ H' s'/\Q H') X.xe s
variable{tg:av}
section
variable{X:Cx}{pos:aP}
def jfe(i:Nat):TG:=λv σ H Q=>Q (σ.set i (a8 v)) H
def Rq{x:au}(hN:X.N.Nodup)(hi:X.N[i]?=a8 x)(hx:Loc X.env.scope x)(hf:X.fn x=ae\/X.env.scope.names.lookup x=a8 .local:=by first|exact .inl rfl|exact .inr rfl|assumption):PG X (.Name x pos) (jfe i):=by intro pins s σ H v u Q I r h;exact lL (j3o I hN hi hx r (λs' I'=>⟨_,H,I',h⟩) hf)
def jqk:TGs:=λvs σ H Q=>vs=[]/\Q σ H
def jor(t:TG)(u:TGs):TGs:=λvs σ H Q=>∃v r,vs=v::r/\t v σ H λσ' H'=>u r σ' H' Q
def jh6:PGs X [] jqk:=by intro pins s σ H vs us Q I r h;obtain⟨e,h⟩:=h;subst e;cases r;exact assignInOrder_nil ⟨σ,H,I,h⟩
def j44{es:List av}{t:TG}{u:TGs}(h1:PG X e t)(h2:PGs X es u)
  (hs:(bE (e::es) X.env).map (·.2)=dk e X.env::(bE es X.env).map (·.2):=by rfl):PGs X (e::es) (jor t u):=by
 intro pins s σ H vs us Q I r h;obtain⟨v,vr,e1,h⟩:=h;subst e1;cases r with
 |cons r rr =>rw[hs];refine assignInOrder_cons (thn (h1 pins s σ H _ _ _ I r h) λ_ s1 ⟨σ1,H1,I1,q1⟩=>?_);exact h2 pins s1 σ1 H1 _ _ Q I1 rr q1
def jqi(K:k9k)(n:Nat)(t:TGs):TG:=λv σ H Q=>∃a xs,v=.ref a/\SqT K H a xs/\xs.length=n/\t xs σ H Q
def jk0{es:List av}{k:Nat}{t:TGs}{n:Nat}(hc:X.calm=ae)(h:PGs X es t)
  (hn:(bE es X.env).length=n:=by rfl) (hst:(bE es X.env).findIdx? (·.1)=af:=by rfl):PG X (.Tuple es k pos) (jqi X.K n t):=by
 intro pins s σ H v u Q I r hw;obtain⟨a,xs,e1,hq,hl,hw⟩:=hw;subst e1;cases r;obtain⟨its,rv,ht,hz⟩:=I.tuple hq;refine assign_Tuple_tuple (I.ok.hd hc) ht (by simp[hn,<-hl,rv.length]) hst λh' hx=>?_;have I1:Inv X pins σ H { s with heap:=h' }:=I.kept (t':=s.toks) λb o e=>hx b o (Xj (X4 e)) e;exact h pins _ σ H xs _ Q I1 (by simpa using rv) hw
def jqj(to ti:TE)(t:j8h):TG:=λv σ H Q=>to σ H λo H1=>ti σ H1 λi H2=>t o i v H2 λH3=>Q σ H3
def jk1{o i:av}{to ti:TE}{t:j8h}(ho:PE X o to)(hi:PE X i ti)(hs:jn6 X t)
  (ha:∀v,dk (.Subscript o i pos) X.env v=(do
   let ov <-cN [v] (aC o X.env)
   let iv <-cN [v,ov] (aC i X.env)
   hU pos
   cN [v,ov,iv] (setItem ov iv v)
   release [v,ov,iv] []):=by intro _;rfl):PG X (.Subscript o i pos) (jqj to ti t):=by
 intro pins s σ H v u Q I r h;rw[ha];refine aa (bA (thn (ho pins s σ H _ I h) λov s1 ⟨x,H1,I1,r1,q1⟩=>?_));refine aa (bA (thn (hi pins s1 σ H1 _ I1 q1) λiv s2 ⟨y,H2,I2,r2,q2⟩=>?_));refine aa (gu (aa (bA (thn (hs pins s2 σ H2 x y v ov iv u _ I2 r1 r2 r q2) λ_ s3 ⟨H3,I3,q3⟩=>?_))));exact wpAny_release ⟨σ,H3,I3,q3⟩
def jj6(te:TE)(g:TG):TS:=λD σ H=>te σ H λx H1=>g x σ H1 D.nx
def j9e{te:TE}{g:TG}(he:PE X e te)(hg:PG X tg g)(hs:eL [tg] e pos.line X.env=pure a9:=by rfl)(hw:eM [tg] e X.env=pure af:=by rfl)
  (h1:(bE [tg] X.env).map (·.2)=[dk tg X.env]:=by rfl):PS X (.Assign [tg] e pos) (jj6 te g):=by
 intro pins s σ H D I h;refine wpAny_Assign_stores (thn (he pins s σ H _ I h) λv s1 ⟨x,H1,I1,r1,q1⟩=>?_) hs hw;rw[h1];exact thn (hg pins s1 σ H1 x v _ I1 r1 q1) λ_ s2 q=>q
def Ro{i:Nat}{x:au}{te:TE}{pos':aP}(hN:X.N.Nodup)(hi:X.N[i]?=a8 x)(hx:Loc X.env.scope x)(he:PE X e te)(hs:aT e (a8 (.Name x pos')) pos.line X.env=pure a9:=by rfl)(hf:X.fn x=ae\/X.env.scope.names.lookup x=a8 .local:=by first|exact .inl rfl|exact .inr rfl|assumption) :
  PS X (.Assign [.Name x pos'] e pos) (jj6 te (jfe i)):=by
 intro pins s σ H D I h;refine wpAny_Assign_Name (thn (he pins s σ H _ I h) λv s1 ⟨y,H1,I1,r1,q1⟩=>?_) hs;exact j3o I1 hN hi hx r1 (λs2 I2=>⟨_,H1,I2,q1⟩) hf
end
structure It where
 go:Nat->Hp->Prop
 yld:Nat->Hp->V->Hp->Prop
 stop:Nat->Hp->Prop
def Qz(X:Cx)(pins:k9m)(H:Hp)(b:ai):Prop :=
 H b=af/\b≠X.env.locals/\b∉X.fs/\(b∈X.ex\/X.s₀.heap.objs.size<=b)/\(∀x c,X.env.cells.lookup x=a8 c->c≠b)/\∀p∈X.pn++pins,p.1≠b
def Inv.fpOk{H':Hp}{b:ai}(I:Inv X pins σ H s)(hb:s.heap.objs.size<=b)(hn:H' b=af):Qz X pins H' b:=by
 refine⟨hn,Pr (Xr I.lt hb),I.nofs hb,.inr (Xn I.sz hb),λx c e z=>?_,λp hp z=>?_⟩
 .obtain⟨v,q⟩:=I.cell x c e;exact absurd (Xr q.lt (by rw[z];exact hb)) (Py _)
 .exact absurd (Xr (X4 (I.pin p hp).1) (by rw[z];exact hb)) (Py _)
structure Turn(P:az)(w:aD)(K:k9k)(tg:av)(J:It)(fp:List ai)(it:ai)(tn:Nat->aE->Prop):Prop where
 mem:it∈fp
 obj:∀i h,tn i h->∀b∈fp,∃o,h.get? b=a8 o/\∀v,o.data≠.cell v
 keep:∀i h h',tn i h->(∀b∈fp,∀o,h.get? b=a8 o->h'.get? b=a8 o)->tn i h'
 item:∀(X:Cx),X.prog=P->X.w=w->X.K=K->X.calm=ae->∀(i:Nat)(pins:k9m) (s:aq) (σ:St) (H:Hp) (E:k9l),Inv X pins σ H s->(∀b∈fp,Qz X pins H b)->tn i s.heap->J.go i H ->
  ay (aB P w) X.A (cZ (.ref it)) (λr s1=>∃u,r=a8 u /\
   ay (aB P w) X.A (fq tg (.ref it) u) (λ_ s2=>∃x H',Inv X pins σ H' s2/\RelV x u/\J.yld i H x H'/\tn (i+1) s2.heap/\∀b∈fp,H' b=af) E s1) E s
 done:∀(X:Cx),X.prog=P->X.w=w->X.K=K->X.calm=ae->∀(i:Nat)(pins:k9m) (s:aq) (σ:St) (H:Hp) (E:k9l),Inv X pins σ H s->(∀b∈fp,Qz X pins H b)->tn i s.heap->J.stop i H ->
  ay (aB P w) X.A (cZ (.ref it)) (λr s1=>r=af/\Inv X pins σ H s1) E s
 self:∀(A:aF)(i:Nat)(s:aq)(Q:k9l)(E:k9l),tn i s.heap->Q (.ref it) s->ay (aB P w) A (iW (.ref it)) Q E s
abbrev TI:=St->Hp->(It->Hp->Prop)->Prop
def PIE(X:Cx)(pins:k9m)(σ:St)(tg:av)(R:It->Hp->Prop)(itv:ah)(s2:aq):Prop :=
 ∃(it:ai)(fp:List ai)(tn:Nat->aE->Prop)(J:It)(H':Hp),itv=.ref it/\Inv X pins σ H' s2/\Turn X.prog X.w X.K tg J fp it tn/\tn 0 s2.heap/\(∀b∈fp,Qz X pins H' b)/\R J H'
def PI(X:Cx)(tg iter:av)(wi:TI):Prop :=
 ∀(pins:k9m) (s:aq) (σ:St) (H:Hp) (R:It->Hp->Prop),Inv X pins σ H s->wi σ H R ->
  ay (aB X.prog X.w) X.A (aC iter X.env) (λv s1=>ay (aB X.prog X.w) X.A (iW v) (PIE X pins σ tg R) X.xe s1) X.xe s
def j39{M:jU}{it:ai}{u:ah}{o:d7}{n:String}{vs:Array ah}{Q:Unit->aq->Prop}(ho:s.heap.get? it=a8 o)(hc:o.cls=.type n)(hd:o.data=.fields vs)
  (hn:["enumerate","zip","dict_itemiterator","dict_reverseitemiterator","odict_iterator","itertools.zip_longest","itertools.pairwise"].contains n=a9) (hQ:Q () s):ay M A (fq tg (.ref it) u) Q E s:=by
 unfold fq;cases tg<;>first
  |exact ar hQ
  |(cases u<;>first
    |exact ar hQ
    |(refine aa (lr ho ?_);rw[hc,hd];show ay M A (if (["enumerate","zip","dict_itemiterator","dict_reverseitemiterator","odict_iterator","itertools.zip_longest","itertools.pairwise"].contains n&&vs[0]?==a8 (cQ _))=ae then _ else _) Q E s;rw[if_neg (by intro h;rw[hn,l9]at h;cases h)];exact ar hQ))
noncomputable def Itl(K:k9k)(a:ai):It :=
 ⟨λi H=>∃xs x,SqL K H a xs/\xs[i]?=a8 x,λi H x H'=>H'=H/\∀xs,SqL K H a xs->xs[i]?=a8 x,λi H=>∃xs,SqL K H a xs/\xs.length<=i⟩
noncomputable def Itt(K:k9k)(a:ai):It :=
 ⟨λi H=>∃xs x,SqT K H a xs/\xs[i]?=a8 x,λi H x H'=>H'=H/\∀xs,SqT K H a xs->xs[i]?=a8 x,λi H=>∃xs,SqT K H a xs/\xs.length<=i⟩
noncomputable def Itr(lo:Int)(n:Nat):It:=⟨λi _=>i<n,λi H x H'=>H'=H/\x=.int (lo+i),λi _=>n<=i⟩
variable{K:k9k}
def j8s(a it:ai):Turn P w K tg (Itl K a) [it] it (λi h=>h.IsListIter it a i) where
 mem:=by simp
 obj:=λi h st b hb=>by
  have e:b=it:=by simpa using hb
  subst e;obtain⟨o,e,c,d⟩:=st;exact⟨o,e,λv z=>by rw[d]at z;cases z⟩
 keep:=λi h h' st k=>st.at λo e=>k it (by simp) o e
 item:=by intro X hP hw hK hc i pins s σ H E I hf st hg;subst hP hw hK;obtain⟨xs,x,hq,hx⟩:=hg;obtain⟨its,rv,p,hz⟩:=I.list hq;obtain⟨u,hu,ru⟩:=rv.get hx;obtain⟨f0,f1,f2,f3,f4,f5⟩:=hf it (by simp);refine fc st p.isList (x:=u) (by simpa using hu) λh' st' sb=>?_;have I1:Inv X pins σ H { s with heap:=h' }:=I.turned (t':=s.toks) (λb o hb e=>(sb.2 b hb).trans e) f0 f1 f3 f4 f5;obtain⟨o,e,c,d⟩:=id st';exact⟨u,rfl,j39 (s:={ s with heap:=h' }) e c d (by decide) ⟨x,H,I1,ru,⟨rfl,λys hy=>by rw[I.list_inj hy hq];exact hx⟩,st',λb hb=>(hf b hb).1⟩⟩
 done:=by intro X hP hw hK hc i pins s σ H E I hf st hg;subst hP hw hK;obtain⟨xs,hq,hx⟩:=hg;obtain⟨its,rv,p,hz⟩:=I.list hq;obtain⟨f0,f1,f2,f3,f4,f5⟩:=hf it (by simp);have hl:=rv.length;exact kz (I.ok.hd hc) st p.isList (by simp;omega) λh' eb=>⟨rfl,I.turned (t':=s.toks) (λb o hb e=>eb b o hb e) f0 f1 f3 f4 f5⟩
 self:=λ_ _ _ _ _ st h=>wpAny_pyIter_listiter st h
def j7d(a it:ai):Turn P w K tg (Itt K a) [it] it (λi h=>h.IsTupleIter it a i) where
 mem:=by simp
 obj:=λi h st b hb=>by
  have e:b=it:=by simpa using hb
  subst e;obtain⟨o,e,c,d⟩:=st;exact⟨o,e,λv z=>by rw[d]at z;cases z⟩
 keep:=λi h h' st k=>st.at λo e=>k it (by simp) o e
 item:=by intro X hP hw hK hc i pins s σ H E I hf st hg;subst hP hw hK;obtain⟨xs,x,hq,hx⟩:=hg;obtain⟨its,rv,p,hz⟩:=I.tuple hq;obtain⟨u,hu,ru⟩:=rv.get hx;obtain⟨f0,f1,f2,f3,f4,f5⟩:=hf it (by simp);refine wpAny_pyNext_tuple_item st (show s.heap.IsTuple a its.toArray from p) (x:=u) (by simpa using hu) λh' st' sb=>?_;have I1:Inv X pins σ H { s with heap:=h' }:=I.turned (t':=s.toks) (λb o hb e=>(sb.2 b hb).trans e) f0 f1 f3 f4 f5;obtain⟨o,e,c,d⟩:=id st';exact⟨u,rfl,j39 (s:={ s with heap:=h' }) e c d (by decide) ⟨x,H,I1,ru,⟨rfl,λys hy=>by rw[I.tuple_inj hy hq];exact hx⟩,st',λb hb=>(hf b hb).1⟩⟩
 done:=by intro X hP hw hK hc i pins s σ H E I hf st hg;subst hP hw hK;obtain⟨xs,hq,hx⟩:=hg;obtain⟨its,rv,p,hz⟩:=I.tuple hq;obtain⟨f0,f1,f2,f3,f4,f5⟩:=hf it (by simp);have hl:=rv.length;exact wpAny_pyNext_tuple_end (I.ok.hd hc) st (show s.heap.IsTuple a its.toArray from p) (by simp;omega) λh' eb=>⟨rfl,I.turned (t':=s.toks) (λb o hb e=>eb b o hb e) f0 f1 f3 f4 f5⟩
 self:=λ_ _ _ _ _ st h=>wpAny_pyIter_tupleiter st h
def j7e(it:ai)(lo:Int)(n:Nat):Turn P w K tg (Itr lo n) [it] it (λi h=>IsRangeIter h it (lo+(i:Nat)*1) ((n:Int)-(i:Nat)) 1) where
 mem:=by simp
 obj:=λi h st b hb=>by
  have e:b=it:=by simpa using hb
  subst e;exact⟨_,st,λv z=>by
   have z':Data.fields _=Data.cell v:=z
   cases z'⟩
 keep:=λi h h' st k=>k it (by simp) _ st
 item:=by intro X hP hw hK hc i pins s σ H E I hf st hg;subst hP hw hK;obtain⟨f0,f1,f2,f3,f4,f5⟩:=hf it (by simp);have W:=Walks.range (prog:=X.prog) (w:=X.w) (I.ok.hd hc) it lo 1 n;refine W.item i s _ _ hg st λv h' tk hv st' kk=>?_;obtain⟨t,rfl⟩:=hv;have I1:Inv X pins σ H { s with heap:=h',toks:=tk }:=I.turned (λb o hb e=>kk b o (by simpa using hb) e) f0 f1 f3 f4 f5;refine⟨_,rfl,j39 (s:={ s with heap:=h',toks:=tk }) (n:="range_iterator") st' rfl rfl (by decide) ⟨.int (lo+i),H,I1,⟨t,?_⟩,⟨rfl,rfl⟩,st',λb hb=>(hf b hb).1⟩⟩;rw[mX]
 done:=by intro X hP hw hK hc i pins s σ H E I hf st hg;subst hP hw hK;obtain⟨f0,f1,f2,f3,f4,f5⟩:=hf it (by simp);exact wpAny_pyNext_range_end (I.ok.hd hc) st (by have:n<=i:=hg;omega) λh' eb=>⟨rfl,I.turned (t':=s.toks) (λb o hb e=>eb b o hb e) f0 f1 f3 f4 f5⟩
 self:=λ_ _ _ _ _ st h=>wpAny_pyIter_rangeiter st h
variable{fp:List ai}
section
variable{X:Cx}{tg:av}
def jop(K:k9k)(tl:TE):TI:=λσ H R=>tl σ H λx H1=>∃a,x=.ref a/\(∃xs,SqL K H1 a xs)/\R (Itl K a) H1
def jqh(K:k9k)(tl:TE):TI:=λσ H R=>tl σ H λx H1=>∃a,x=.ref a/\(∃xs,SqT K H1 a xs)/\R (Itt K a) H1
def jh5{l:av}{tl:TE}(hl:PE X l tl):PI X tg l (jop X.K tl):=by
 intro pins s σ H R I h;refine thn (hl pins s σ H _ I h) λv s1 ⟨x,H1,I1,r1,q1⟩=>?_;obtain⟨a,e,⟨xs,hq⟩,q⟩:=q1;subst e;cases r1;obtain⟨its,rv,p,hz⟩:=I1.list hq;refine bJ p.isList ?_;refine⟨s1.heap.objs.size,[s1.heap.objs.size],_,_,H1,rfl,I1.kept (t':=s1.toks) λb o e=>xj _ e,j8s a _,⟨_,X3 _ rfl,rfl,rfl⟩,λb hb=>?_,q⟩;have e:b=s1.heap.objs.size:=by simpa using hb
 subst e;exact I1.fpOk (X8 _) (I1.hok.fresh (X8 _))
def jjz{l:av}{tl:TE}(hl:PE X l tl):PI X tg l (jqh X.K tl):=by
 intro pins s σ H R I h;refine thn (hl pins s σ H _ I h) λv s1 ⟨x,H1,I1,r1,q1⟩=>?_;obtain⟨a,e,⟨xs,hq⟩,q⟩:=q1;subst e;cases r1;obtain⟨its,rv,p,hz⟩:=I1.tuple hq;refine gE (show s1.heap.IsTuple a its.toArray from p) ?_;refine⟨s1.heap.objs.size,[s1.heap.objs.size],_,_,H1,rfl,I1.kept (t':=s1.toks) λb o e=>xj _ e,j7d a _,⟨_,X3 _ rfl,rfl,rfl⟩,λb hb=>?_,q⟩;have e:b=s1.heap.objs.size:=by simpa using hb
 subst e;exact I1.fpOk (X8 _) (I1.hok.fresh (X8 _))
def j3y{R:It->Hp->Prop}{lo hi:Int}{t u v:iy}{tk:Nat}(I:Inv X pins σ H s)(h1:-(2^62)<=lo)(h2:lo<2^62)(h3:-(2^62)<=hi)(h4:hi<2^62)
  (q:R (Itr lo (hi-lo).toNat) H):ay (aB X.prog X.w) X.A (iW (.ref s.heap.objs.size)) (PIE X pins σ tg R) E { s with heap:=s.heap.push { cls:=.type "range",data:=.fields #[.int lo t,.int hi u,.int 1 v] },toks:=tk }:=by
 refine wpAny_pyIter_range (IsRange.new ..) (small_one h1 h2 h3 h4) ?_;have I1:Inv X pins σ H { s with heap:=s.heap.push { cls:=.type "range",data:=.fields #[.int lo t,.int hi u,.int 1 v] },toks:=tk }:=I.kept λb o e=>xj _ e;refine⟨(s.heap.push { cls:=.type "range",data:=.fields #[.int lo t,.int hi u,.int 1 v] }).objs.size,[(s.heap.push { cls:=.type "range",data:=.fields #[.int lo t,.int hi u,.int 1 v] }).objs.size],_,_,H,rfl,
  I1.kept (t':=tk) λb o e=>xj _ e,j7e _ lo (hi-lo).toNat,?_,λb hb=>?_,q⟩
 .have e1:lo+((0:Nat):Int)*1=lo:=by simp
  have e2:(((hi-lo).toNat:Nat):Int)-((0:Nat):Int)=Builtin.Range.rangeSize lo hi 1:=by rw[rangeSize_one];split<;>omega
  show IsRangeIter _ _ (lo+((0:Nat):Int)*1) ((((hi-lo).toNat:Nat):Int)-((0:Nat):Int)) 1;rw[e1,e2];exact X3 _ rfl
 .have e:b=(s.heap.push { cls:=.type "range",data:=.fields #[.int lo t,.int hi u,.int 1 v] }).objs.size:=by simpa using hb
  subst e;exact I1.fpOk (X8 _) (I1.hok.fresh (X8 _))
def joo(ta:TA):TI:=λσ H R=>ta σ H λvs H1=>∃j:Int,vs=[.int j]/\-(2^62)<=j/\j<2^62/\R (Itr 0 j.toNat) H1
def jon(ta:TA):TI:=λσ H R=>ta σ H λvs H1=>∃i j:Int,vs=[.int i,.int j]/\(-(2^62)<=i/\i<2^62/\-(2^62)<=j/\j<2^62)/\R (Itr i (j-i).toNat) H1
def j9p {a:av} {ta:TA} {p pos:aP} (hg:Gl X "range") (hm:X.mg "range" = af) (ha:PA X [a] ta) (hs:aj [a] X.env=[(a9,aC a X.env)]:=by rfl):PI X tg (.Call (.Name "range" p) [a] [] pos) (joo ta):=by
 intro pins s σ H R I h;refine Call_ (Jl I hg hm boot_range (callWith_type1 (thn (ha pos pins s σ H _ I h) λus s1 ⟨vs,H1,I1,r1,q1⟩=>?_) hs rfl));obtain⟨j,e,q1,q2,q⟩:=q1;subst e;cases r1 with
 |cons r rr =>cases rr;obtain⟨t,rfl⟩:=r;exact call_range_1 (j3y I1 nofun nofun q1 q2 (by simpa using q))
def j9o {a b:av} {ta:TA} {p pos:aP} (hg:Gl X "range") (hm:X.mg "range" = af) (ha:PA X [a,b] ta) (hs:aj [a,b] X.env=[(a9,aC a X.env),(a9,aC b X.env)]:=by rfl) (hs2:aj [b] X.env=[(a9,aC b X.env)]:=by rfl) :
  PI X tg (.Call (.Name "range" p) [a,b] [] pos) (jon ta):=by
 intro pins s σ H R I h;refine Call_ (Jl I hg hm boot_range (callWith_type1 (thn (ha pos pins s σ H _ I h) λus s1 ⟨vs,H1,I1,r1,q1⟩=>?_) (by rw[hs,hs2]) (by rw[hs2];rfl)));obtain⟨i,j,e,⟨q1,q2,q3,q4⟩,q⟩:=q1;subst e;cases r1 with
 |cons r rr =>
  cases rr with
  |cons r' rr =>cases rr;obtain⟨t,rfl⟩:=r;obtain⟨t',rfl⟩:=r';exact call_range_2 (j3y I1 q1 q2 q3 q4 q)
def jq0(wi:TI)(g:TG)(tb:TS):TS:=λD σ H=>wi σ H λJ H1=>∃W:Nat->Nat->St->Hp->Prop,(∃m,W 0 m σ H1)/\∀i m σ H,W i m σ H ->
 (J.stop i H/\D.nx σ H)\/(J.go i H/\∃N:St->Hp->Prop,(∀σ' H',N σ' H'->∃m',m'<m/\W (i+1) m' σ' H')/\∀x H',J.yld i H x H'->g x σ H' λσ2 H2=>tb { D with nx:=N,ct:=N,bk:=D.nx } σ2 H2)
noncomputable def Vl(fp:List ai)(h:aE):List (ai×d7):=fp.filterMap λb=>(h.get? b).map λo=>(b,o)
def Zq{b:ai}{o:d7}(hb:b∈fp)(e:h.get? b=a8 o):(b,o)∈Vl fp h:=Sq.mpr ⟨b,hb,by rw[e];rfl⟩
def j1y{p:ai×d7}(hp:p∈Vl fp h):p.1∈fp/\h.get? p.1=a8 p.2:=by
 obtain⟨b,hb,e⟩:=Sq.mp hp;cases q:h.get? b with
 |none=>rw[q]at e;cases e
 |some o =>rw[q]at e;have e':(b,o)=p:=ax e;subst e';exact⟨hb,q⟩
def Inv.pinned(I:Inv X pins σ H s)(hf:∀b∈fp,Qz X pins H b)(ho:∀b∈fp,∃o,s.heap.get? b=a8 o/\∀v,o.data≠.cell v):Inv X (pins++Vl fp s.heap) σ H s :=
 I.pins_of λp hp=>(P0.mp hp).elim (λz=>I.pin p (Xo _ z)) λz=>by obtain⟨hb,e⟩:=j1y z;obtain⟨f0,f1,f2,_⟩:=hf p.1 hb;obtain⟨o,e',d⟩:=ho p.1 hb;rw[e]at e';cases e';exact⟨e,f0,f1,f2,d⟩
def Inv.unpinned{pl:k9m}(I:Inv X (pins++pl) σ H s):Inv X pins σ H s:=I.pins_of λp hp=>I.pin p (Xo _ (Tj _ hp))
def j40{iter:av}{body:List aX}{wi:TI}{g:TG}{tb:TS}{pos:aP}(hp:g6 (aB X.prog X.w) X.A X.env X.xe)(hc:X.calm=ae)(hi:PI X tg iter wi)(hg:PG X tg g)(hb:PSs X body tb)
  (hs:∀x,aH iter X.env x=pure x:=by intro _;rfl):PS X (.For tg iter body [] pos) (jq0 wi g tb):=by
 intro pins s σ H D I h;refine wpAny_For (thn (hi pins s σ H _ I h) λv s1 h1=>thn h1 λitv s2 h2=>?_) hs;obtain⟨it,fp,tn,J,H2,e,I2,T,st2,f2,W,⟨m0,w0⟩,turn⟩:=h2;subst e;have stat:∀{H':Hp},(∀b∈fp,H' b=af)->∀b∈fp,Qz X pins H' b:=λhn b hb=>⟨hn b hb,(f2 b hb).2⟩
 refine codeAny_forLoop_any (λn s'=>∃i σ' H',Inv X pins σ' H' s'/\tn i s'.heap/\(∀b∈fp,H' b=af)/\W i n σ' H') ?_ m0 ⟨0,σ,H2,I2,st2,λb hb=>(f2 b hb).1,w0⟩;rintro n s3 ⟨i,σ3,H3,I3,st3,fr3,w3⟩;rcases turn i n σ3 H3 w3 with ⟨stop,qn⟩|⟨go,N,hN,step⟩
 .refine dG hp (thn (T.done X rfl rfl rfl hc i pins s3 σ3 H3 X.xe I3 (stat fr3) st3 stop) λr s4 ⟨hr,I4⟩=>?_);subst hr;exact iE ⟨σ3,H3,I4,qn⟩
 .refine dG hp (thn (T.item X rfl rfl rfl hc i pins s3 σ3 H3 X.xe I3 (stat fr3) st3 go) λr s4 ⟨u,hr,h4⟩=>?_);subst hr;refine dG hp (thn h4 λ_ s5 ⟨x,H5,I5,r5,y5,st5,fr5⟩=>?_);have I5':=I5.pinned (stat fr5) (T.obj _ _ st5);refine dG hp (thn (hg _ s5 σ3 H5 x u _ I5' r5 (step x H5 y5)) λ_ s6 ⟨σ6,H6,I6,q6⟩=>?_);refine dG hp (thn (hb _ s6 σ6 H6 _ I6 q6) λf s7 q7=>?_);have jT:∀{σ7:St}{H7:Hp},Inv X (pins++Vl fp s5.heap) σ7 H7 s7->N σ7 H7->∃m,m<n/\∃i σ' H',Inv X pins σ' H' s7/\tn i s7.heap/\(∀b∈fp,H' b=af)/\W i m σ' H':=λ{σ7 H7} I7 n7=>by obtain⟨m',hm,w7⟩:=hN σ7 H7 n7;refine⟨m',hm,i+1,σ7,H7,I7.unpinned,T.keep _ _ _ st5 λb hb o e=>(I7.pin (b,o) (Xo _ (Xo _ (Zq hb e)))).1,λb hb=>?_,w7⟩;obtain⟨o,e,d⟩:=T.obj _ _ st5 b hb;exact(I7.pin (b,o) (Xo _ (Xo _ (Zq hb e)))).2.1
  cases f with
  |next=>obtain⟨σ7,H7,I7,n7⟩:=q7;exact jT I7 n7
  |cont=>obtain⟨σ7,H7,I7,n7⟩:=q7;exact jT I7 n7
  |brk=>obtain⟨σ7,H7,I7,q7⟩:=q7;exact⟨σ7,H7,I7.unpinned,q7⟩
  |ret v=>obtain⟨x7,σ7,H7,H8,I7,r7,x8,q7⟩:=q7;exact⟨x7,σ7,H7,H8,I7.unpinned,r7,x8,q7⟩
end
abbrev R2:=V->V->Hp->VK->Prop
def OpR(X:Cx)(f:ah->ah->Sem ah)(r:R2):Prop :=
 ∀(pins:k9m) (s:aq) (σ:St) (H:Hp) (x y:V) (v u:ah) (Q:VK),Inv X pins σ H s->RelV x v->RelV y u->r x y H Q ->
  ay (aB X.prog X.w) X.A (f v u) (EP X pins σ Q) X.xe s
def Z0(X:Cx)(f:ah)(r:List V->Hp->VK->Prop):Prop :=
 ∀(pins:k9m) (s:aq) (σ:St) (H:Hp) (xs:List V) (us:List ah) (Q:VK),Inv X pins σ H s->Vals xs us->r xs H Q ->
  ay (aB X.prog X.w) X.A (call f us) (EP X pins σ Q) X.xe s
def tOp(r:R2)(ta tb:TE):TE:=λσ H Q=>ta σ H λx H1=>tb σ H1 λy H2=>r x y H2 Q
def rI(C:Int->Int->Prop)(g:Int->Int->V):R2:=λx y H Q=>∃i j,x=.int i/\y=.int j/\C i j/\Q (g i j) H
def rI0(g:Int->Int->V):R2:=λx y H Q=>∃i j,x=.int i/\y=.int j/\Q (g i j) H
variable{r:R2}
section
variable{X:Cx}{a b c:av}{ta tb tc:TE}{pos:aP}
def jeb(ha:PE X a ta)(hb:PE X b tb){R:V->V->Hp->Prop}(I:Inv X pins σ H s)
  (h:ta σ H λx H1=>tb σ H1 λy H2=>R x y H2) {Q:k9l} {f:ah->ah->Sem ah}
  (hf:∀v u s2 x y H2,Inv X pins σ H2 s2->RelV x v->RelV y u->R x y H2->ay (aB X.prog X.w) X.A (f v u) Q X.xe s2) :
  ay (aB X.prog X.w) X.A (aC a X.env) (λv s₁=>ay (aB X.prog X.w) X.A (aC b X.env) (λu s₂=>ay (aB X.prog X.w) X.A (f v u) Q X.xe s₂) X.xe s₁) X.xe s:=by
 refine thn (ha pins s σ H _ I h) λv s1 ⟨x,H1,I1,r1,q1⟩=>?_;refine thn (hb pins s1 σ H1 _ I1 q1) λu s2 ⟨y,H2,I2,r2,q2⟩=>?_;exact hf v u s2 x y H2 I2 r1 r2 q2
def Wg{op:kL}(ho:OpR X (bh op) r)(ha:PE X a ta)(hb:PE X b tb):PE X (.BinOp a op b pos) (tOp r ta tb):=by intro pins s σ H Q I h;exact wpAny_BinOp (jeb ha hb I h λv u s2 x y H2 I2 rx ry q=>ho pins s2 σ H2 x y v u Q I2 rx ry q)
def opI{f:ah->ah->Sem ah}{C:Int->Int->Prop}{g:Int->Int->Int}
  (rule:∀(i j:Int)(t u:iy)(s:aq)(Q:k9l)(E:k9l),C i j->Q (.int (g i j) s.toks) { s with toks:=s.toks+1 }->ay (aB X.prog X.w) X.A (f (.int i t) (.int j u)) Q E s) :
  OpR X f (rI C λi j=>.int (g i j)):=by
 intro pins s σ H x y v u Q I rx ry h;obtain⟨i,j,rfl,rfl,hc,q⟩:=h;obtain⟨t,rfl⟩:=rx;obtain⟨t',rfl⟩:=ry;exact rule i j t t' s _ _ hc ⟨.int (g i j),H,I.tok _,⟨_,rfl⟩,q⟩
def j7t{f:ah->ah->Sem ah}{g:Int->Int->Int}
  (rule:∀(i j:Int)(t u:iy)(s:aq)(Q:k9l)(E:k9l),Q (.int (g i j) s.toks) { s with toks:=s.toks+1 }->ay (aB X.prog X.w) X.A (f (.int i t) (.int j u)) Q E s) :
  OpR X f (rI0 λi j=>.int (g i j)):=by
 intro pins s σ H x y v u Q I rx ry h;obtain⟨i,j,rfl,rfl,q⟩:=h;obtain⟨t,rfl⟩:=rx;obtain⟨t',rfl⟩:=ry;exact rule i j t t' s _ _ ⟨.int (g i j),H,I.tok _,⟨_,rfl⟩,q⟩
def j7u{f:ah->ah->Sem ah}{g:Int->Int->Bool}
  (rule:∀(i j:Int)(t u:iy)(s:aq)(Q:k9l)(E:k9l),Q (.bool (g i j)) s->ay (aB X.prog X.w) X.A (f (.int i t) (.int j u)) Q E s) :
  OpR X f (rI0 λi j=>.bl (g i j)):=by
 intro pins s σ H x y v u Q I rx ry h;obtain⟨i,j,rfl,rfl,q⟩:=h;obtain⟨t,rfl⟩:=rx;obtain⟨t',rfl⟩:=ry;exact rule i j t t' s _ _ ⟨.bl (g i j),H,I,rfl,q⟩
def j8k(i j:Int):Prop:=0<=j/\j<=1000000/\i.natAbs<2^64
def j8l(i j:Int):Prop:=(-(2^64)<i/\i<2^64)\/(-(2^64)<j/\j<2^64)
def j8l.ok{i j:Int}(h:j8l i j):IntMulOk i j:=by
 rcases h with ⟨h1,h2⟩|⟨h1,h2⟩
 .exact .of_left (nB h1 h2)
 .exact .of_right (nB h1 h2)
def j7c(k:Nat):(0:Int)<=2^k:=by rw[two_pow_cast];exact Int.natCast_nonneg _
def jkh:OpR X (bh .Add) (rI0 λi j=>.int (i+j)):=j7t λ_ _ _ _ _ _ _ q=>add_int q
def jk9:OpR X (bh .Sub) (rI0 λi j=>.int (i-j)):=j7t λ_ _ _ _ _ _ _ q=>sub_int q
def jke:OpR X (bh .Mult) (rI j8l λi j=>.int (i*j)):=opI λ_ _ _ _ _ _ _ hc q=>mul_int q hc.ok
def jkf:OpR X (bh .Mod) (rI (λ_ j=>0<j) λi j=>.int (i%j)):=opI λi j _ _ _ _ _ hc q=>by have h1:(0:Int)<j:=hc;exact mod_int' nofun (by rw[Int.fmod_eq_emod_of_nonneg i nofun];exact q)
def jkd:OpR X (bh .Pow) (rI j8k λi j=>.int (i^j.toNat)):=opI λ_ _ _ _ _ _ _ hc q=>pow_int_small hc.1 hc.2.1 hc.2.2 q
def jkb:OpR X (bh .LShift) (rI j8k λi j=>.int (i*2^j.toNat)):=opI λ_ _ _ _ _ _ _ hc q=>lshift_int_small hc.1 hc.2.1 hc.2.2 q
def jka:OpR X (bh .RShift) (rI (λ_ j=>0<=j) λi j=>.int (i/2^j.toNat)):=opI λi j _ _ _ _ _ hc q =>rshift_int hc (by rw[ik i (j7c _)];exact q)
def jkg:OpR X (bh .BitAnd) (rI0 λi j=>.int (dj i j)):=j7t λ_ _ _ _ _ _ _ q=>and_int q
def jk8:OpR X (bh .BitXor) (rI0 λi j=>.int (bG i j)):=j7t λ_ _ _ _ _ _ _ q=>xor_int q
end
noncomputable def j0e:V->V->Bool
 |.non,.non=>ae|.non,.int _=>ae|.int _,.non=>ae|.non,.bl _=>ae|.bl _,.non=>ae|.non,.str _=>ae|.str _,.non=>ae
 |.int _,.int _=>ae|.bl _,.bl _=>ae|.str _,.str _=>ae|.byt _,.byt _=>ae
 |.int _,.str _=>ae|.str _,.int _=>ae|.bl _,.str _=>ae|.str _,.bl _=>ae
 |_,_=>a9
def rEq:R2:=λx y H Q=>j0e x y=ae/\Q (.bl (decide (x=y))) H
def rNe:R2:=λx y H Q=>j0e x y=ae/\Q (.bl (!decide (x=y))) H
def j6y{i j:Int}:decide (V.int i=V.int j)=(i==j):=by rw[dh];simp
def jan{i j:Bool}:decide (V.bl i=V.bl j)=(i==j):=by rw[dh];simp
def j6x{i j:au}:decide (V.str i=V.str j)=(i==j):=by rw[dh];simp
def j6z{i j:Array UInt8}:decide (V.byt i=V.byt j)=(i.toList==j.toList):=by rw[dh];cases i;cases j;simp
variable{Q:VK}{us:List ah}
section
variable{X:Cx}{a b c:av}{ta tb tc:TE}{pos:aP}
def qj{k k':Bool}(I:Inv X pins σ H s)(q:Q (.bl k) H)(e:k=k'):EP X pins σ Q (.bool k') s:=by subst e;exact⟨.bl k,H,I,rfl,q⟩
def jf4:OpR X (aZ .Eq) rEq:=by
 intro pins s σ H x y v u Q I rx ry h;obtain⟨hs,q⟩:=h;cases x with
 |non =>
  cases rx;cases y with
  |non=>cases ry;exact mN (qj I q (by simp))
  |bl j=>cases ry;exact mP (qj I q (by simp))
  |int j=>obtain⟨t',rfl⟩:=ry;exact mO (qj I q (by simp))
  |str j=>obtain⟨t',rfl⟩:=ry;exact mM (qj I q (by simp))
  |_=>exact absurd (show a9=ae from hs) xq
 |bl i =>
  cases rx;cases y with
  |non=>cases ry;exact mR (qj I q (by simp))
  |bl j=>cases ry;exact eq_bool (qj I q jan)
  |str j=>obtain⟨t',rfl⟩:=ry;exact ma (qj I q (by simp))
  |_=>exact absurd (show a9=ae from hs) xq
 |int i =>
  obtain⟨t,rfl⟩:=rx;cases y with
  |non=>cases ry;exact mQ (qj I q (by simp))
  |int j=>obtain⟨t',rfl⟩:=ry;exact eq_int (qj I q j6y)
  |str j=>obtain⟨t',rfl⟩:=ry;exact m9 (qj I q (by simp))
  |_=>exact absurd (show a9=ae from hs) xq
 |str i =>
  obtain⟨t,rfl⟩:=rx;cases y with
  |non=>cases ry;exact mK (qj I q (by simp))
  |bl j=>cases ry;exact m8 (qj I q (by simp))
  |int j=>obtain⟨t',rfl⟩:=ry;exact lZ (qj I q (by simp))
  |str j=>obtain⟨t',rfl⟩:=ry;exact eq_str (qj I q j6x)
  |_=>exact absurd (show a9=ae from hs) xq
 |byt i =>
  obtain⟨t,rfl⟩:=rx;cases y with
  |byt j=>obtain⟨t',rfl⟩:=ry;exact W.eq_bytes (qj I q j6z)
  |_=>exact absurd (show a9=ae from hs) xq
 |_=>cases y<;>exact absurd (show a9=ae from hs) xq
def jez:OpR X (aZ .NotEq) rNe:=by
 intro pins s σ H x y v u Q I rx ry h;obtain⟨hs,q⟩:=h;cases x with
 |non =>
  cases rx;cases y with
  |non=>cases ry;exact mF (qj I q (by simp))
  |bl j=>cases ry;exact mH (qj I q (by simp))
  |int j=>obtain⟨t',rfl⟩:=ry;exact mG (qj I q (by simp))
  |str j=>obtain⟨t',rfl⟩:=ry;exact mE (qj I q (by simp))
  |_=>exact absurd (show a9=ae from hs) xq
 |bl i =>
  cases rx;cases y with
  |non=>cases ry;exact mJ (qj I q (by simp))
  |bl j=>cases ry;exact ne_bool (qj I q (congrArg not jan))
  |str j=>obtain⟨t',rfl⟩:=ry;exact lY (qj I q (by simp))
  |_=>exact absurd (show a9=ae from hs) xq
 |int i =>
  obtain⟨t,rfl⟩:=rx;cases y with
  |non=>cases ry;exact mI (qj I q (by simp))
  |int j=>obtain⟨t',rfl⟩:=ry;exact ne_int (qj I q (congrArg not j6y))
  |str j=>obtain⟨t',rfl⟩:=ry;exact lX (qj I q (by simp))
  |_=>exact absurd (show a9=ae from hs) xq
 |str i =>
  obtain⟨t,rfl⟩:=rx;cases y with
  |non=>cases ry;exact mD (qj I q (by simp))
  |bl j=>cases ry;exact lW (qj I q (by simp))
  |int j=>obtain⟨t',rfl⟩:=ry;exact lV (qj I q (by simp))
  |str j=>obtain⟨t',rfl⟩:=ry;exact ne_str (qj I q (congrArg not j6x))
  |_=>exact absurd (show a9=ae from hs) xq
 |byt i =>
  obtain⟨t,rfl⟩:=rx;cases y with
  |byt j=>obtain⟨t',rfl⟩:=ry;exact W.ne_bytes (qj I q (congrArg not j6z))
  |_=>exact absurd (show a9=ae from hs) xq
 |_=>cases y<;>exact absurd (show a9=ae from hs) xq
def jf0:OpR X (aZ .Lt) (rI0 λi j=>.bl (decide (i<j))):=j7u λ_ _ _ _ _ _ _ q=>lt_int q
def jf1:OpR X (aZ .LtE) (rI0 λi j=>.bl (decide (i<=j))):=j7u λ_ _ _ _ _ _ _ q=>le_int q
def jf2:OpR X (aZ .Gt) (rI0 λi j=>.bl (decide (j<i))):=j7u λ_ _ _ _ _ _ _ q=>gt_int q
def jf3:OpR X (aZ .GtE) (rI0 λi j=>.bl (decide (j<=i))):=j7u λ_ _ _ _ _ _ _ q=>ge_int q
def j1v:OpR X (aZ .Lt) (λx y H Q=>∃i j,x=.str i/\y=.str j/\Q (.bl (decide (i.cps.toList<j.cps.toList))) H):=by intro pins s σ H x y v u Q I rx ry h;obtain⟨i,j,rfl,rfl,q⟩:=h;obtain⟨t,rfl⟩:=rx;obtain⟨t',rfl⟩:=ry;exact lt_str (qj I q rfl)
def j1w:OpR X (aZ .In) (λx y H Q=>∃i j,x=.str i/\y=.str j/\Q (.bl (!(gr j i 0 j.length 1).isEmpty)) H):=by intro pins s σ H x y v u Q I rx ry h;obtain⟨i,j,rfl,rfl,q⟩:=h;obtain⟨t,rfl⟩:=rx;obtain⟨t',rfl⟩:=ry;exact in_str (qj I q rfl)
def jh9:OpR X (aZ .IsNot) (λx y H Q=>y=.non/\Q (.bl (!decide (x=.non))) H):=by
 intro pins s σ H x y v u Q I rx ry h;obtain⟨rfl,q⟩:=h;cases ry;refine isnot_none_gen (qj I q ?_);cases x<;>first
  |(cases rx;rfl)
  |(obtain⟨t,rfl⟩:=rx;rfl)
def zc(b:av){op:iY}(h:op≠.In:=by decide)(h2:op≠.NotIn:=by decide):aO op b=a9:=by
 have e1:(op==CmpOp.In)=a9:=by cases op<;>first|rfl|exact absurd rfl h
 have e2:(op==CmpOp.NotIn)=a9:=by cases op<;>first|rfl|exact absurd rfl h2
 cases b<;>simp[aO,e1,e2]
def Q6{op:iY}(ho:OpR X (aZ op) r)(ha:PE X a ta)(hb:PE X b tb)(hm:aO op b=a9):PE X (.Compare a [op] [b] pos) (tOp r ta tb):=by intro pins s σ H Q I h;exact wpAny_Compare1 (jeb ha hb I h λv u s2 x y H2 I2 rx ry q=>ho pins s2 σ H2 x y v u Q I2 rx ry q) hm
def jne(t:TE):TT:=λσ H Q=>t σ H λx H'=>∃k,x=.bl k/\Q k H'
def Z3{op:iY}(ho:OpR X (aZ op) r)(ha:PE X a ta)(hb:PE X b tb)(hm:aO op b=a9):PT X (.Compare a [op] [b] pos) (jne (tOp r ta tb)):=by
 intro pins s σ H Q I h;refine kA (thn (ha pins s σ H _ I h) λv s1 ⟨x,H1,I1,r1,q1⟩=>thn (hb pins s1 σ H1 _ I1 q1) λu s2 ⟨y,H2,I2,r2,q2⟩ =>
  thn (ho pins s2 σ H2 x y v u _ I2 r1 r2 q2) λc s3 ⟨z,H3,I3,r3,k,e,q3⟩=>?_) hm
 subst e;cases r3;exact bI ⟨H3,I3,q3⟩
def Uz:(aw:Nat)<2^63:=by rw[eY];decide
def j7s:OpR X (bh .Add) (λx y H Q=>∃i j,x=.str i/\y=.str j/\i.length+j.length<=aw/\Q (.str (i++j)) H):=by intro pins s σ H x y v u Q I rx ry h;obtain⟨i,j,rfl,rfl,hz,q⟩:=h;obtain⟨t,rfl⟩:=rx;obtain⟨t',rfl⟩:=ry;exact add_str (λt' tk=>⟨.str (i++j),H,I.tok _,⟨_,rfl⟩,q⟩) hz
def vals1{x:V}(r:Vals [x] us):∃u,us=[u]/\RelV x u:=by
 cases r with
 |cons r1 r2=>cases r2;exact⟨_,rfl,r1⟩
def vals2{x y:V}(r:Vals [x,y] us):∃u w',us=[u,w']/\RelV x u/\RelV y w':=by
 cases r with
 |cons r1 r2 =>
  cases r2 with
  |cons r3 r4=>cases r4;exact⟨_,_,rfl,r1,r3⟩
def jb9 (hc:X.calm=ae):Z0 X (.builtin "max") (λxs H Q=>∃i j,xs=[.int i,.int j]/\Q (.int (if j>i then j else i)) H):=by
 intro pins s σ H xs us Q I r h;obtain⟨i,j,rfl,q⟩:=h;obtain⟨u,w',rfl,⟨t,rfl⟩,⟨t',rfl⟩⟩:=vals2 r;refine max_two_ints (I.ok.hd hc) λh' tk k=>⟨_,H,I.kept k,?_,q⟩
 by_cases hj:j>i
 .rw[if_pos hj,if_pos hj];exact⟨_,rfl⟩
 .rw[if_neg hj,if_neg hj];exact⟨_,rfl⟩
def jb7 (hc:X.calm=ae):Z0 X (.builtin "min") (λxs H Q=>∃i j,xs=[.int i,.int j]/\Q (.int (if j<i then j else i)) H):=by
 intro pins s σ H xs us Q I r h;obtain⟨i,j,rfl,q⟩:=h;obtain⟨u,w',rfl,⟨t,rfl⟩,⟨t',rfl⟩⟩:=vals2 r;refine min_two_ints (I.ok.hd hc) λh' tk k=>⟨_,H,I.kept k,?_,q⟩
 by_cases hj:j<i
 .rw[if_pos hj,if_pos hj];exact⟨_,rfl⟩
 .rw[if_neg hj,if_neg hj];exact⟨_,rfl⟩
def jba:Z0 X (.type "int") (λxs H Q=>(∃i,xs=[.int i]/\Q (.int i) H)\/∃k,xs=[.bl k]/\Q (.int (if k then 1 else 0)) H):=by
 intro pins s σ H xs us Q I r h;rcases h with ⟨i,rfl,q⟩|⟨k,rfl,q⟩
 .obtain⟨u,rfl,t,rfl⟩:=vals1 r;exact call_int_int ⟨.int i,H,I,⟨_,rfl⟩,q⟩
 .obtain⟨u,rfl,r1⟩:=vals1 r;cases r1;exact call_int_bool ⟨.int (if k then 1 else 0),H,I.tok _,⟨_,rfl⟩,q⟩
end
structure Room(k:Nat)(A:aF):Prop where
 hd:A.handled=af
 dp:A.depth+3*k+5<fO
 un:A.units+16*k+200<aU
 gd:A.guards=a8 []
variable{k:Nat}
def Room.mono{j:Nat}(r:Room k A)(h:j<=k):Room j A:=⟨r.hd,by have:=r.dp;omega,by have:=r.un;omega,r.gd⟩
theorem Room.deeper{k:Nat}{A:aF}(r:Room (k+1) A)(env:dR):Room k (A.deeper env) :=
 ⟨r.hd,by have:=r.dp;show A.depth+1+3*k+5<_;omega,by have:=r.un;show A.units+3+16*k+200<_;omega,r.gd⟩
theorem Room.depth{k:Nat}{A:aF}(r:Room k A):A.depth<fO:=by have:=r.dp;omega
def jpv:TA:=λ_ H Q=>Q [] H
def jer(ta:TE)(tr:TA):TA:=λσ H Q=>ta σ H λx H1=>tr σ H1 λxs H2=>Q (x::xs) H2
section
variable{X:Cx}{e:av}{es:List av}{te:TE}{t:TA}{pos:aP}
def qb:PA X [] jpv:=λ_ _ _ _ H Q I h=>dM ⟨[],H,I,.nil,h⟩
def ji(ha:PE X e te)(hr:PA X es t)(hs:aj (e::es) X.env=(a9,aC e X.env)::aj es X.env:=by rfl):PA X (e::es) (jer te t):=by intro pos pins s σ H Q I h;rw[hs];show ay _ _ (iL ((a9,aC e X.env)::aR pos (aj es X.env))) _ _ s;refine dm (thn (ha pins s σ H _ I h) λu s1 ⟨x,H1,I1,r1,q1⟩=>?_);exact thn (hr pos pins s1 σ H1 _ I1 q1) λus s2 ⟨xs,H2,I2,r2,q2⟩=>⟨x::xs,H2,I2,.cons r1 r2,q2⟩
def jpr(t:TA):TE:=λσ H Q=>t σ H λxs H1=>xs.length<=aw/\∀p,H1 p=af->Q (.ref p) (upd H1 p (.tup xs))
def jpw(t:TA):TE:=λσ H Q=>t σ H λxs H1=>xs.length<=aw/\∀p,H1 p=af->Q (.ref p) (upd H1 p (.lst xs))
def jk2{x1}(h:PA X es t):PE X (.Tuple es x1 pos) (jpr t):=by intro pins s σ H Q I hq;refine wpAny_Tuple_spliced (thn (h pos pins s σ H _ I hq) λus s1 ⟨xs,H1,I1,r,z,q⟩=>⟨by rw[<-r.length];exact z,?_⟩);have hf:H1 s1.heap.objs.size=af:=I1.hok.fresh (X8 _);refine⟨.ref s1.heap.objs.size,upd H1 s1.heap.objs.size (.tup xs),I1.laid (t':=s1.toks) (λb u e=>xj _ e) (X8 _) ?_,rfl,q _ hf⟩;exact⟨z,us,r,⟨_,X3 _ rfl,rfl,_,rfl⟩,Vh.new _ _⟩
def jk4(h:PA X es t):PE X (.List es pos) (jpw t):=by intro pins s σ H Q I hq;refine wpAny_List_spliced (thn (h pos pins s σ H _ I hq) λus s1 ⟨xs,H1,I1,r,z,q⟩=>⟨by rw[<-r.length];exact z,?_⟩);have hf:H1 s1.heap.objs.size=af:=I1.hok.fresh (X8 _);refine⟨.ref s1.heap.objs.size,upd H1 s1.heap.objs.size (.lst xs),I1.laid (t':=s1.toks) (λb u e=>xj _ e) (X8 _) ?_,rfl,q _ hf⟩;exact⟨z,us,0,r,X3 _ rfl⟩
end
abbrev Sp:=List V->Hp->VK->XK->Prop
abbrev CXT:=List dR->Hp->aq->XK->ah->aq->Prop
structure Env0(P:az)(w:aD)(K:k9k)(mg:k9n)(base:aE)(A:aF)(outer:List dR)(s:aq)(H:Hp):Prop where
 frames:A.frames=a8 outer
 mod:Mod K mg base
 bs:∀b o,base.get? b=a8 o->s.heap.get? b=a8 o/\H b=af
 bsz:base.objs.size<=s.heap.objs.size
 funs:s.heap.FunFrames base outer
 frf:∀b∈frs outer,H b=af
 hok:HOk P w H s.heap
 bare:eJ s.gens
def CE(outer:List dR)(P:az)(w:aD)(H:Hp)(s:aq)(Q:VK)(u:ah)(s':aq):Prop :=
 ∃v H',s'.os=s.os/\eJ s'.gens/\Un (frs outer) [] H H' s.heap s'.heap/\HOk P w H' s'.heap/\RelV v u/\Q v H'
def CR(CX:CXT)(outer:List dR)(P:az)(w:aD)(H:Hp)(s:aq)(Q:VK)(E:XK)(r:fh)(s':aq):Prop :=
 match r with
 |.ok (.ret u)=>CE outer P w H s Q u s'
 |.ok _=>False
 |.error e=>CX outer H s E e s'
structure FnOk(P:az)(w:aD)(K:k9k)(mg:k9n)(base:aE)(CX:CXT)(k:Nat)(f:ai)(fd:aJ)(ps:List au)(sp:Sp):Prop where
 len:∀vs H Q E,sp vs H Q E->vs.length=ps.length
 run:∀(A:aF)(outer:List dR)(s:aq)(H:Hp)(args:Args)(us:List ah)(vs:List V) (Q:VK) (E:XK),Room k A->Env0 P w K mg base A outer s H->dP s fd args (ps.zip us)->Vals vs us->sp vs H Q E ->
  bZ (aB P w) A (.call (.ref f) args) (CR CX outer P w H s Q E) s
variable{f:ai}{mg:k9n}{base:aE}{CX:CXT}{ps:List au}
def FnOk.imp{fd:aJ}{sp sp':Sp}(F:FnOk P w K mg base CX k f fd ps sp)
  (h:∀vs H Q E,sp' vs H Q E->sp vs H Q E):FnOk P w K mg base CX k f fd ps sp' :=
 ⟨λvs H Q E q=>F.len vs H Q E (h _ _ _ _ q),λA outer s H args us vs Q E hr he hb hv hs=>F.run A outer s H args us vs Q E hr he hb hv (h _ _ _ _ hs)⟩
section
variable{X:Cx}{pins:k9m}{σ:St}{H:Hp}{s s':aq}
def Inv.env0(I:Inv X pins σ H s):Env0 X.prog X.w X.K X.mg X.base X.A X.stack s H :=
 ⟨I.ok.frames,I.ok.mod,I.bs,Xn I.ok.bsz I.sz,I.stack,I.stkFree,I.hok,I.bare⟩
def Inv.after{u:ah}(I:Inv X pins σ H s)(h:CE X.stack X.prog X.w H s Q u s'):EP X pins σ Q u s':=by obtain⟨v,H',os,bare,un,hok,r,q⟩:=h;obtain⟨hh,g,d,t,os'⟩:=s';obtain rfl:os'=s.os:=os;exact⟨v,H',I.call (h':=hh) (g':=g) (d':=d) (t':=t) (ch:=[]) un hok bare (λb z=>absurd z (by simp)),r,q⟩
end
def jnj(sp:Sp)(dvs:List V)(E:XK)(t:TA):TE:=λσ H Q=>t σ H λvs H1=>sp (vs++dvs) H1 Q E
def Binds(K:k9k)(fd:aJ)(ps:List au)(ds:List ah):Prop :=
 ∀(s:aq)(us:List ah),K.In s.heap->(us++ds).length=ps.length->dP s fd ⟨us,[]⟩ (ps.zip (us++ds))
def Binds.all{fd:aJ}(h:∀us:List ah,us.length=ps.length->fU fd ⟨us,[]⟩=pure (ps.zip us)):Binds K fd ps []:=λs us _ hl=>by rw[Pa]at hl ⊢;exact .of_eq (h us hl)
def j5i(CX:CXT)(X:Cx)(E:XK):Prop:=∀(pins:k9m) (σ:St) (H:Hp) (s:aq) (e:ah) (s':aq),Inv X pins σ H s->CX X.stack H s E e s'->X.xe e s'
section
variable{X:Cx}{CX:CXT}{k:Nat}{f C:ai}{fd:aJ}{ps:List au}{sp:Sp}{dvs:List V}{ds:List ah}{E:XK}{x m:au}{p pos apos:aP}{e o:av}{es:List av}{ta:TE}{t:TA}
def jjh{vs:List V}(F:FnOk X.prog X.w X.K X.mg X.base CX k f fd ps sp)(hr:Room k X.A)(hb:Binds X.K fd ps ds)(hd:Vals dvs ds)(hx:j5i CX X E)
  (I:Inv X pins σ H s) (r:Vals vs us) (h:sp (vs++dvs) H Q E):ay (aB X.prog X.w) X.A (call (.ref f) us) (EP X pins σ Q) X.xe s:=by
 have r2:Vals (vs++dvs) (us++ds):=r.append hd;have hl:(us++ds).length=ps.length:=by rw[<-r2.length];exact F.len _ _ _ _ h
 refine iU (bK (F.run X.A X.stack s H ⟨us,[]⟩ (us++ds) (vs++dvs) Q E hr I.env0 (hb s us I.kIn hl) r2 h) λr s' hq=>?_);cases r with
 |error e=>exact hx pins σ H s e s' I hq
 |ok fl =>
  cases fl with
  |ret u=>exact I.after hq
  |next=>exact bU hq
  |brk=>exact bU hq
  |cont=>exact bU hq
def Rr(F:FnOk X.prog X.w X.K X.mg X.base CX k f fd ps sp)(hr:Room k X.A)(hg:Gl X x)(hm:X.mg x=a8 (.ref f))(hk:W.keepIn X.K (.ref f)=ae)(hb:Binds X.K fd ps ds)(hd:Vals dvs ds)(hx:j5i CX X E)
  (ha:PA X (e::es) t) (hdb:(x==k9o)=a9:=by decide) (he:aj (e::es) X.env=(a9,aC e X.env)::aj es X.env:=by rfl) (hpl:(aR pos (aj es X.env)).any (·.1)=a9:=by rfl) :
  PE X (.Call (.Name x p) (e::es) [] pos) (jnj sp dvs E t):=by
 intro pins s σ H Q I h;refine aM (j0x I hg hm ?_ hdb);refine W.callWith_K (h₀:=X.base) I.ok.mod.kin hk (thn (ha pos pins s σ H _ I h) λus s1 ⟨vs,H1,I1,r,q⟩=>⟨I1.kIn,?_⟩) he hpl;exact jjh F hr hb hd hx I1 r q
end
def PK(X:Cx)(kws:List aS)(t:TA):Prop :=
 ∀(pos:aP)(pins:k9m) (s:aq) (σ:St) (H:Hp) (Q:List V->Hp->Prop),Inv X pins σ H s->t σ H Q->ay (aB X.prog X.w) X.A (evalAll ((br pos (aV kws X.env)).map (·.2))) (AP X pins σ Q) X.xe s
section
variable{X:Cx}{CX:CXT}{k:Nat}{f C:ai}{fd:aJ}{ps ks:List au}{sp:Sp}{E:XK}{x m:au}{p pos apos kpos:aP}{e o:av}{es:List av}{kws:List aS}{te ta:TE}{t tk:TA}{nm:Option au}
def Vj(ha:PE X e te)(hr:PK X kws t):PK X (⟨nm,e,kpos⟩::kws) (jer te t):=by intro pos pins s σ H Q I h;show ay _ _ (evalAll ((do let v <-aC e X.env;hU pos;pure v)::(br pos (aV kws X.env)).map (·.2))) _ _ s;refine wpAny_evalAll_cons (aa (thn (ha pins s σ H _ I h) λu s1 ⟨x,H1,I1,r1,q1⟩=>aa (gu (ar ?_))));exact thn (hr pos pins s1 σ H1 _ I1 q1) λus s2 ⟨xs,H2,I2,r2,q2⟩=>⟨x::xs,H2,I2,.cons r1 r2,q2⟩
structure KBinds(K:k9k)(fd:aJ)(ps ks:List au)(g:List ah->List ah->List ah)(gV:List V->List V->List V):Prop where
 to:∀(s:aq)(us ws:List ah),K.In s.heap->(g us ws).length=ps.length->dP s fd ⟨us,ks.zip ws⟩ (ps.zip (g us ws))
 rel:∀{vs:List V}{us:List ah}{zs:List V}{ws:List ah},Vals vs us->Vals zs ws->Vals (gV vs zs) (g us ws)
variable{g:List ah->List ah->List ah}{gV:List V->List V->List V}
end
structure FnScope(N P:List au)(sc:be):Prop where
 kind:sc.kind=.function
 co:sc.isCoroutine=a9
 gen:sc.isGenerator=a9
 nd:N.Nodup
 pre:N.take P.length=P
 par:∀x∈P,sc.names.lookup x=a8 .local\/sc.names.lookup x=a8 .cell
 nofree:∀y∈sc.names,y.2≠.free
theorem j2i{kindOf:au->Option bF}{x:au}:∀{binds:List (au×ah)} {m:k9n},(∀v,(x,v)∉binds)->jR kindOf binds m x=m x
 |[],_,_=>rfl
 |(n,v)::r,m,h=>by
  unfold jR;rw[j2i λw hw=>h w (xn _ hw)];split
  .have:x≠n:=by rintro rfl;exact h v X6
   simp[this]
  .rfl
theorem j2k{kindOf:au->Option bF}{x:au}:∀{binds:List (au×ah)} {m:k9n},(∀v,(x,v)∉binds)->jS kindOf binds m x=m x
 |[],_,_=>rfl
 |(n,v)::r,m,h=>by
  unfold jS;rw[j2k λw hw=>h w (xn _ hw)];split
  .rfl
  .have:x≠n:=by rintro rfl;exact h v X6
   simp[this]
theorem j2j{kindOf:au->Option bF}{x:au}{v:ah}:∀{P:List au}{vs:List ah}{i:Nat}{m:k9n},P.Nodup->P[i]?=a8 x->vs[i]?=a8 v->kindOf x=a8 .local ->
  jR kindOf (P.zip vs) m x=a8 v
 |[],_,_,_,_,h,_,_=>by simp at h
 |_::_,[],_,_,_,_,h,_=>by simp at h
 |p::P,w::vs,0,m,nd,h1,h2,hk=>by simp at h1 h2;subst h1;subst h2;show jR kindOf ((p,w)::P.zip vs) m p=_;unfold jR;rw[j2i λv hv=>(Xv.mp nd).1 (eP hv).1,if_pos hk];simp
 |p::P,w::vs,i+1,m,nd,h1,h2,hk=>by show jR kindOf ((p,w)::P.zip vs) m x=_;unfold jR;exact j2j (i:=i) (Xv.mp nd).2 (by simpa using h1) (by simpa using h2) hk
theorem j2l{kindOf:au->Option bF}{x:au}{v:ah}:∀{P:List au}{vs:List ah}{i:Nat}{m:k9n},P.Nodup->P[i]?=a8 x->vs[i]?=a8 v->kindOf x≠a8 .local ->
  jS kindOf (P.zip vs) m x=a8 v
 |[],_,_,_,_,h,_,_=>by simp at h
 |_::_,[],_,_,_,_,h,_=>by simp at h
 |p::P,w::vs,0,m,nd,h1,h2,hk=>by simp at h1 h2;subst h1;subst h2;show jS kindOf ((p,w)::P.zip vs) m p=_;unfold jS;rw[j2k λv hv=>(Xv.mp nd).1 (eP hv).1,if_neg hk];simp
 |p::P,w::vs,i+1,m,nd,h1,h2,hk=>by show jS kindOf ((p,w)::P.zip vs) m x=_;unfold jS;exact j2l (i:=i) (Xv.mp nd).2 (by simpa using h1) (by simpa using h2) hk
noncomputable def start(N:List au)(vs:List V):St:=vs.map a8++ak (N.length-vs.length) af
noncomputable def Ua(CX:CXT)(P:az)(w:aD)(K:k9k)(mg:k9n)(base:aE)(N:List au)(qual:au)(scope:be)(f:ai)(cd:ah)(A:aF)(outer:List dR)(s:aq)(H:Hp)(E:XK):Cx where
 prog:=P
 w:=w
 K:=K
 mg:=mg
 base:=base
 A:=A.deeper (fj qual scope s.heap.objs.size f cd)
 N:=N
 s₀:=s
 H₀:=H
 env:=fj qual scope s.heap.objs.size f cd
 outer:=outer
 stack:=fj qual scope s.heap.objs.size f cd::outer
 ex:=[]
 calm:=ae
 fn:=λ_=>ae
 pn:=[]
 xe:=λe s'=>ay (aB P w) (A.deeper (fj qual scope s.heap.objs.size f cd)) (leaving (fj qual scope s.heap.objs.size f cd) e) (λ_ s''=>CX outer H s E e s'') (λe' s''=>CX outer H s E e' s'') s'
def j59{sc:be}{n:Nat}{x:au}(h:sc.names.lookup x=a8 .cell):∃c,(aW n sc.names []).lookup x=a8 c:=by have q:=W.cellsFrom_some sc.names n [] (.inl h);exact tu.mp q
def jag{N:List au}{qual:au}{scope:be}{cd:ah}{outer:List dR}{s1:aq}{E:XK}{vs:List V}
  (S:FnScope N ps scope) (cm:Bool) (hd:cm=ae->A.handled=af) (e0:Env0 P w K mg base A outer s H) (hl:vs.length=ps.length) (r:Vals vs us)
  (x:InCallC s s.heap.objs.size (jR (fj qual scope s.heap.objs.size f cd).kindOf (ps.zip us) λ_=>af) (aW (s.heap.objs.size+1) scope.names []) (jS (fj qual scope s.heap.objs.size f cd).kindOf (ps.zip us) λ_=>af) s1) :
  Inv { Ua CX P w K mg base N qual scope f cd A outer s H E with calm:=cm } [] (start N vs) H s1:=by
 have hpl:ps.length<=N.length:=by have:=congrArg d8 S.pre;rw[pq]at this;omega
 obtain⟨h1,tk,rfl,hk⟩:=x.done;have noA:∀b:ai,b∉(Ua CX P w K mg base N qual scope f cd A outer s H E).ex:=λb z=>absurd (show b∈([]:List ai)from z) (by simp);refine⟨⟨e0.mod,S.kind,rfl,rfl,X8 _,λy z c h1 h2=>?_,λy hy=>?_,λy c _ h=>?_,hd,Around.frames_deeper e0.frames,.inr ⟨rfl,rfl⟩,λb z=>absurd z (noA b),e0.bs,e0.bsz,λb _ _=>noA b,λb z=>absurd z (noA b),e0.funs,e0.frf⟩,
  rfl,e0.bare,Un.kept hk,⟨_,x.toInCall.ns,λi y v h1 h2 h3=>?_⟩,λy c h=>⟨_,x.cell y c h⟩,e0.hok.fresh (X8 _),λy c h=>?_,λp hp=>absurd (show p∈([]:k9m)from hp) (by simp),e0.hok.kept hk,?_⟩
 .exact name_of_addr x.apart (t7 h1) (t7 h2)
 .have hy:scope.names.lookup y=a8 .cell\/scope.names.lookup y=a8 .free:=hy;rcases hy with hy|hy
  .exact j59 hy
  .exact absurd rfl (S.nofree _ (t7 hy))
 .exact dw (x.above y c (t7 h))
 .have hi:i<vs.length:=by
   unfold start at h2;by_cases hi:i<vs.length
   .exact hi
   .rw[dB (by simpa using hi)]at h2;rw[S5]at h2;split at h2<;>cases h2
  have ha:vs[i]?=a8 v:=by
   unfold start at h2;rw[Tf (by simpa using hi),xm]at h2;cases e:vs[i]? with
   |none=>rw[e]at h2;cases h2
   |some a=>rw[e]at h2;cases h2;rfl
  obtain⟨u,hu,rv⟩:=r.get ha;have hp:ps[i]?=a8 y:=by rw[<-S.pre,List.getElem?_take_of_lt nofun];exact h1
  have ndP:ps.Nodup:=by rw[<-S.pre];exact S.nd.sublist (List.take_sublist _ _)
  refine⟨u,rv,?_⟩;rcases S.par y (Xp hp)with k|k
  .exact .inl ⟨k,j2j ndP hp hu k⟩
  .obtain⟨c,e⟩:=j59 (n:=s.heap.objs.size+1) k;refine .inr ⟨.inl k,c,e,?_⟩;have q:=x.cell y c e;rw[j2l ndP hp hu (by show scope.names.lookup y≠_;rw[k];decide)]at q;exact q
 .exact e0.hok.fresh (dw (x.above y c (t7 h)))
 .unfold start;show _=N.length;rw[Xh,xg,Pg];omega
def Inv.extOut{H2:Hp}(J:Inv X pins σ H s)(x:Ext X H H2 s):HOk X.prog X.w H2 s.heap/\(X.ex=[]->Un X.fs [] X.H₀ H2 X.s₀.heap s.heap):=by
 have old:∀b o,X.s₀.heap.get? b=a8 o->H2 b=H b:=λb o e=>(x b).elim id λ⟨y,ob,v,hc,hf,_⟩=>absurd (Xr (X4 e) (J.ok.cab y b hf hc)) (Py _);have trk:∀{b:ai}{u:HO},H b=a8 u->H2 b=a8 u:=λ{b u} e=>(x b).elim (λz=>z.trans e) λ⟨y,ob,v,hc,_⟩=>by rw[J.freeC y b hc]at e;cases e
 refine⟨λa o e=>?_,λhx=>?_⟩
 .rcases x a with z|⟨y,ob,v,_,_,e2,e3,_⟩
  .exact(J.hok a o (z▸e)).stay (λ_ _ _ q=>q) (λ_ q=>trk q) (λ_ _ q=>trk q) λ_ _ _ q=>trk q
  .rw[e2]at e;cases e;exact⟨e3,ob,e3⟩
 .have nx:∀b,b∉X.ex:=λb=>by rw[hx];simp
  exact⟨λb o e n hb _=>J.base.keep b o e n hb (nx b),λb o e n hb _=>J.base.slot b o e n hb (nx b),λb o e n _=>(old b o e).trans (J.base.free b o e n (nx b)),λb o e _=>J.base.there b o e (nx b),
   λb xs e=>trk (J.base.tups b xs e),λb o u e=>trk (J.base.frzs b o u e),λb ps e=>let ⟨m,z⟩:=J.base.tbls b ps e;⟨m,trk z⟩⟩
def jos{name qual:au}{params:dS}{body:List aX}{scope:be}{dV kV doc pm cdv ct oc:ah}{an od:Option ai}
  {osl:Array (Option ah)} {N ps:List au} {sp:Sp} (lk:K.lookup f=a8 ⟨oc,od,.func (W.fnOf name qual params body scope dV kV doc pm an cdv ct),osl⟩) (hcd:W.codeIn K cdv qual=ae) (S:FnScope N ps scope)
  (len:∀vs H Q E,sp vs H Q E->vs.length=ps.length)
  (hbody:∀(A:aF)(outer:List dR)(s:aq)(H:Hp)(vs:List V)(Q:VK)(E:XK),Room k (A.deeper (fj qual scope s.heap.objs.size f cdv))->sp vs H Q E ->
   ∃t,PSs (Ua CX P w K mg base N qual scope f cdv A outer s H E) body t/\t { nx:=λ_ H'=>Q .non H',rt:=Q } (start N vs) H) :
  FnOk P w K mg base CX (k+1) f (W.fnOf name qual params body scope dV kV doc pm an cdv ct) ps sp:=by
 refine⟨len,λA outer s H args us vs Q E hr e0 hb r hsp=>?_⟩;have hl:=len _ _ _ _ hsp;have KX:K.In s.heap:=e0.mod.kin.keeps λb o e=>(e0.bs b o e).1;have lim:s.heap.NoLimit:=e0.mod.nolimit.keeps λb o e=>(e0.bs b o e).1;have hkind:∀y∈ps.zip us,scope.names.lookup y.1=a8 .local\/(scope.names.lookup y.1=a8 .cell/\((aW (s.heap.objs.size+1) scope.names []).lookup y.1).isSome=ae):=λ⟨n,v⟩ hy=>by
  rcases S.par n (eP hy).1 with q|q
  .exact .inl q
  .exact .inr ⟨q,W.cellsFrom_some _ _ _ (.inl q)⟩
 refine codeAny_call_function hr.depth (KX _ _ lk) rfl S.co S.gen rfl (W.codeRec_of KX hcd) (hb _ _ _ _ ?_);refine wpAny_newFunctionEnv_cells S.kind hkind λenv he s1 x=>?_;subst he;refine⟨lim.keeps x.toInCall.keep,codeAny_func ?_⟩;obtain⟨t,ht,hq⟩:=hbody A outer s H vs Q E (hr.deeper _) hsp;have I:Inv (Ua CX P w K mg base N qual scope f cdv A outer s H E) [] (start N vs) H s1:=jag S ae (λ_=>hr.hd) e0 hl r x;refine bC (ht [] s1 (start N vs) H _ I hq) (λfl s' hs=>?_) λe s' hs=>hs;have fin:∀{σ':St}{H':Hp}{v:V}{u:ah},Inv (Ua CX P w K mg base N qual scope f cdv A outer s H E) [] σ' H' s'->RelV v u->Q v H'->CE outer P w H s Q u s' :=
  λ{σ' H' v u} J rv q=>⟨v,H',J.os,J.bare,J.base,J.hok,rv,q⟩
 cases fl with
 |ret u =>obtain⟨v,σ',H',H2,J,rv,x,q⟩:=hs;exact⟨v,H2,J.os,J.bare,(J.extOut x).2 rfl,(J.extOut x).1,rv,q⟩
 |next =>obtain⟨σ',H',J,q⟩:=hs;exact fin (v:=V.non) (u:=aY) J rfl q
 |brk =>obtain⟨_,_,_,q⟩:=hs;exact bU q
 |cont =>obtain⟨_,_,_,q⟩:=hs;exact bU q
section
variable{X:Cx}{x:au}{p pos:aP}{e:av}{es:List av}{t:TA}{id T:String}{r:List V->Hp->VK->Prop}
def tCB(r:List V->Hp->VK->Prop)(t:TA):TE:=λσ H Q=>t σ H λvs H1=>r vs H1 Q
def Jx (hc:Z0 X (.builtin id) r) (hg:Gl X x) (hm:X.mg x=af) (hv:fg x=a8 (.builtin id)) (ha:PA X (e::es) t) (hn:x ≠ "__name__":=by decide) (hdb:(x==k9o)=a9:=by decide)
  (he:aj (e::es) X.env=(a9,aC e X.env)::aj es X.env:=by rfl) (hpl:(aR pos (aj es X.env)).any (·.1)=a9:=by rfl):PE X (.Call (.Name x p) (e::es) [] pos) (tCB r t):=by
 intro pins s σ H Q I h;refine aM (Jl I hg hm hv ?_ hn hdb);exact callWith_builtin1 (thn (ha pos pins s σ H _ I h) λus s1 ⟨vs,H1,I1,r1,q1⟩=>hc pins s1 σ H1 vs us Q I1 r1 q1) he hpl
def Wh (hc:Z0 X (.type T) r) (hg:Gl X x) (hm:X.mg x=af) (hv:fg x=a8 (.type T)) (ha:PA X (e::es) t) (hn:x ≠ "__name__":=by decide) (hdb:(x==k9o)=a9:=by decide)
  (he:aj (e::es) X.env=(a9,aC e X.env)::aj es X.env:=by rfl) (hpl:(aR pos (aj es X.env)).any (·.1)=a9:=by rfl):PE X (.Call (.Name x p) (e::es) [] pos) (tCB r t):=by
 intro pins s σ H Q I h;refine aM (Jl I hg hm hv ?_ hn hdb);exact callWith_type1 (thn (ha pos pins s σ H _ I h) λus s1 ⟨vs,H1,I1,r1,q1⟩=>hc pins s1 σ H1 vs us Q I1 r1 q1) he hpl
end
end L2
namespace HT
open PySem PyProof.Rows
noncomputable def lexLt:zo->zo->Bool
 |[],[]=>a9
 |[],_::_=>ae
 |_::_,[]=>a9
 |x::xs,y::ys=>if x=y then lexLt xs ys else decide (x<y)
def lexLt_cons(x y:Int)(xs ys:zo):lexLt (x::xs) (y::ys)=if x=y then lexLt xs ys else decide (x<y):=rfl
def j2y:lexLt [] []=a9:=rfl
def j0v(y:Int)(ys:zo):lexLt [] (y::ys)=ae:=rfl
def j0w(x:Int)(xs:zo):lexLt (x::xs) []=a9:=rfl
def eqAt_int(A:aF)(s:aq)(a:Int)(t:iy)(c:Int)(u:iy):∃e,cV A s (.int a t) (.int c u) e/\(e=ae↔a=c) :=
 ⟨(a==c),SeqAt.EqAt.int_int a t c u,by simp⟩
def rcLt_int(A:aF)(s:aq)(a:Int)(t:iy)(c:Int)(u:iy)(prog:az)(w:aD)(E:k9l)(Q:k9l)(h:Q (.bool (decide (a<c))) s) :
  ay (aB prog w) A (iu .Lt (.int a t) (.int c u)) Q E s :=
 (lt_int h:ay (aB prog w) A (aZ .Lt (.int a t) (.int c u)) Q E s)
section
open PySem.SeqAt
open PySem.AutoSeq1 (wpAny_loadPart')
open PySem.MeetsSeq PySem.MeetsSeq2 PySem.MeetsSeq3
def j2o(l b:ai)(items items2:Array ah)(n n2:Nat)(dd dd2:Option ai)(sl sl2:Array (Option ah))(ns ms:zo)(hi:d4 items.toList ns)(hj:d4 items2.toList ms) :
  jV (cC.«tuple.__lt__» ⟨[.ref l,.ref b],[]⟩)
   (λ_ R s=>s.heap.get? l=a8 { cls:=.type "tuple",dict:=dd,data:=.seq items n,slots:=sl }/\s.heap.get? b=a8 { cls:=.type "tuple",dict:=dd2,data:=.seq items2 n2,slots:=sl2 } /\
    R (.ok (.ret (.bool (lexLt ns ms)))) s) :=
 .of_wp λprog w A R s h=>by
  obtain⟨hp,g,d,tk,os⟩:=s;obtain⟨hl,hb,h⟩:=h;have f2:=gP;have z1:items.size=ns.length:=by rw[<-hi.length];simp
  have z2:items2.size=ms.length:=by rw[<-hj.length];simp
  wp_walk using dH hl,dH hb,ia _ (λrest b s'=>b.1=af/\s'=⟨hp,g,d,tk,os⟩/\∃(vs ws:List ah)(ns' ms':zo),rest=vs.zip ws /\
   d4 vs ns'/\d4 ws ms'/\ns'.length+items2.size=ms'.length+items.size/\R (.ok (.ret (.bool (lexLt ns' ms')))) ⟨hp,g,d,tk,os⟩) _
  case turn =>
   rintro⟨y,x⟩ rest b s' ⟨hb',rfl,vs,ws,ns',ms',hz,hvi,hwi,hlen,hR⟩;cases hvi with
   |nil=>rw[List.zip_nil_left]at hz;cases hz
   |cons a t hvi' =>
    cases hwi with
    |nil=>rw[List.zip_nil_right]at hz;cases hz
    |cons c u hwi' =>
     rw[jX]at hz;injection hz with hyx hrest;injection hyx with hy hx;subst hy hx;rw[lexLt_cons]at hR;simp only[xx]at hlen;obtain⟨e,he,hiff⟩:=eqAt_int A.in1 ⟨hp,g,d,tk,os⟩ a t c u;refine aa (he prog w _ _ ?_);cases e with
     |true =>
      rw[if_pos (hiff.mp rfl)]at hR
      wp_walk
      exact⟨rfl,rfl,_,_,_,_,hrest,hvi',hwi',by omega,hR⟩
     |false =>
      rw[if_neg (λq=>absurd (hiff.mpr q) xq)]at hR;have hri:=rcLt_int A.in1 ⟨hp,g,d,tk,os⟩ a t c u prog w
      wp_walk using hri
      exact⟨_,rfl,by simpa using hR⟩
  case fin =>
   rintro⟨b1,b2⟩ s' ⟨hb',rfl,vs,ws,ns',ms',hz,hvi,hwi,hlen,hR⟩;simp only at hb';subst hb';have hv:lexLt ns' ms'=decide (items.size<items2.size):=by
    cases hvi with
    |nil =>
     cases hwi with
     |nil =>simp only[Tg]at hlen;rw[j2y];exact(decide_eq_false nofun).symm
     |cons c u hw =>simp only[Tg,xx]at hlen;rw[j0v];exact(decide_eq_true nofun).symm
    |cons a t hv =>
     cases hwi with
     |nil =>simp only[Tg,xx]at hlen;rw[j0w];exact(decide_eq_false nofun).symm
     |cons c u hw =>rw[jX]at hz;cases hz
   rw[hv]at hR
   wp_walk
   exact⟨_,rfl,by simpa [eU]using hR⟩
  case h =>exact⟨rfl,rfl,items.toList,items2.toList,ns,ms,rfl,hi,hj,by omega,h⟩
end
section
variable{prog:az}{w:aD}{A:aF}{E:k9l}{s:aq}
def lt_tupInts{l b:ai}{items items2:Array ah}{ns ms:zo}{Q:k9l}(hl:iz s.heap l items)(hb:iz s.heap b items2)(hi:d4 items.toList ns)(hj:d4 items2.toList ms)
  (hu:A.units<aU) (h:Q (.bool (lexLt ns ms)) s):ay (aB prog w) A (aZ .Lt (.ref l) (.ref b)) Q E s:=by
 obtain⟨⟨cls,dd,data,sl⟩,ho,hc,n,hd⟩:=id hl;obtain⟨⟨cls2,dd2,data2,sl2⟩,ho2,hc2,n2,hd2⟩:=id hb;simp only at hc hd hc2 hd2;subst hc hd hc2 hd2;exact kc (op:=.Lt) ⟨_,ho,rfl⟩ ⟨_,ho2,rfl⟩ ip i8 (i4 _ _) (j2o l b items items2 n n2 dd dd2 sl sl2 ns ms hi hj)
  ⟨ho,ho2,show bT (lexLt ns ms)≠iO/\Q (.bool (lexLt ns ms)) s from⟨(λx=>nomatch x),h⟩⟩ hu
def cat_tup{t b:ai}{vs ws:List ah}{Q:k9l}(ht:iz s.heap t vs.toArray)(hb:iz s.heap b ws.toArray)(hv:vs≠[])
  (h1:ws=[]->Q (.ref t) s) (h2:ws≠[]->Q (.ref s.heap.objs.size) { s with heap:=s.heap.push { cls:=.type "tuple",data:=.seq (vs++ws).toArray } })
  (hsz:vs.length+ws.length<=aw):ay (aB prog w) A (bh .Add (.ref t) (.ref b)) Q E s:=by
 obtain⟨⟨cls,dd,data,sl⟩,ho,hc,n,hd⟩:=id ht;obtain⟨⟨cls2,dd2,data2,sl2⟩,ho2,hc2,n2,hd2⟩:=id hb;simp only at hc hd hc2 hd2;subst hc hd hc2 hd2;have e:vs.toArray++ws.toArray=(vs++ws).toArray:=by simp
 by_cases hw:ws=[]
 .exact hZ ⟨_,ho,rfl⟩ ⟨_,ho2,rfl⟩ ie jI dX dN (dF _ _)
   (tuple_addW1 t b vs.toArray ws.toArray n n2 dd dd2 sl sl2 (by simpa using hv) (by simp[hw])) ⟨ho,ho2,h1 hw⟩
 .refine hZ ⟨_,ho,rfl⟩ ⟨_,ho2,rfl⟩ ie jI dX dN (dF _ _)
   (tuple_addW2 t b vs.toArray ws.toArray n n2 dd dd2 sl sl2 (by simpa using hv) (by simpa using hw) (by rw[Xd,Xd];exact hsz)) ⟨ho,ho2,?_⟩
  rw[e];exact h2 hw
noncomputable def sIx(n d:Nat):Option Int->Nat
 |none=>d
 |some v=>if v<0 then(v+(n:Int)).toNat else min v.toNat n
def sIx_none(n d:Nat):sIx n d af=d:=rfl
def sIx_nat(n d k:Nat):sIx n d (a8 (k:Int))=min k n:=by show(if (k:Int)<0 then((k:Int)+(n:Int)).toNat else min (k:Int).toNat n)=min k n;rw[if_neg nofun,X5]
def jjg(n d:Nat)(hd:d<=n)(o:Option Int):sIx n d o<=n:=by
 cases o with
 |none=>exact hd
 |some v =>
  show(if v<0 then(v+(n:Int)).toNat else min v.toNat n)<=n;by_cases hv:v<0
  .rw[if_pos hv];omega
  .rw[if_neg hv];exact Nat.min_le_right _ _
def j73(v:Int)(n d:Nat):(if v<0 then max (v+(n:Int)) 0 else min v (n:Int))=((sIx n d (a8 v):Nat):Int):=by
 show(if v<0 then max (v+(n:Int)) 0 else min v (n:Int))=(((if v<0 then(v+(n:Int)).toNat else min v.toNat n):Nat):Int)
 by_cases hv:v<0
 .simp only[if_pos hv];omega
 .simp only[if_neg hv];omega
def j8f(lo hi:Option Int)(n:Nat):cY lo hi 1 (n:Int)=(((sIx n 0 lo:Nat):Int),((sIx n n hi:Nat):Int)):=by
 have h1:¬((1:Int)<0):=by omega
 unfold cY;simp only[h1,if_false];refine Prod.ext ?_ ?_
 .cases lo with
  |none=>rfl
  |some v=>exact j73 v n 0
 .cases hi with
  |none=>rfl
  |some v=>exact j73 v n n
def j7p(i j:Nat):bN (i:Int) (j:Int) 1=j-i:=by
 unfold bN;have h1:(1:Int)>0:=by omega
 simp only[h1,if_true,Int.ediv_one];split<;>omega
def Ku{v:ah}{o:Option Int}{Q:Option Int->aq->Prop}(p:fW v o)(h:Q o s):ay (aB prog w) A (mf v) Q E s:=by
 cases p with
 |none=>exact nr h
 |int i t=>exact slicePart_int h
def Cm{sl:ai}{vl vu:ah}{lo hi:Option Int}{n:Nat}{Q:Int×Int×Nat->aq->Prop}(hs:s.heap.IsSliceOf sl vl vu .none)(pl:fW vl lo)(pu:fW vu hi)
  (h:Q (((sIx n 0 lo:Nat):Int),1,sIx n n hi-sIx n 0 lo) s):ay (aB prog w) A (fF (.ref sl) (pure (n:Int))) Q E s:=by
 obtain⟨os,hos,hcs,hds⟩:=id hs;unfold fF mh;refine aa (aa (b7 hos hds (x:=vl) rfl (aa (b7 hos hds (x:=vu) rfl (aa (b7 hos hds (x:=.none) rfl (ar ?_)))))));refine aa (nr ?_);show ay _ _ (if ((1:Int)==0)=ae then _ else _) _ _ s;rw[if_neg (by decide)];refine aa (Ku pl (aa (Ku pu (aa (ar ?_)))));show ay _ _ (match cY lo hi 1 (n:Int)with|(lo,hi)=>pure (lo,(1:Int),bN lo hi 1)) _ _ s;rw[j8f lo hi n];show ay _ _ (pure (((sIx n 0 lo:Nat):Int),(1:Int),bN ((sIx n 0 lo:Nat):Int) ((sIx n n hi:Nat):Int) 1)) _ _ s;rw[j7p];exact ar h
def jcj(xs:Array ah)(i k:Nat):((ao k).filterMap λ(m:Nat)=>xs[((i:Int)+(m:Int)*1).toNat]?).toArray=((xs.toList.drop i).take k).toArray:=by
 have e:(λ(m:Nat)=>xs[((i:Int)+(m:Int)*1).toNat]?)=λm=>xs[i+m]?:=by
  funext m
  have:((i:Int)+(m:Int)*1).toNat=i+m:=by omega
  rw[this]
 rw[e];have:=pick_run xs i k;rw[List.filterMap_map]at this;have e2:((λx=>xs[x]?) ∘ λx=>i+x)=λm=>xs[i+m]?:=rfl;rw[e2]at this;rw[this]
def getItem_tuple_cut{t sl:ai}{items:Array ah}{vl vu:ah}{lo hi:Option Int}{Q:k9l}(ht:iz s.heap t items)(hs:s.heap.IsSliceOf sl vl vu .none)(pl:fW vl lo)(pu:fW vu hi)
  (hw:¬(sIx items.size 0 lo=0/\sIx items.size items.size hi=items.size))
  (h:Q (.ref s.heap.objs.size) { s with heap:=s.heap.push { cls:=.type "tuple",data:=.seq ((items.toList.drop (sIx items.size 0 lo)).take (sIx items.size items.size hi-sIx items.size 0 lo)).toArray } })
  (hsz:items.size<=aw):ay (aB prog w) A (ke (.ref t) (.ref sl)) Q E s:=by
 have htake:sizeOk (.seq ((items.toList.drop (sIx items.size 0 lo)).take (sIx items.size items.size hi-sIx items.size 0 lo)).toArray):=by show((items.toList.drop (sIx items.size 0 lo)).take (sIx items.size items.size hi-sIx items.size 0 lo)).toArray.size<=aw;rw[Xd,pq,Tv,di];omega
 have hj:sIx items.size items.size hi<=items.size:=jjg _ _ (X8 _) hi;obtain⟨os,hos,hcs,hds⟩:=id hs;have hTs:s.TypeIs (.ref sl) "slice":=⟨os,hos,hcs⟩
 unfold ke
 try with_reducible refine bA ?_
 first|refine aa (ar ?_)|skip
 refine aa (wpAny_sequenceKey ht.typeIs (by decide) ?_);refine aa (ba (name:=cj "__getitem__") ht.typeIs lC
  (b9 lC ht.typeIs entry_tuple_getitem ?_ (args_tuple_getitem _ _)))
 show ay _ _ (md (.ref t) >>= _) _ _ s;refine aa (tupleItemsOf_ ht ?_);refine aa (wpAny_typeOf hTs ?_);rw[if_pos (by decide)];refine aa (Cm hs pl pu ?_);have hno:¬((((sIx items.size 0 lo:Nat):Int)==0&&(1:Int)==1&&(sIx items.size items.size hi-sIx items.size 0 lo)==items.size)=ae):=by intro q;rw[Xl,Xl]at q;have q1:((sIx items.size 0 lo:Nat):Int)=0:=eq_of_beq q.1.1;have q2:sIx items.size items.size hi-sIx items.size 0 lo=items.size:=eq_of_beq q.2;exact hw ⟨by omega,by omega⟩
 show ay _ _ (if (((sIx items.size 0 lo:Nat):Int)==0&&(1:Int)==1&&(sIx items.size items.size hi-sIx items.size 0 lo)==items.size)=ae then _ else _) _ _ s;rw[if_neg hno,jcj]
 first
  |exact aa (m:=bc _) (aQ (ar ⟨_,rfl,ar h⟩) htake)
  |exact aa (m:=bc _) (aQ (aa (ar (ar ⟨_,rfl,ar h⟩))) htake)
  |exact aa (aa (m:=bc _) (aQ (ar (ar ⟨_,rfl,ar h⟩)) htake))
  |exact aa (aa (m:=bc _) (aQ (ar ⟨_,rfl,ar h⟩) htake))
end
end HT
namespace L2
open PySem PySem.Spec PyProof.Rows
abbrev TO:=St->Hp->(Option Int->Hp->Prop)->Prop
def PO(X:Cx)(e:Option av)(t:TO):Prop :=
 ∀(pins:k9m) (s:aq) (σ:St) (H:Hp) (Q:Option Int->Hp->Prop),Inv X pins σ H s->t σ H Q ->
  ay (aB X.prog X.w) X.A (evalPart e X.env) (λu s'=>∃o H',Inv X pins σ H' s'/\fW u o/\Q o H') X.xe s
def jg3:TO:=λ_ H Q=>Q af H
def jnf(t:TE):TO:=λσ H Q=>t σ H λx H1=>∃i,x=.int i/\Q (a8 i) H1
def intsAre_of{ns:zo}:∀{us:List ah},Vals (ns.map V.int) us->d4 us ns:=by
 induction ns with
 |nil=>intro us r;rw[eK]at r;cases r;exact .nil
 |cons n ns ih =>
  intro us r;rw[X7]at r;cases r with
  |cons r1 r2 =>obtain⟨t,e⟩:=r1;subst e;exact .cons n t (ih r2)
section
variable{X:Cx}{e:av}{te:TE}{lo hi:Option av}{tl th:TO}{pos p2:aP}
def jh4:PO X af jg3:=by intro pins s σ H Q I h;rw[nC];exact ar ⟨af,H,I,.none,h⟩
def jh3(h:PE X e te):PO X (a8 e) (jnf te):=by intro pins s σ H Q I hw;rw[evalPart_some];refine thn (h pins s σ H _ I hw) λu s1 ⟨x,H1,I1,r1,q1⟩=>?_;obtain⟨i,rfl,q⟩:=q1;obtain⟨t,rfl⟩:=r1;exact⟨a8 i,H1,I1,.int i t,q⟩
def SlR(X:Cx)(r:V->Option Int->Option Int->Hp->VK->Prop):Prop :=
 ∀(pins:k9m) (s:aq) (σ:St) (H:Hp) (x:V) (v vl vu:ah) (lo hi:Option Int) (sl:ai) (Q:VK),Inv X pins σ H s->RelV x v->s.heap.IsSliceOf sl vl vu .none->fW vl lo->fW vu hi->r x lo hi H Q ->
  ∃T id,typeLookup (.type T) "__getitem__" = pure (a8 (.builtin id))/\s.TypeIs v T/\ay (aB X.prog X.w) X.A (ke v (.ref sl)) (EP X pins σ Q) X.xe s
def tSl(r:V->Option Int->Option Int->Hp->VK->Prop)(te:TE)(tl th:TO):TE:=λσ H Q=>te σ H λx H1=>tl σ H1 λl H2=>th σ H2 λu H3=>r x l u H3 Q
def Lh{r:V->Option Int->Option Int->Hp->VK->Prop}(hr:SlR X r)(he:PE X e te)(hl:PO X lo tl)(hu:PO X hi th):PE X (.Subscript e (.Slice lo hi af p2) pos) (tSl r te tl th):=by intro pins s σ H Q I h;refine Subscript_ (thn (he pins s σ H _ I h) λv s1 ⟨x,H1,I1,r1,q1⟩=>?_);refine wpAny_Slice (thn (hl pins s1 σ H1 _ I1 q1) λvl s2 ⟨l,H2,I2,pl,q2⟩=>thn (hu pins s2 σ H2 _ I2 q2) λvu s3 ⟨u,H3,I3,pu,q3⟩=>?_);rw[nC];refine ar ?_;have I4:Inv X pins σ H3 { s3 with heap:=s3.heap.push { cls:=.type "slice",data:=.fields #[vl,vu,.none] } }:=I3.kept (t':=s3.toks) λb ob q=>xj _ q;obtain⟨T,id,hT,ht,hg⟩:=hr pins { s3 with heap:=s3.heap.push { cls:=.type "slice",data:=.fields #[vl,vu,.none] } } σ H3 x v vl vu l u s3.heap.objs.size Q I4 r1 (Heap.IsSliceOf.new ..) pl pu q3;show ay (aB X.prog X.w) X.A (nE e (.Slice lo hi af p2) v (.ref s3.heap.objs.size)) (EP X pins σ Q) X.xe { s3 with heap:=s3.heap.push { cls:=.type "slice",data:=.fields #[vl,vu,.none] } };exact nq (ops:=[.ref s3.heap.objs.size,v]) ht hT hg (by with_unfolding_all rfl)
noncomputable def Bu(xs:List V)(lo hi:Option Int):List V:=(xs.drop (HT.sIx xs.length 0 lo)).take (HT.sIx xs.length xs.length hi-HT.sIx xs.length 0 lo)
def Dt(xs:List V)(lo hi:Option Int):(Bu xs lo hi).length<=xs.length:=by unfold Bu;rw[pq,Tv];omega
def jq6(K:k9k):V->Option Int->Option Int->Hp->VK->Prop:=λx lo hi H Q=>∃a xs,x=.ref a/\SqT K H a xs /\
 ¬(HT.sIx xs.length 0 lo=0/\HT.sIx xs.length xs.length hi=xs.length)/\∀p,H p=af->Q (.ref p) (upd H p (.tup (Bu xs lo hi)))
def jja:SlR X (jq6 X.K):=by
 intro pins s σ H x v vl vu lo hi sl Q I rx hs pl pu h;obtain⟨a,xs,rfl,hx,hw,q⟩:=h;cases rx;obtain⟨its,r,ht,hz⟩:=I.tuple hx;have hlen:its.toArray.size=xs.length:=by rw[Xd];exact r.length.symm
 refine⟨"tuple",_,slot_tuple_getitem.lookup,ht.typeIs,?_⟩;refine HT.getItem_tuple_cut ht hs pl pu (by rw[hlen];exact hw) ?_ (by rw[hlen];exact hz);rw[hlen];refine⟨.ref s.heap.objs.size,_,I.laid (t':=s.toks) (o:=.tup (Bu xs lo hi)) (λb ob q=>xj _ q) (X8 _) ?_,rfl,q _ (I.hok.fresh (X8 _))⟩;exact⟨Xn (Dt xs lo hi) hz,_,(r.drop (HT.sIx xs.length 0 lo)).take (HT.sIx xs.length xs.length hi-HT.sIx xs.length 0 lo),IsTup.new _ _,Vh.new _ _⟩
def jnx(K:k9k):R2:=λx y H Q=>∃a b xs ys,x=.ref a/\y=.ref b/\SqT K H a xs/\SqT K H b ys/\xs≠[]/\xs.length+ys.length<=aw /\
 (ys=[]->Q (.ref a) H)/\(ys≠[]->∀p,H p=af->Q (.ref p) (upd H p (.tup (xs++ys))))
def Vals.nil_iff{xs:List V}{us:List ah}(r:Vals xs us):us=[]↔xs=[]:=by
 cases r with
 |nil=>simp
 |cons _ _=>simp
def jha:OpR X (bh .Add) (jnx X.K):=by intro pins s σ H x y v u Q I rx ry h;obtain⟨a,b,xs,ys,rfl,rfl,ha,hb,hx,hz,q1,q2⟩:=h;cases rx;cases ry;obtain⟨its,r1,p1,_⟩:=I.tuple ha;obtain⟨its2,r2,p2,_⟩:=I.tuple hb;refine HT.cat_tup p1 p2 (λz=>hx (r1.nil_iff.mp z)) (λz=>⟨.ref a,H,I,rfl,q1 (r2.nil_iff.mp z)⟩) (λz=>?_) (by rw[<-r1.length,<-r2.length];exact hz);refine⟨.ref s.heap.objs.size,_,I.laid (t':=s.toks) (o:=.tup (xs++ys)) (λb ob q=>xj _ q) (X8 _) ?_,rfl,q2 (λw=>z (r2.nil_iff.mpr w)) _ (I.hok.fresh (X8 _))⟩;exact⟨by rw[Xh];exact hz,_,r1.append r2,IsTup.new _ _,Vh.new _ _⟩
end
noncomputable def ixN(n:Nat)(i:Int):Option Nat:=if 0<=i then(if i<n then a8 i.toNat else af)else if -(n:Int)<=i then a8 (i+n).toNat else af
variable{α:Type}
noncomputable def atI(xs:List α)(i:Int):Option α:=(ixN xs.length i).bind λj=>xs[j]?
def j0y{n:Nat}{i:Int}{j:Nat}(h:ixN n i=a8 j):mq i n=a8 j/\j<n/\-(n:Int)<=i/\i<n:=by
 unfold ixN at h;by_cases h0:0<=i
 .rw[if_pos h0]at h;by_cases h1:i<n
  .rw[if_pos h1]at h;have e:i.toNat=j:=ax h;exact⟨by rw[kH h0 h1,e],by omega,by omega,h1⟩
  .rw[if_neg h1]at h;cases h
 .rw[if_neg h0]at h;by_cases h1:-(n:Int)<=i
  .rw[if_pos h1]at h;have e:(i+n).toNat=j:=ax h;exact⟨by rw[ka nofun h1,e],by omega,h1,by omega⟩
  .rw[if_neg h1]at h;cases h
def j1e{xs:List α}{i:Int}{v:α}(h:atI xs i=a8 v):∃j,mq i xs.length=a8 j/\xs[j]?=a8 v/\j<xs.length/\-(xs.length:Int)<=i/\i<xs.length:=by
 unfold atI at h;cases e:ixN xs.length i with
 |none=>rw[e]at h;cases h
 |some j =>rw[e]at h;obtain⟨h1,h2,h3,h4⟩:=j0y e;exact⟨j,h1,h,h2,h3,h4⟩
def jil{xs:List α}{j:Nat}{v:α}(h:xs[j]?=a8 v):atI xs (j:Int)=a8 v:=by
 have hj:j<xs.length:=(Xe.mp h).1;have e:ixN xs.length (j:Int)=a8 j:=by unfold ixN;rw[if_pos nofun,if_pos nofun];simp
 unfold atI;rw[e];exact h
def Ut(b:av):Prop:=∀o i,subscripted b a9 o i=operate [o,i] (ke o i)
def IxR(X:Cx)(r:R2):Prop :=
 ∀(value slice:av)(pins:k9m) (s:aq) (σ:St) (H:Hp) (x y:V) (v u:ah) (Q:VK),Inv X pins σ H s->RelV x v->RelV y u->r x y H Q ->
  subscripted slice a9 v u=operate [v,u] (ke v u)->ay (aB X.prog X.w) X.A (nE value slice v u) (EP X pins σ Q) X.xe s
def MtR(X:Cx)(id:String)(r:V->List V->Hp->VK->Prop):Prop :=
 ∀(pins:k9m) (s:aq) (σ:St) (H:Hp) (x:V) (xs:List V) (v:ah) (us:List ah) (Q:VK),Inv X pins σ H s->RelV x v->Vals xs us->r x xs H Q ->
  ay (aB X.prog X.w) X.A (call (.builtin id) (v::us)) (EP X pins σ Q) X.xe s
section
variable{X:Cx}{a b:av}{ta tb:TE}{pos:aP}
def j35{r:R2}(hr:IxR X r)(ha:PE X a ta)(hb:PE X b tb)(hs:Ut b):PE X (.Subscript a b pos) (tOp r ta tb):=by intro pins s σ H Q I h;exact Subscript_ (jeb ha hb I h λv u s2 x y H2 I2 rx ry q=>hr a b pins s2 σ H2 x y v u Q I2 rx ry q (hs _ _))
def jjs(K:k9k):R2:=λx y H Q=>∃p xs i v,x=.ref p/\y=.int i/\SqL K H p xs/\atI xs i=a8 v/\Q v H
def jjq(K:k9k):R2:=λx y H Q=>∃p xs i v,x=.ref p/\y=.int i/\SqT K H p xs/\atI xs i=a8 v/\Q v H
def jjr:R2:=λx y H Q=>∃z i c,x=.str z/\y=.int i/\z.length<=aw/\atI z.cps.toList i=a8 c/\Q (.str ⟨#[c]⟩) H
def jhq:IxR X (jjs X.K):=by
 intro value slice pins s σ H x y v u Q I rx ry h hs;obtain⟨p,xs,i,z,rfl,rfl,hq,he,q⟩:=h;cases rx;obtain⟨t,rfl⟩:=ry;obtain⟨its,r,pl,hz⟩:=I.list hq;obtain⟨j,h1,h2,h3,h4,h5⟩:=j1e he;obtain⟨w,ew,rw'⟩:=r.get h2;have hl:=r.length;have hn:=Uz;have fin:EP X pins σ Q w s:=⟨z,H,I,rw',q⟩
 by_cases h0:0<=i
 .have hj:i.toNat=j:=by rw[kH h0 h5]at h1;exact ax h1
  exact item_listR pl.isList h0 nofun (by rw[hj];simpa using ew) fin hs
 .have hj:(i+(its.toArray.size:Int)).toNat=j:=by rw[ka nofun h4]at h1;rw[Xd,<-hl];exact ax h1
  exact kg (x:=w) pl.isList.typeIs slot_list_getitem.lookup
   (wpAny_getItem_list_neg (Q:=λr s'=>r=w/\EP X pins σ Q r s') pl.isList nofun (by rw[Xd]<;>omega) nofun (by rw[hj];simpa using ew) ⟨rfl,fin⟩) hs
def jl3:IxR X (jjq X.K):=by
 intro value slice pins s σ H x y v u Q I rx ry h hs;obtain⟨p,xs,i,z,rfl,rfl,hq,he,q⟩:=h;cases rx;obtain⟨t,rfl⟩:=ry;obtain⟨its,r,pl,hz⟩:=I.tuple hq;obtain⟨j,h1,h2,h3,h4,h5⟩:=j1e he;obtain⟨w,ew,rw'⟩:=r.get h2;have hl:=r.length;have hn:=Uz;have fin:EP X pins σ Q w s:=⟨z,H,I,rw',q⟩
 exact kg (x:=w) pl.typeIs slot_tuple_getitem.lookup
  (getItem_tuple (j:=j) (Q:=λr s'=>r=w/\EP X pins σ Q r s') pl nofun nofun (by rw[Xd,<-hl];exact h1) (by simpa using ew) ⟨rfl,fin⟩) hs
def jl4:IxR X jjr:=by
 intro value slice pins s σ H x y v u Q I rx ry h hs;obtain⟨z,i,c,rfl,rfl,hz,he,q⟩:=h;obtain⟨t,rfl⟩:=rx;obtain⟨t',rfl⟩:=ry;obtain⟨j,h1,h2,h3,h4,h5⟩:=j1e he;have hl:z.cps.toList.length=z.length:=by simp[mZ]
 rw[hl]at h1 h4 h5;have hn:=Uz;exact nq (iV s z t) slot_str_getitem.lookup (getItem_str (c:=c) (by
  have e1:decide (i < -(2^63:Int))=a9:=decide_eq_false nofun
  have e2:decide (i>=2^63)=a9:=decide_eq_false nofun
  rw[e1,e2,lE]) (by rw[h1];simpa using h2) ⟨.str ⟨#[c]⟩,H,I.tok _,⟨_,rfl⟩,q⟩) hs
def j7x(its:List ah)(n j:Nat)(u:ah):bM (·.setIfInBounds j u) { cls:=.type "list",data:=.seq its.toArray n }={ cls:=.type "list",data:=.seq (its.set j u).toArray n }:=by simp[bM]
theorem Inv.lst{pins:k9m}{σ:St}{H:Hp}{s:aq}{p:ai}{xs:List V}(I:Inv X pins σ H s)(h:H p=a8 (.lst xs)) :
  ∃(its:List ah)(n:Nat),Vals xs its/\s.heap.get? p=a8 { cls:=.type "list",data:=.seq its.toArray n }/\xs.length<=aw:=by
 obtain⟨z,its,n,r,e⟩:=I.hok p _ h;exact⟨its,n,r,e,z⟩
def Inv.lstUpd{pins:k9m}{σ:St}{H:Hp}{s:aq}{p:ai}{xs ys:List V}{its its':List ah}{n n':Nat}{f:d7->d7}(I:Inv X pins σ H s)(h:H p=a8 (.lst xs))
  (ho:s.heap.get? p=a8 { cls:=.type "list",data:=.seq its.toArray n }) (hf:f { cls:=.type "list",data:=.seq its.toArray n }={ cls:=.type "list",data:=.seq its'.toArray n' }) (r:Vals ys its') (hz:ys.length<=aw) (t:Nat) :
  Inv X pins σ (upd H p (.lst ys)) { s with heap:=s.heap.update p f,toks:=t }:=by
 have e:(s.heap.update p f).get? p=a8 { cls:=.type "list",data:=.seq its'.toArray n' }:=by rw[eT f ho (by rw[hf]<;>rfl),hf]
 refine I.write (x:=p) (e:=p) (by rw[h];trivial) (.inl rfl) (λb u hb q=>(iK _ _ (bu hb)).trans q) ⟨_,e⟩ ?_;exact⟨hz,its',n',r,e⟩
def jnw:V->V->V->Hp->(Hp->Prop)->Prop:=λo i v H Q=>∃p xs k j,o=.ref p/\i=.int k/\H p=a8 (.lst xs)/\ixN xs.length k=a8 j/\Q (upd H p (.lst (xs.set j v)))
def set_list:jn6 X jnw:=by
 intro pins s σ H o i v ov iv u Q I ro ri rv h;obtain⟨p,xs,k,j,rfl,rfl,hp,hj,q⟩:=h;cases ro;obtain⟨t,rfl⟩:=ri;obtain⟨its,n,r,ho,hz⟩:=I.lst hp;obtain⟨h1,h2,h3,h4⟩:=j0y hj;have hl:=r.length;have hn:=Uz;have I':Inv X pins σ (upd H p (.lst (xs.set j v))) { s with heap:=s.heap.update p (bM (·.setIfInBounds j u)) } :=
  I.lstUpd hp ho (j7x its n j u) (r.set rv j) (by rw[Xq];exact hz) s.toks
 by_cases h0:0<=k
 .have hk:k.toNat=j:=by rw[kH h0 h4]at h1;exact ax h1
  exact W.ki_setAt ho h0 nofun (by rw[Xd,<-hl];exact h4) (by rw[hk];exact⟨_,I',q⟩)
 .have hk:(k+(its.toArray.size:Int)).toNat=j:=by rw[ka nofun h3]at h1;rw[Xd,<-hl];exact ax h1
  exact W.ki_setBack ho nofun (by rw[Xd,<-hl];exact h3) nofun (by rw[hk];exact⟨_,I',q⟩)
def j3q(lo hi:Option Int)(n:Nat):(dq lo hi af n).1=((HT.sIx n 0 lo:Nat):Int)/\(dq lo hi af n).2.1=((HT.sIx n n hi:Nat):Int)/\(dq lo hi af n).2.2=1:=by
 refine⟨?_,?_,rfl⟩
 .cases lo with
  |none=>simp[dq,HT.sIx]
  |some i =>
   simp only[dq,HT.sIx,g9,show(1:Int)>0 by decide,if_true];by_cases h:i<0
   .simp only[h,if_true]<;>omega
   .simp only[h,if_false]<;>omega
 .cases hi with
  |none=>simp[dq,HT.sIx]
  |some i =>
   simp only[dq,HT.sIx,g9,show(1:Int)>0 by decide,if_true];by_cases h:i<0
   .simp only[h,if_true]<;>omega
   .simp only[h,if_false]<;>omega
def j2u(its:List ah)(lo hi:Option Int):slicePick its.toArray lo hi af=((its.drop (HT.sIx its.length 0 lo)).take (HT.sIx its.length its.length hi-HT.sIx its.length 0 lo)).toArray:=by obtain⟨h1,h2,h3⟩:=j3q lo hi its.toArray.size;unfold slicePick;rw[h1,h2,h3];simp only[sliceRange_one,pick_run,Xd]<;>rfl
def jq8(K:k9k):V->Option Int->Option Int->Hp->VK->Prop:=λx lo hi H Q=>∃a xs,x=.ref a/\SqL K H a xs/\∀p,H p=af->Q (.ref p) (upd H p (.lst (Bu xs lo hi)))
def jgb:SlR X (jq8 X.K):=by intro pins s σ H x v vl vu lo hi sl Q I rx hs pl pu h;obtain⟨a,xs,rfl,hx,q⟩:=h;cases rx;obtain⟨its,r,ht,hz⟩:=I.list hx;have hlen:=r.length;refine⟨"list",_,slot_list_getitem.lookup,ht.isList.typeIs,?_⟩;refine wpAny_getItem_list_slice ht.isList hs pl pu .none (by simp) ?_ (by rw[Xd]<;>omega);rw[j2u,<-hlen];refine⟨.ref s.heap.objs.size,_,I.laid (t':=s.toks) (o:=.lst (Bu xs lo hi)) (λb ob q=>xj _ q) (X8 _) ?_,rfl,q _ (I.hok.fresh (X8 _))⟩;exact⟨Xn (Dt xs lo hi) hz,_,0,(r.drop (HT.sIx xs.length 0 lo)).take (HT.sIx xs.length xs.length hi-HT.sIx xs.length 0 lo),X3 _ rfl⟩
def By:Z0 X (.builtin "len") (λxs H Q=>∃p ys,xs=[.ref p]/\(SqL X.K H p ys\/SqT X.K H p ys)/\Q (.int ys.length) H):=by
 intro pins s σ H xs us Q I r h;obtain⟨p,ys,rfl,hq,q⟩:=h;obtain⟨u,rfl,rx⟩:=vals1 r;cases rx;have hn:=Uz;rcases hq with hq|hq
 .obtain⟨its,r',pl,hz⟩:=I.list hq;have hlen:=r'.length;exact Calls.call_len_list pl.isList (by simp only[Xd]<;>omega) ⟨.int ys.length,H,I.tok _,⟨s.toks+1,by rw[Xd,hlen]⟩,q⟩
 .obtain⟨its,r',pl,hz⟩:=I.tuple hq;have hlen:=r'.length;exact len_tuple pl (by simp only[Xd]<;>omega) ⟨.int ys.length,H,I.tok _,⟨s.toks+1,by rw[Xd,hlen]⟩,q⟩
def j5b:Z0 X (.builtin "len") (λxs H Q=>∃z,xs=[.str z]/\z.length<=aw/\Q (.int z.length) H):=by intro pins s σ H xs us Q I r h;obtain⟨z,rfl,hz,q⟩:=h;obtain⟨u,rfl,t,rfl⟩:=vals1 r;have hn:=Uz;exact len_str nofun ⟨.int z.length,H,I.tok _,⟨_,rfl⟩,q⟩
def j5a:Z0 X (.type "list") (λxs H Q=>∃p ys,xs=[.ref p]/\(SqL X.K H p ys\/SqT X.K H p ys)/\∀l,H l=af->Q (.ref l) (upd H l (.lst ys))):=by
 intro pins s σ H xs us Q I r h;obtain⟨p,ys,rfl,hq,q⟩:=h;obtain⟨u,rfl,rx⟩:=vals1 r;cases rx;have fin:∀(its:List ah),Vals ys its->ys.length<=aw->∀(h':aE)(c':Nat),(∀b o',s.heap.get? b=a8 o'->h'.get? b=a8 o') ->
   h'.get? s.heap.objs.size=a8 { cls:=.type "list",dict:=af,data:=.seq its.toArray c',slots:=#[] }->EP X pins σ Q (.ref s.heap.objs.size) { s with heap:=h' }:=λits r' hz h' c' kp e =>
  ⟨.ref s.heap.objs.size,_,I.laid (t':=s.toks) kp (X8 _) (show jm X.prog X.w _ h' _ (.lst ys) from⟨hz,its,c',r',e⟩),rfl,q _ (I.hok.fresh (X8 _))⟩
 rcases hq with hq|hq
 .obtain⟨its,r',pl,hz⟩:=I.list hq;have hlen:=r'.length;obtain⟨o,ho,hc,n,hd⟩:=pl.isList;exact nD p (.inl rfl) ho hc hd (λh' c' kp e=>fin its r' hz h' c' kp e) (by simp only[Xd]<;>omega)
 .obtain⟨its,r',pl,hz⟩:=I.tuple hq;have hlen:=r'.length;obtain⟨o,ho,hc,n,hd⟩:=pl;exact nD p (.inr rfl) ho hc hd (λh' c' kp e=>fin its r' hz h' c' kp e) (by simp only[Xd]<;>omega)
def j30:Z0 X (.type "tuple") (λxs H Q=>∃p ys,xs=[.ref p]/\((SqL X.K H p ys/\∀l,H l=af->Q (.ref l) (upd H l (.tup ys)))\/(SqT X.K H p ys/\Q (.ref p) H))):=by
 intro pins s σ H xs us Q I r h;obtain⟨p,ys,rfl,h⟩:=h;obtain⟨u,rfl,rx⟩:=vals1 r;cases rx;rcases h with ⟨hq,q⟩|⟨hq,q⟩
 .obtain⟨its,r',pl,hz⟩:=I.list hq;have hlen:=r'.length;refine call_tuple_list pl.isList (λh' kp=>?_) (by simp only[Xd]<;>omega);have I1:Inv X pins σ H { s with heap:=h' }:=I.kept (t':=s.toks) kp;have I2:Inv X pins σ (upd H h'.objs.size (.tup ys)) { s with heap:=h'.push { cls:=.type "tuple",data:=.seq its.toArray } } :=
   I1.laid (t':=s.toks) (λb o e=>xj _ e) (X8 _) (show jm X.prog X.w _ _ _ (.tup ys) from⟨hz,its,r',IsTup.new _ _,Vh.new _ _⟩)
  exact⟨.ref h'.objs.size,_,I2,rfl,q _ (I1.hok.fresh (X8 _))⟩
 .obtain⟨its,r',pl,hz⟩:=I.tuple hq;exact call_tuple_same pl ⟨.ref p,H,I,rfl,q⟩
def tyV(K:k9k)(T:String)(x:V)(H:Hp):Prop:=match x with
 |.str _=>T = "str"
 |.int _=>T = "int"
 |.ref p=>(T = "list"/\∃xs,SqL K H p xs)\/(T = "tuple"/\∃xs,SqT K H p xs) \/
   (T = "dict"/\((∃kvs,H p=a8 (.dK kvs))\/∃kvs,H p=a8 (.dT kvs)))\/(T = "set"/\∃S n,H p=a8 (.set S n))
 |_=>False
def jj0{pins:k9m}{σ:St}{H:Hp}{s:aq}{T:String}{x:V}{v:ah}(I:Inv X pins σ H s)(r:RelV x v)(ty:tyV X.K T x H) :
  s.TypeIs v T/\∀a,v=.ref a->∃ob,s.heap.get? a=a8 ob/\ob.dict=af:=by
 cases x with
 |str z =>obtain⟨t,rfl⟩:=r;cases(show T = "str" from ty);exact⟨iV s z t,λ_ e=>nomatch e⟩
 |int i =>obtain⟨t,rfl⟩:=r;cases(show T = "int" from ty);exact⟨gG s i t,λ_ e=>nomatch e⟩
 |ref p =>
  cases r;rcases ty with ⟨rfl,xs,hq⟩|⟨rfl,xs,hq⟩|⟨rfl,hk⟩|⟨rfl,S,n,hk⟩
  .obtain⟨its,_,pl,_⟩:=I.list hq;refine⟨pl.isList.typeIs,λa e=>?_⟩;cases e;obtain⟨o,n,e,c,hd,_⟩:=pl;exact⟨o,e,hd⟩
  .obtain⟨its,_,⟨o,e1,e2,_⟩,_⟩:=I.tuple hq;refine⟨⟨o,e1,e2⟩,λa e=>?_⟩;cases e;exact⟨o,e1,I.tupD hq o e1⟩
  .have z:∃o,s.heap.get? p=a8 o/\o.ExactDict:=by
    rcases hk with ⟨kvs,hk⟩|⟨kvs,hk⟩
    .obtain⟨_,_,_,_,o,_,_,e,ex,_⟩:=I.hok p _ hk;exact⟨o,e,ex⟩
    .obtain⟨_,_,_,_,o,_,_,e,ex,_⟩:=I.hok p _ hk;exact⟨o,e,ex⟩
   obtain⟨o,e,ex⟩:=z;refine⟨⟨o,e,ex.1⟩,λa e2=>?_⟩;cases e2;exact⟨o,e,ex.2.1⟩
  .obtain⟨o,_,_,_,e,ex,_⟩:=I.hok p _ hk;refine⟨⟨o,e,ex.1⟩,λa e2=>?_⟩;cases e2;exact⟨o,e,ex.2.1⟩
 |_=>exact bU ty
def tBM(K:k9k)(T:String)(r:V->List V->Hp->VK->Prop)(to:TE)(t:TA):TE:=λσ H Q=>to σ H λx H1=>tyV K T x H1/\t σ H1 λxs H2=>r x xs H2 Q
variable{o e:av}{es:List av}{to:TE}{t:TA}{name:au}{apos cpos:aP}{T id:String}{r:V->List V->Hp->VK->Prop}
def Ud (pa:PlainAttrs T) (slot:Slot T name id) (hty:typeOf (.builtin id)=pure (.type "method_descriptor")) (hm:MtR X id r) (ho:PE X o to) (ha:PA X (e::es) t)
  (hbase:aL o name X.env (aC o X.env)=aC o X.env:=by rfl)
  (hfew:((aR cpos (aj (e::es) X.env)).all (λx=>!x.1)&&(br cpos (aV [] X.env)).all (λx=>x.1.isSome)
   && decide ((e::es).length+([]:List aS).length+(if ([]:List aS).isEmpty then 0 else 1)<30))=ae:=by rfl)
  (hline:(apos.endLine==cpos.line)=ae:=by rfl) (hs:aj (e::es) X.env=(a9,aC e X.env)::aj es X.env:=by rfl) (hplain:(aR cpos (aj es X.env)).any (·.1)=a9:=by rfl) :
  PE X (.Call (.Attribute o name apos) (e::es) [] cpos) (tBM X.K T r to t):=by
 intro pins s σ H Q I h;refine wpAny_Call_method_late hbase hfew hline rfl (thn (ho pins s σ H _ I h) λv s1 ⟨x,H1,I1,r1,ty,q1⟩=>?_);obtain⟨h1,h2⟩:=jj0 I1 r1 ty;refine⟨T,id,pa,slot,hty,h1,h2,?_⟩;have hA:=ha cpos pins s1 σ H1 _ I1 q1;rw[hs]at hA ⊢;refine cJ (by show(a9 || (aR cpos (aj es X.env)).any (·.1))=a9;rw[hplain]<;>rfl) (eX ?_);exact thn hA λus s2 ⟨vs,H2,I2,r2,q2⟩=>hm pins s2 σ H2 x vs v us Q I2 r1 r2 q2
/- xs.append(e),list.index on a module's tuple .. are MtR facts of 06m -/
end
def MtM(X:Cx)(id:String)(r:V->List V->Hp->VK->Prop):Prop :=
 ∀(pins:k9m) (s:aq) (σ:St) (H:Hp) (x:V) (xs:List V) (v:ah) (us:List ah) (Q:VK),Inv X pins σ H s->RelV x v->Vals xs us->r x xs H Q ->
  ay (aB X.prog X.w) X.A (call (.builtin id) (v::us)) (EP X pins σ Q) X.xe s
def Vals.one{x:V}{us:List ah}(h:Vals [x] us):∃u,us=[u]/\RelV x u:=by cases h with|cons r t=>cases t;exact⟨_,rfl,r⟩
def Vals.two:∀{x y:V}{us:List ah},Vals [x,y] us->∃u v,us=[u,v]/\RelV x u/\RelV y v
 |_,_,_,.cons r (.cons q .nil)=>⟨_,_,rfl,r,q⟩
theorem Vals.eraseIdx:∀{xs:List V}{us:List ah}(i:Nat),Vals xs us->Vals (xs.eraseIdx i) (us.eraseIdx i)
 |_,_,_,.nil=>.nil
 |_,_,0,.cons _ t=>t
 |_,_,i+1,.cons r t=>.cons r (Vals.eraseIdx i t)
theorem Vals.reverse{xs:List V}{us:List ah}(h:Vals xs us):Vals xs.reverse us.reverse:=by
 induction h with
 |nil=>exact .nil
 |cons r t ih=>rw[kq,kq];exact Vals.append ih (.cons r .nil)
theorem Vals.rep{xs:List V}{us:List ah}(h:Vals xs us):∀k:Nat,Vals (ak k xs).flatten (ak k us).flatten
 |0=>.nil
 |k+1=>by rw[Ph,Ph,Td,Td];exact Vals.append h (Vals.rep h k)
theorem j21{α:Type}:∀(l:List α)(i:Nat),(l.eraseIdx i).length<=l.length
 |[],_=>X8 _
 |_::_,0=>de _
 |_::r,i+1=>Nat.succ_le_succ (j21 r i)
theorem foldl_rep(its:List ah):∀(k:Nat)(acc:List ah),
  dC (λx1 x2=>x1++x2) acc.toArray (ak k its.toArray)=(acc++(ak k its).flatten).toArray
 |0,acc=>by simp
 |k+1,acc=>by
  have e:acc.toArray++its.toArray=(acc++its).toArray:=by simp
  have e2:(acc++its)++(ak k its).flatten=acc++(ak (k+1) its).flatten:=by rw[Ph,Td,t8]
  rw[<-e2,<-foldl_rep its k (acc++its),<-e,Ph,Tp]
section
variable{X:Cx}{pins:k9m}{σ:St}{H:Hp}{s:aq}{l b:ai}{xs ys zs:List V}
def Inv.lset{its its':List ah}{n:Nat}{f:Array ah->Array ah}{t':Nat}(I:Inv X pins σ H s)(hH:H l=a8 (.lst xs))
  (e:s.heap.get? l=a8 { cls:=.type "list",data:=.seq its.toArray n }) (hf:f its.toArray=its'.toArray) (hv:Vals ys its') (hz:ys.length<=aw) :
  Inv X pins σ (upd H l (.lst ys)) { s with heap:=s.heap.update l (bM f),toks:=t' }:=by
 have q:=PySem.IsL.update e f;rw[hf]at q;refine I.write (x:=l) (e:=l) (by rw[hH];exact trivial) (.inl rfl) (λb' u hb hu=>(iK s.heap (bM f) (bu hb)).trans hu) ⟨_,q⟩ ?_;exact⟨hz,its',_,hv,q⟩
def Inv.lnew{its:List ah}{t':Nat}(I:Inv X pins σ H s)(hv:Vals ys its)(hz:ys.length<=aw) :
  Inv X pins σ (upd H s.heap.objs.size (.lst ys)) { s with heap:=s.heap.push { cls:=.type "list",data:=.seq its.toArray },toks:=t' } :=
 I.laid (λ_ _ q=>xj _ q) (X8 _) ⟨hz,its,0,hv,X3 _ rfl⟩
theorem Inv.fresh(I:Inv X pins σ H s):H s.heap.objs.size=af:=I.hok.fresh (X8 _)
def Inv.lstM(I:Inv X pins σ H s)(hH:H l=a8 (.lst xs)):xs.length<=aw/\∃(its:List ah)(n:Nat),Vals xs its/\xs.length=its.length/\s.heap.get? l=a8 { cls:=.type "list",data:=.seq its.toArray n }:=by obtain⟨z,its,n,r,e⟩:=I.hok l _ hH;exact⟨z,its,n,r,r.length,e⟩
def j4a{n:Nat}(h:n<=aw):bS n=a9:=by unfold bS;exact decide_eq_false nofun
end
section
variable{X:Cx}
def jgz:V->List V->Hp->VK->Prop:=λx vs H Q=>∃l xs y,x=.ref l/\vs=[y]/\H l=a8 (.lst xs)/\xs.length<aw/\Q .non (upd H l (.lst (xs++[y])))
def Bb:MtM X "list.append" jgz:=by intro pins s σ H x vs v us Q I rx rv h;obtain⟨l,xs,y,rfl,rfl,hH,hz,q⟩:=h;cases rx;obtain⟨u,rfl,ru⟩:=rv.one;obtain⟨z,its,n,r,hl,e⟩:=I.lstM hH;refine bD eF ⟨_,e,rfl⟩ F.entry_list_append (F.args_list_append_2 _ _) (PySem.list_append l its.toArray n u (by rw[Xd];omega)) ⟨e,?_⟩;refine⟨.non,_,I.lset (its':=its++[u]) hH e (by simp) (r.append (.cons ru .nil)) ?_,rfl,q⟩;rw[Xh,sr];omega
def jgy:V->List V->Hp->VK->Prop:=λx vs H Q=>∃l b xs zs,x=.ref l/\vs=[.ref b]/\H l=a8 (.lst xs)/\H b=a8 (.lst zs)/\xs.length+zs.length<=aw/\Q .non (upd H l (.lst (xs++zs)))
def ja5:MtM X "list.extend" jgy:=by
 intro pins s σ H x vs v us Q I rx rv h;obtain⟨l,b,xs,zs,rfl,rfl,hH,hB,hz,q⟩:=h;cases rx;obtain⟨u,rfl,ru⟩:=rv.one;cases ru;obtain⟨z,its,n,r,hl,e⟩:=I.lstM hH;obtain⟨z2,its2,n2,r2,hl2,e2⟩:=I.lstM hB;have hsz:its.toArray.size+its2.toArray.size<=aw:=by rw[Xd,Xd];omega
 have hlong:¬(!its.toArray.isEmpty&&bS (its.toArray.size+its2.toArray.size))=ae:=by rw[j4a hsz,i7];exact xq
 refine bD iR ⟨_,e,rfl⟩ F.entry_list_extend (F.args_list_extend_2 _ _)
  (AutoSeq1.list_extend_list_list_0 l its.toArray n b its2.toArray n2 hlong (by rw[Xd];omega) nofun) ⟨e,e2,?_⟩
 refine⟨.non,_,I.lset (its':=its++its2) hH e (by simp) (r.append r2) ?_,rfl,q⟩;rw[Xh];omega
def jjp:V->List V->Hp->VK->Prop:=λx vs H Q=>∃l xs i k y,x=.ref l/\vs=[.int i]/\H l=a8 (.lst xs)/\-(2^63)<=i/\i<2^63/\mq i xs.length=a8 k/\xs[k]?=a8 y/\Q y (upd H l (.lst (xs.eraseIdx k)))
def jcu:MtM X "list.pop" jjp:=by
 intro pins s σ H x vs v us Q I rx rv h;obtain⟨l,xs,i,k,y,rfl,rfl,hH,h1,h2,hk,hy,q⟩:=h;cases rx;obtain⟨u,rfl,ru⟩:=rv.one;obtain⟨t,rfl⟩:=ru;obtain⟨z,its,n,r,hl,e⟩:=I.lstM hH;obtain⟨w,hw,rw'⟩:=r.get hy;refine bD jO ⟨_,e,rfl⟩ F.entry_list_pop (F.args_list_pop_2 _ _)
  (MeetsSeq.list_pop_at l its.toArray n i t k w (nh h1 h2) (by rw[Xd,<-hl];exact hk) (by rw[<-eR];exact hw) (by rw[Xd];omega)) ⟨e,?_⟩
 refine⟨y,_,I.lset (its':=its.eraseIdx k) hH e ?_ (r.eraseIdx k) ?_,rw',q⟩
 .show its.toArray.eraseIdxIfInBounds k=(its.eraseIdx k).toArray;rw[List.eraseIdxIfInBounds_toArray]
 .have:=j21 xs k;omega
def jqa:R2:=λx y H Q=>∃l k xs,x=.ref l/\y=.int k/\H l=a8 (.lst xs)/\-(2^63)<=k/\k<2^63/\xs.length*k.toNat<=aw /\
 ∀p,H p=af->Q (.ref p) (upd H p (.lst (ak k.toNat xs).flatten))
def len_rep(xs:List α)(k:Nat):(ak k xs).flatten.length=k*xs.length:=by
 induction k with
 |zero=>simp
 |succ k ih=>rw[Ph,Td,Xh,ih,mr,Nat.add_comm]
def jkc:OpR X (bh .Mult) jqa:=by
 intro pins s σ H x y v u Q I rx ry h;obtain⟨l,k,xs,rfl,rfl,hH,h1,h2,hz,q⟩:=h;cases rx;obtain⟨t,rfl⟩:=ry;obtain⟨z,its,n,r,hl,e⟩:=I.lstM hH;have hlen:its.toArray.size*k.toNat<=aw:=by rw[Xd,<-hl];exact hz
 have hcap:¬its.toArray.size*k.toNat>(2^63-1)/8:=by
  have:(aw:Nat)<=(2^63-1)/8:=by decide
  omega
 have hfit:¬(!Builtin.List.listFitsIndex k)=ae:=by rw[nh h1 h2];exact xq
 have hlong:¬bS (its.toArray.size*k.toNat)=ae:=by rw[j4a hlen];exact xq
 have hnew:dC (λx1 x2=>x1++x2) #[] (ak (if its.toArray.isEmpty=ae then 0 else k.toNat) its.toArray)=(ak k.toNat its).flatten.toArray:=by
  have f0:∀m:Nat,dC (λx1 x2=>x1++x2) #[] (ak m its.toArray)=(ak m its).flatten.toArray:=λm=>by have:=foldl_rep its m [];rw[gb]at this;exact this
  rw[f0];cases its with
  |nil=>simp
  |cons a r'=>rw[if_neg (by simp)]
 refine jD (T:="list") (U:="int") (by decide) ⟨_,e,rfl⟩ (λs'=>gG s' k t) noFill_list_mul lJ f9 repeat_list F.slot_int_index.lookup
  (bD f9 (gG s k t) lj (kZ _ _) (int___rmul___int_list k t l its.toArray n)
   ⟨e,rfl,⟨_,e,rfl⟩,bD F.slot_list_mul ⟨_,e,rfl⟩ F.entry_list_mul (F.args_list_mul_2 _ _) (AutoListH.list___mul___list_int_3 l its.toArray n k t hfit hcap hlong) ⟨e,?_⟩⟩)
 rw[hnew];exact⟨.ref _,_,I.lnew (t':=s.toks) (r.rep k.toNat) (by rw[len_rep,eN];exact hz),rfl,q _ I.fresh⟩
end
end L2
namespace Att
open PySem PySem.W PySem.Calls PyProof.Rows
def Ea{P:nj}{h:aE}:∀(ns:zo)(vs:List ah),WellAll P h vs (ns.map WData.int)->d4 vs ns:=by
 intro ns;induction ns with
 |nil =>intro vs w;rw[eK]at w;cases w;exact .nil
 |cons n ns ih =>
  intro vs w;rw[X7]at w;cases w with
  |cons a b =>cases a;exact .cons _ _ (ih _ b)
def j95{l:dQ}{n:Nat}(hn:l.most=a8 n){P:nj}{h:aE}{args:List WData}{vals:List ah}
  (hpre:l.row.toRowW.claim.pre args=ae) (hwl:WellAll P h vals args) :
  ∃a vs ns,vals=[aI a]/\args=[WData.list (ns.map WData.int)]/\h.get? a=a8 { cls:=.type "list",data:=.seq vs.toArray }/\d4 vs ns/\ns.length<=n:=by
 have hsh:WShape.hasAll [] args [.list .int]=ae:=(pre_splitW hpre).1;have hc:l.pre.holds [] { args:=args }=ae:=(pre_splitW hpre).2;obtain⟨d,r,rfl,h1,h2⟩:=hasAllW_cons hsh;obtain rfl:=hasAllW_nil h2;obtain⟨xs,rfl,h3⟩:=hasW_list h1;obtain⟨ns,rfl⟩:=items_int h3;have hlen:ns.length<=n:=by
  unfold OpenLaw.pre at hc;have h4:(WTm.not (.lt (.lit (.int (n:Int))) (.len (.arg 0)))).holds [] { args:=[.list (ns.map .int)] }=ae:=by have h4:=(holds_andW hc).1;rw[hn]at h4;exact h4
  have h5:=condW_of h4 (w_not (w_lt w_lit (w_len_list (w_arg rfl))));rw[xg]at h5;refine Nat.le_of_not_lt λq=>?_;have q':(n:Int)<((ns.length:Nat):Int):=by omega
  first
   |(rw[decide_eq_true q']at h5;exact absurd h5 (by decide))
   |(simp at h5;omega)
 cases hwl with
 |cons w1 w2 =>
  cases w2;cases w1 with
  |list ho hall=>exact⟨_,_,ns,rfl,rfl,ho,Ea ns _ hall,hlen⟩
def j9j(l:dQ)(args:List WData):l.row.toRowW.claim.post args (.bool ae) args=ae :=
 postW_of (r:=l.row.toRowW) (X:=(ae==ae))
  (show WShape.has [] (.bool ae) .bool=ae by first|rfl|decide|simp[WShape.has,WShape.arms,WShape.armsAll])
  (show(WTm.eq .res (.lit (.bool ae))).value [] { args:=args,res:=a8 (.bool ae),after:=args }=a8 (.bool (ae==ae))from w_eq_bool (w_res rfl) w_lit) rfl
def attach_call{l:dQ}{n:Nat}{q:az}{loose:List au}{XP:(au->Option ah)->aE->Prop}{YP:aD->aE->Prop}{d:DefRec}
  (hn:l.most=a8 n) (hdf:d.params.defaults=[])
  (call:∀(w:aD)(s₀ s₁:aq)(mg mb:k9n)(fa:ai)(o:d7)(pm cd doc:ah)(a:ai) (vs:List ah) (ns:zo),
   Ground q loose [] XP w s₀ mg mb s₁.heap->YP w s₁.heap ->
   s₁.heap.get? fa=a8 o->o.data=.func (docDef d.name d.params d.body d.scope pm cd doc)->s₁.heap.CodeRec cd d.name->mg d.name=a8 (.ref fa) ->
   s₁.heap.get? a=a8 { cls:=.type "list",data:=.seq vs.toArray }->d4 vs ns->ns.length<=n->s₁.gens = #[] ->
   bZ (aB l.prog w) i3 (.call (.ref fa) ⟨[.ref a],[]⟩) (λr s'=>r=.ok (.ret (.bool ae))/\OldK s₁.heap s'.heap/\s'.os=s₁.os/\eJ s'.gens) s₁) :
  jF q loose XP YP l.row.toRowW d [] (λf vs=>jJ f vs):=by
 intro w s₀ s₁ mg mb G Y fa o pm cd doc dV kV ho hd hcd hD hmg hg args vals as hpre hlay hrd hwl hlo;obtain rfl:dV=.none:=Dflts.none hD hdf;obtain rfl:kV=.none:=Dflts.noKw hD;obtain⟨a,vs,ns,rfl,rfl,hobj,hints,hlen⟩:=j95 hn hpre hwl;refine enter_call (bK (call w s₀ s₁ mg mb fa o pm cd doc a vs ns G Y ho (fd_plain hd) hcd hmg hobj hints hlen hg) λr s' hq=>?_);obtain⟨rfl,h2,h3,h4⟩:=hq;exact⟨.inl ⟨.bool ae,.bool ae,[],rfl,λ_=>rfl,.bool ae,j9j l _,λ_=>⟨List.Pairwise.nil,λ_ hm=>(nomatch hm)⟩⟩,h2,h3,h4⟩
end Att
namespace L2
open PySem PySem.Spec PyProof.Rows
theorem j1k:∀{vs:List ah}{ns:zo},d4 vs ns->Vals (ns.map V.int) vs
 |_,_,.nil=>.nil
 |_,_,.cons n t h=>.cons ⟨t,rfl⟩ (j1k h)
def Only(ts:List (ai×au))(H:Hp):Prop:=(∀b,H b=af\/(∃o xs,H b=a8 (.frz o (.lst xs)))\/∃q,(b,q)∈ts/\H b=a8 (.cod q))/\∀t∈ts,H t.1=a8 (.cod t.2)
def jen(ts:List (ai×au))(h:aE):Prop:=(ts.map (·.1)).Nodup/\∀t∈ts,(∃c,k6 h c t.1)/\h.get? t.1=a8 (W.tabObj #[])
theorem j69:∀{ts:List (ai×au)} {b:ai} {q:au},ts.lookup b=a8 q->(b,q)∈ts
 |p::r,b,q,h=>by
  rw[Xw]at h;cases e:b==p.1 with
  |true=>rw[e]at h;cases h;rw[beq_iff_eq.mp e];exact X6 ..
  |false=>rw[e]at h;exact xn _ (j69 h)
theorem lookup_tab:∀{ts:List (ai×au)},(ts.map (·.1)).Nodup->∀t∈ts,ts.lookup t.1=a8 t.2
 |[],_,_,h=>by cases h
 |p::r,nd,t,ht=>by
  rw[X7]at nd;rcases Xb.mp ht with e|ht
  .subst e;rw[Xw,beq_self_eq_true]
  .have ne:(t.1==p.1)=a9:=beq_eq_false_iff_ne.mpr λz=>(Xv.mp nd).1 (z▸fC ht);rw[Xw,ne];exact lookup_tab (Xv.mp nd).2 t ht
def jd0{P:az}{w:aD}{K:k9k}{mg mb:k9n}{CX:CXT}{k:Nat}{fa a:ai}{fd:aJ}{x:au}{sp:Sp}{s₁:aq}{vs:List ah}{ns:zo}{ts:List (ai×au)}
  (KX:K.In s₁.heap) (hns:s₁.heap.Ns aA mg) (hb:s₁.heap.Ns eA mb) (hbb:∀x:au,x ≠ "__name__"->mb x=fg x) (hlim:s₁.heap.NoLimit)
  (hbm:∃bm ob,mg "__builtins__" = a8 (.ref bm)/\bm≠eA/\s₁.heap.get? bm=a8 ob/\ob.cls=.type "module"/\ob.dict=a8 eA/\ob.data=.plain) (hT:jen ts s₁.heap) (hK0:W.noTabs K=ae) (hg:s₁.gens = #[])
  (ha:s₁.heap.get? a=a8 { cls:=.type "list",data:=.seq vs.toArray }) (hi:d4 vs ns) (hl:ns.length<=aw) (hr:Room k i3)
  (F:∀base:aE,K.In base->base.Ns aA mg->FnOk P w K mg base CX k fa fd [x] sp) (hbind:∀(s:aq)(u:ah),dP s fd ⟨[u],[]⟩ [(x,u)])
  (hsp:∀H:Hp,Only ts H->SqL K H a (ns.map V.int)->sp [.ref a] H (λv H'=>v=.bl ae/\∀b o,H b=a8 o->H' b=a8 o) λ_ _ _=>False)
  (hCX:∀H e s',CX [] H s₁ (λ_ _ _=>False) e s'->False) :
  bZ (aB P w) i3 (.call (.ref fa) ⟨[.ref a],[]⟩) (λr s'=>r=.ok (.ret (.bool ae))/\OldK s₁.heap s'.heap/\s'.os=s₁.os/\eJ s'.gens) s₁:=by
 have rv:=j1k hi;have lenV:=hi.length;have at_:∀{q:au}{b:ai},(b,q)∈ts->s₁.heap.get? b=a8 (W.tabObj #[]):=λ{q b} h=>(hT.2 _ h).2;have core:∀H:Hp,Only ts H->SqL K H a (ns.map V.int)->HOk P w H s₁.heap->(∀b,H b≠af->b=a\/∃q,(b,q)∈ts)->(H a≠af->K.lookup a=af) ->
   bZ (aB P w) i3 (.call (.ref fa) ⟨[.ref a],[]⟩) (λr s'=>r=.ok (.ret (.bool ae))/\OldK s₁.heap s'.heap/\s'.os=s₁.os/\eJ s'.gens) s₁:=by
  intro H hO hS hok hA hK;have base_of:∀{b:ai}{o:d7},s₁.heap.get? b=a8 o->H b=af->(Mp s₁.heap H).get? b=a8 o:=λe n=>jde e n;have noA:∀{b:ai}{o:d7},s₁.heap.get? b=a8 o->(∀vs n,o.data≠.seq vs n)->(∀vs,o.data≠.fields vs)->H b=af:=λ{b o} e d d2=>by
   cases q:H b with
   |none=>rfl
   |some u =>
    rcases hA b (by rw[q];simp)with e'|⟨q',e'⟩
    .subst e';rw[ha]at e;cases e;exact absurd rfl (d _ _)
    .rw[at_ e']at e;cases e;exact absurd rfl (d2 _)
  have nsK:∀{b:ai}{m:k9n},s₁.heap.Ns b m->(Mp s₁.heap H).Ns b m:=λ{b m} ⟨o,es,ep,e,d,r⟩=>⟨o,es,ep,base_of e (noA e (λ_ _ z=>by rw[d]at z;cases z) λ_ z=>by rw[d]at z;cases z),d,r⟩
  have hKb:K.In (Mp s₁.heap H):=λb o e=>base_of (KX b o e) (by
   cases q:H b with
   |none=>rfl
   |some u =>
    rcases hA b (by rw[q];simp)with e'|⟨q',e'⟩
    .subst e'
     rw[hK (by rw[q];simp)]at e;cases e
    .have e2:=KX b o e
     rw[at_ e']at e2
     have h2:=ph.mp hK0 (b,o) (W.mem_of_lookupK e)
     cases e2
     exact absurd (show a9=ae from h2) xq)
  have hM:Mod K mg (Mp s₁.heap H):=⟨hKb,nsK hns,⟨mb,nsK hb,hbb⟩,(let ⟨mc,h1,h2⟩:=hlim;⟨mc,nsK h1,h2⟩),
   let ⟨bm,ob,b1,b2,b3,b4,b5,b6⟩:=hbm;⟨bm,ob,b1,b2,base_of b3 (noA b3 (λ_ _ z=>by rw[b6]at z;cases z) λ_ z=>by rw[b6]at z;cases z),b4,b5,b6⟩⟩
  have e0:Env0 P w K mg (Mp s₁.heap H) i3 [] s₁ H:=⟨rfl,hM,λb o e=>jhd e,Nat.le_of_eq (jah _ _),trivial,λb hb=>absurd (show b∈([]:List ai)from hb) (by simp),hok,.of_eq hg⟩
  refine bK ((F _ hKb (nsK hns)).run i3 [] s₁ H ⟨[.ref a],[]⟩ [.ref a] [.ref a] _ _ hr e0 (hbind s₁ (.ref a)) (.cons rfl .nil) (hsp H hO hS)) λr s' h=>?_;cases r with
  |error e=>exact(hCX H e s' h).elim
  |ok fl =>
   cases fl with
   |next=>exact bU h
   |brk=>exact bU h
   |cont=>exact bU h
   |ret u =>
    obtain⟨v,H',os,bare,un,hok',r',q,sm⟩:=h;have q':v=.bl ae:=q;subst q';obtain rfl:u=bT ae:=r';have main:∀b o,s₁.heap.get? b=a8 o->s'.heap.get? b=a8 o\/((∃q,(b,q)∈ts)/\o=W.tabObj #[]/\∃ps,s'.heap.get? b=a8 (W.tabObj ps)):=λb o e=>by
     cases q:H b with
     |none=>exact .inl (un.keep b o e q (by intro z;exact absurd (show b∈([]:List ai)from z) (by simp)) (by simp))
     |some u =>
      rcases hO.1 b with z|⟨ob,xs,z⟩|⟨q',hq,z⟩
      .rw[q]at z;cases z
      .have z2:=un.frzs b ob _ z;obtain⟨e1,_⟩:=hok b _ z;obtain⟨e2,_⟩:=hok' b _ z2;rw[e]at e1;cases e1;exact .inl e2
      .obtain⟨ps,e2,_⟩:=(show jm P w H' s'.heap b (.cod q')from hok' b _ (sm b _ z))
       rw[at_ hq]at e;exact .inr ⟨⟨q',hq⟩,(ax e).symm,ps,e2⟩
    refine⟨rfl,⟨λb o e=>?_,λb o e=>?_⟩,os,bare⟩
    .rcases main b o e with z|⟨⟨q,hq⟩,rfl,ps,z⟩
     .exact .inl z
     .obtain⟨c,hc⟩:=(hT.2 _ hq).1;exact .inr (.inl ⟨(hc.tab (at_ hq)).isCodeTable,rfl,#[],ps,rfl,by rw[z,Array.empty_append]⟩)
    .rcases main b o e with z|⟨_,_,ps,z⟩
     .exact⟨o,z⟩
     .exact⟨_,z⟩
 have lkT:∀b q,ts.lookup b=a8 q->(b,q)∈ts:=λb q h=>j69 h;have ofT:∀t∈ts,ts.lookup t.1=a8 t.2:=lookup_tab hT.1;have okT:∀(H:Hp) b q,(b,q)∈ts->jm P w H s₁.heap b (.cod q):=λH b q h=>⟨#[],at_ h,trivial,λpos cv z=>by cases z⟩
 cases hk:K.lookup a with
 |some o =>
  have e:=KX a o hk;rw[ha]at e;cases e;refine core (λb=>(ts.lookup b).map HO.cod) ⟨λb=>?_,λt ht=>by show(ts.lookup t.1).map HO.cod=_;rw[ofT t ht];rfl⟩ (.inr ⟨_,vs.toArray,_,hk,rfl,rfl,rfl,by rw[Xd,lenV];exact hl,by simpa using rv⟩) (λb u z=>?_) (λb z=>?_) λz=>?_
  .cases e:ts.lookup b with
   |none=>exact .inl (by show(ts.lookup b).map HO.cod=_;rw[e];rfl)
   |some q=>exact .inr (.inr ⟨q,lkT b q e,by show(ts.lookup b).map HO.cod=_;rw[e];rfl⟩)
  .obtain⟨q,e,rfl⟩:=Pb.mp z;exact okT _ b q (lkT b q e)
  .cases e:ts.lookup b with
   |none=>exact absurd (by show(ts.lookup b).map HO.cod=_;rw[e];rfl) z
   |some q=>exact .inr ⟨q,lkT b q e⟩
  .cases e:ts.lookup a with
   |none=>exact absurd (by show(ts.lookup a).map HO.cod=_;rw[e];rfl) z
   |some q=>have:=at_ (lkT a q e);rw[ha]at this;cases this
 |none =>
  have na:∀q,(a,q)∉ts:=λq h=>by have:=at_ h;rw[ha]at this;cases this
  refine core (λb=>if b=a then a8 (.frz { cls:=.type "list",data:=.seq vs.toArray } (.lst (ns.map V.int))) else(ts.lookup b).map HO.cod) ⟨λb=>?_,λt ht=>?_⟩ (.inl (.inr ⟨{ cls:=.type "list",data:=.seq vs.toArray },if_pos rfl⟩)) (λb u z=>?_) (λb z=>?_) λ_=>hk
  .by_cases hb:b=a
   .exact .inr (.inl ⟨_,_,if_pos hb⟩)
   .cases e:ts.lookup b with
    |none=>exact .inl (by show(if b=a then _ else _)=_;rw[if_neg hb,e];rfl)
    |some q=>exact .inr (.inr ⟨q,lkT b q e,by show(if b=a then _ else _)=_;rw[if_neg hb,e];rfl⟩)
  .have nb:t.1≠a:=λz=>na t.2 (z▸ht);show(if t.1=a then _ else _)=_;rw[if_neg nb,ofT t ht];rfl
  .by_cases hb:b=a
   .have z':=(if_pos hb).symm.trans z;cases z';subst hb;exact⟨ha,by rw[xg];exact hl,vs,_,rv,ha⟩
   .have z':=(if_neg hb).symm.trans z;obtain⟨q,e,rfl⟩:=Pb.mp z';exact okT _ b q (lkT b q e)
  .by_cases hb:b=a
   .exact .inl hb
   .cases e:ts.lookup b with
    |none=>exact absurd (by show(if b=a then _ else _)=_;rw[if_neg hb,e];rfl) z
    |some q=>exact .inr ⟨q,lkT b q e⟩
def walk_of{l:dQ}{n k:Nat}{q:az}{loose:List au}{XP:(au->Option ah)->aE->Prop}{YP:aD->aE->Prop}{d:DefRec}{K:nj->k9k}{CX:aD->CXT}{sp:aD->Sp}{x:au}{ts:aD->List (ai×au)}
  (hn:l.most=a8 n) (hn2:n<=aw) (hdf:d.params.defaults=[]) (hr:Room k i3)
  (hY:∀(w:aD)(h:aE),YP w h->(K w.params).In h/\jen (ts w) h) (hK0:∀w:aD,W.noTabs (K w.params)=ae)
  (F:∀(w:aD)(mg:k9n)(fa:ai)(h:aE),(K w.params).In h->h.Ns aA mg->mg d.name=a8 (.ref fa) ->
   ∃fd:aJ,(∀(s:aq)(u:ah),dP s fd ⟨[u],[]⟩ [(x,u)]) /\
    ∀base:aE,(K w.params).In base->base.Ns aA mg->FnOk l.prog w (K w.params) mg base (CX w) k fa fd [x] (sp w))
  (hsp:∀(w:aD)(H:Hp)(a:ai)(ns:zo),ns.length<=n->Only (ts w) H->SqL (K w.params) H a (ns.map V.int)->sp w [.ref a] H (λv H'=>v=.bl ae/\∀b o,H b=a8 o->H' b=a8 o) λ_ _ _=>False)
  (hCX:∀(w:aD)(H:Hp)(s:aq)(e:ah)(s':aq),CX w [] H s (λ_ _ _=>False) e s'->False) :
  jF q loose XP YP l.row.toRowW d [] (λf vs=>jJ f vs):=by
 refine Att.attach_call hn hdf λw s₀ s₁ mg mb fa o pm cd doc a vs ns G Y ho hd hcd hmg hobj hints hlen hg=>?_;obtain⟨KX,hT⟩:=hY w _ Y;obtain⟨fd,hb,hF⟩:=F w mg fa _ KX G.T.g hmg;exact jd0 KX G.T.g G.T.b G.T.builtins G.T.nolimit G.T.bmain hT (hK0 w) hg hobj hints (Xn hlen hn2) hr hF hb (λH hO hS=>hsp w H a ns hlen hO hS) λH e s'=>hCX w H s₁ e s'
end L2
/- THE LAST THEOREM (shape;LID,My.* are yours):
 My.Adr: a structure of the addresses that your layer names (classes,functions);My.Txt K t: a structure (Prop) of the equations over K;
 My.txt_mk:{K} {implicit addresses ..} (e1:bx K aA "law" = a8 (a8 (.ref f))) (e2:K.lookup f=a8 ⟨oc,od,.func (fnOf "law" "law" params body scope dV kV doc pm an cdv ct),sl⟩) (e3:codeIn K cdv "law" = ae) ..:∃t,My.Txt K t
(the tactic k_is has no namespace: write k_is) -/
namespace L2
open PySem PySem.Spec PyProof.Rows
noncomputable def v8(s:aX):dS:=match s with
 |.FunctionDef _ a _ _ _ _ _ _ _ _=>a
 |_=>{ posonlyargs:=[],args:=[],vararg:=af,kwonlyargs:=[],kw_defaults:=[],kwarg:=af,defaults:=[] }
noncomputable def ql(s:aX):List aX:=match s with
 |.FunctionDef _ _ b _ _ _ _ _ _ _=>b
 |_=>[]
noncomputable def jn(s:aX):be:=match s with
 |.FunctionDef _ _ _ _ _ _ sc _ _ _=>sc
 |_=>{ kind:=.function,names:=[],isGenerator:=a9,isCoroutine:=a9 }
noncomputable abbrev CX0:CXT:=λ_ _ _ _ _ _=>False
noncomputable abbrev E0:XK:=λ_ _ _=>False
variable{X:Cx}
def Ii:j5i CX0 X E0:=λ_ _ _ _ _ _ _ h=>h.elim
structure Fun(K:k9k)(x qual:au)(st:aX)(f:ai)(fd:aJ):Prop where
 ex:∃(oc:ah)(od:Option ai)(dV kV doc pm:ah)(an:Option ai)(cdv ct:ah)(osl:Array (Option ah)),
  fd=W.fnOf x qual (v8 st) (ql st) (jn st) dV kV doc pm an cdv ct/\K.lookup f=a8 ⟨oc,od,.func fd,osl⟩/\W.codeIn K cdv qual=ae
 kp:W.keepIn K (.ref f)=ae
variable{f:ai}
section
variable{P:az}{w:aD}{K:k9k}{mg:k9n}{base:aE}
def Fun.binds{x qual:au}{st:aX}{kV doc pm:ah}{an:Option ai}{cdv ct:ah}{ps:List au}(F:Fun K x qual st f (W.fnOf x qual (v8 st) (ql st) (jn st) .none kV doc pm an cdv ct))
  (h:∀(kV doc pm:ah)(an:Option ai)(cdv ct:ah)(us:List ah),us.length=ps.length->fU (W.fnOf x qual (v8 st) (ql st) (jn st) .none kV doc pm an cdv ct) ⟨us,[]⟩=pure (ps.zip us)):Binds K (W.fnOf x qual (v8 st) (ql st) (jn st) .none kV doc pm an cdv ct) ps []:=.all (h kV doc pm an cdv ct)
def Ed{x qual:au}{st:aX}{oc:ah}{od an:Option ai}{osl:Array (Option ah)}{dV kV doc pm cdv ct:ah}(l:K.lookup f=a8 ⟨oc,od,.func (W.fnOf x qual (v8 st) (ql st) (jn st) dV kV doc pm an cdv ct),osl⟩)
  (c:W.codeIn K cdv qual=ae) (k:W.keepIn K (.ref f)=ae):Fun K x qual st f (W.fnOf x qual (v8 st) (ql st) (jn st) dV kV doc pm an cdv ct):=⟨⟨oc,od,dV,kV,doc,pm,an,cdv,ct,osl,rfl,l,c⟩,k⟩
end
def j4o{A B:Prop}(h:B):if a9=ae then A else B:=by rw[if_neg xq];exact h
def j4n{A B:Prop}(h:A):if ae=ae then A else B:=by rw[if_pos rfl];exact h
def j0(H H':Hp):Prop:=∀b o,H b=a8 o->H' b=a8 o
def j0.refl(H:Hp):j0 H H:=λ_ _ h=>h
variable{H H1:Hp}
def j0.trans{H2:Hp}(a:j0 H H1)(b:j0 H1 H2):j0 H H2:=λc o h=>b c o (a c o h)
variable{H':Hp}{l:ai}
def j0.free(e:j0 H H')(h:H' l=af):H l=af:=by
 cases q:H l with
 |none=>rfl
 |some o =>rw[e l o q]at h;cases h
variable{K:k9k}{a:ai}{xs:List V}
def j0.seq(e:j0 H H')(h:SqL K H a xs):SqL K H' a xs:=by
 rcases h with (h|⟨o,h⟩)|h
 .exact .inl (.inl (e _ _ h))
 .exact .inl (.inr ⟨o,e _ _ h⟩)
 .exact .inr h
set_option genInjectivity true in
inductive D where
 |non
 |bl (b:Bool)
 |int (i:Int)
 |str (x:au)
 |tup (ds:List D)
 |lst (ds:List D)
 |dct (ks:List zo) (ds:List D)
 |sct (kvs:List (au×Int))
 |fn (x:au) (cs:List D)
noncomputable def kvI(kvs:List (au×Int)):List (Key×V):=kvs.map λp=>(.inr p.1,.int p.2)
noncomputable def qg(x:au):au:=x ++ ".<locals>." ++ "<lambda>"
noncomputable abbrev Tx:=dS×av×be
noncomputable def jqc:av->Option Tx
 |.Lambda a b sc _=>a8 (a,b,sc)
 |.Call _ es _ _=>match es.getLast? with
  |some (.Lambda a b sc _)=>a8 (a,b,sc)
  |_=>af
 |_=>af
noncomputable def Ml(b:List aX):Option Tx:=match b.getLast? with
 |some (.Return (a8 e) _)=>jqc e
 |_=>af
noncomputable def Qn(K:k9k)(x:au):Option Tx:=match W.nsIn K aA x with
 |some (a8 (.ref f))=>match K.lookup f with
  |some ⟨_,_,.func fd,_⟩=>match fd.body with
   |.stmts b=>Ml b
   |_=>af
  |_=>af
 |_=>af
noncomputable def v6(sc:be):List au:=((sc.names.filter λp=>p.2==.free).map (·.1)).reverse
def vy(H:Hp):List ai->List V->Prop
 |[],vs=>vs=[]
 |c::cs,vs=>∃v r o u,vs=v::r/\H c=a8 (.frz o (.own 0))/\o.data=.cell (a8 u)/\RelV v u/\vy H cs r
theorem vy.mono{H H':Hp}(g:j0 H H'):∀{cs:List ai}{vs:List V},vy H cs vs->vy H' cs vs
 |[],_,h=>h
 |_::_,_,⟨v,r,o,u,e,h,d,rv,l⟩=>⟨v,r,o,u,e,g _ _ h,d,rv,l.mono g⟩
structure LamAt(K:k9k)(H:Hp)(x:au)(a c:ai)(t:Tx)(cl:List (au×ai))(vs:List V):Prop where
 tx:Qn K x=a8 t
 fo:∃pm ctv,H a=a8 (.frz (W.kla_obj "<lambda>" (qg x) t.1 t.2.1 t.2.2 cl pm c ctv) (.own 0))
 co:∃oc,H c=a8 (.frz oc (.own 0))/\Dg oc (qg x)
 nm:cl.map (·.1)=v6 t.2.2
 nd:(cl.map (·.2)).Nodup
 cs:vy H (cl.map (·.2)) vs
theorem LamAt.mono{K:k9k}{H H':Hp}{x:au}{a c:ai}{tx:Tx}{cl:List (au×ai)}{vs:List V}(g:j0 H H')(h:LamAt K H x a c tx cl vs):LamAt K H' x a c tx cl vs :=
 ⟨h.tx,let ⟨pm,ctv,e⟩:=h.fo;⟨pm,ctv,g _ _ e⟩,let ⟨oc,e,q⟩:=h.co;⟨oc,g _ _ e,q⟩,h.nm,h.nd,h.cs.mono g⟩
noncomputable def del(H:Hp)(A:List ai):Hp:=λb=>if b∈A then af else H b
section
variable{H H' F:Hp}{A A':List ai}{a b:ai}{o:HO}
def qy(h:b∈A):del H A b=af:=if_pos h
def j5(h:b∉A):del H A b=H b:=if_neg h
def of_del(h:del H A b=a8 o):b∉A/\H b=a8 o:=by
 by_cases e:b∈A
 .rw[qy e]at h;cases h
 .rw[j5 e]at h;exact⟨e,h⟩
def jg(g:j0 H H'):j0 (del H A) (del H' A):=λb o h=>by obtain⟨n,e⟩:=of_del h;rw[j5 n];exact g b o e
end
def j0.seqT(e:j0 H H')(h:SqT K H a xs):SqT K H' a xs:=by
 rcases h with (h|⟨o,h⟩)|h
 .exact .inl (.inl (e _ _ h))
 .exact .inl (.inr ⟨o,e _ _ h⟩)
 .exact .inr h
mutual
def Enc(K:k9k)(H:Hp):D->V->Prop
 |.non,v=>v=.non
 |.bl b,v=>v=.bl b
 |.int i,v=>v=.int i
 |.str x,v=>v=.str x
 |.tup ds,v=>∃a xs,v=.ref a/\SqT K H a xs/\j4 K H ds xs
 |.lst ds,v=>∃a xs,v=.ref a/\SqL K H a xs/\j4 K H ds xs
 |.dct ks ds,v=>∃(a:ai)(xs:List (zo×ai×ah)) (ep:Nat) (vs:List V),v=.ref a/\H a=a8 (.dI xs ep)/\ks=(xs.map λx=>x.1)/\(∀x∈xs,SqT K H x.2.1 (x.1.map V.int))/\Vals vs (xs.map λx=>x.2.2)/\j4 K H ds vs
 |.sct kvs,v=>∃a:ai,v=.ref a/\H a=a8 (.dK (kvI kvs))
 |.fn x ds,v=>∃(a c:ai)(tx:Tx)(cl:List (au×ai)) (vs:List V),v=.ref a/\LamAt K H x a c tx cl vs/\j4 K (del H (cl.map (·.2))) ds vs
def j4(K:k9k)(H:Hp):List D->List V->Prop
 |[],xs=>xs=[]
 |d::ds,xs=>∃x r,xs=x::r/\Enc K H d x/\j4 K H ds r
end
mutual
theorem Enc.mono{K:k9k}{H H':Hp}(g:j0 H H'):∀{d:D}{v:V},Enc K H d v->Enc K H' d v
 |.non,_,h=>h
 |.bl _,_,h=>h
 |.int _,_,h=>h
 |.str _,_,h=>h
 |.tup _,_,⟨a,xs,e,q,l⟩=>⟨a,xs,e,g.seqT q,j4.mono g l⟩
 |.lst _,_,⟨a,xs,e,q,l⟩=>⟨a,xs,e,g.seq q,j4.mono g l⟩
 |.dct _ _,_,⟨a,xs,ep,vs,e,q,ek,kt,rv,l⟩=>⟨a,xs,ep,vs,e,g _ _ q,ek,λx hx=>g.seqT (kt x hx),rv,j4.mono g l⟩
 |.sct _,_,⟨a,e,q⟩=>⟨a,e,g _ _ q⟩
 |.fn _ _,_,⟨a,c,tx,cl,vs,e,q,l⟩=>⟨a,c,tx,cl,vs,e,q.mono g,j4.mono (jg g) l⟩
theorem j4.mono{K:k9k}{H H':Hp}(g:j0 H H'):∀{ds:List D}{xs:List V},j4 K H ds xs->j4 K H' ds xs
 |[],_,h=>h
 |_::_,_,⟨x,r,e,h,l⟩=>⟨x,r,e,Enc.mono g h,j4.mono g l⟩
end
section
variable{K:k9k}{H H':Hp}{ds ds':List D}{xs ys:List V}
theorem j4.length:∀{ds:List D}{xs:List V},j4 K H ds xs->xs.length=ds.length
 |[],_,h=>by cases h;rfl
 |_::_,_,⟨x,r,e,_,l⟩=>by subst e;simp[j4.length l]
theorem j4.get:∀{ds:List D}{xs:List V}{i:Nat}{d:D},j4 K H ds xs->ds[i]?=a8 d->∃x,xs[i]?=a8 x/\Enc K H d x
 |[],_,i,d,_,e=>by simp at e
 |_::_,_,0,d,⟨x,r,e,h,_⟩,q=>by subst e;simp at q;subst q;exact⟨x,rfl,h⟩
 |_::_,_,i+1,d,⟨x,r,e,_,l⟩,q=>by subst e;simp at q;obtain⟨y,hy,hd⟩:=j4.get l q;exact⟨y,by simpa using hy,hd⟩
theorem j4.get':∀{ds:List D}{xs:List V}{i:Nat}{x:V},j4 K H ds xs->xs[i]?=a8 x->∃d,ds[i]?=a8 d/\Enc K H d x
 |[],_,i,d,h,e=>by cases h;simp at e
 |d::_,_,0,y,⟨x,r,e,h,_⟩,q=>by subst e;simp at q;subst q;exact⟨d,rfl,h⟩
 |_::_,_,i+1,y,⟨x,r,e,_,l⟩,q=>by subst e;simp at q;obtain⟨y,hy,hd⟩:=j4.get' l q;exact⟨y,by simpa using hy,hd⟩
theorem j4.append:∀{ds ds':List D}{xs ys:List V},j4 K H ds xs->j4 K H ds' ys->j4 K H (ds++ds') (xs++ys)
 |[],_,_,_,h,h'=>by cases h;exact h'
 |_::_,_,_,_,⟨x,r,e,h,l⟩,h'=>by subst e;exact⟨x,_,rfl,h,j4.append l h'⟩
def j4.one{d:D}{x:V}(h:Enc K H d x):j4 K H [d] [x]:=⟨x,[],rfl,h,rfl⟩
theorem j4.set:∀{ds:List D}{xs:List V}{i:Nat}{d:D}{x:V},j4 K H ds xs->Enc K H d x->j4 K H (ds.set i d) (xs.set i x)
 |[],_,i,d,x,h,_=>by cases h;exact rfl
 |_::_,_,0,d,y,⟨x,r,e,h,l⟩,q=>by subst e;exact⟨y,r,rfl,q,l⟩
 |_::_,_,i+1,d,y,⟨x,r,e,h,l⟩,q=>by subst e;exact⟨x,_,rfl,h,j4.set l q⟩
theorem j4.take:∀{ds:List D}{xs:List V}(n:Nat),j4 K H ds xs->j4 K H (ds.take n) (xs.take n)
 |[],_,n,h=>by cases h;simp;exact rfl
 |_::_,_,0,⟨x,r,e,h,l⟩=>by simp;exact rfl
 |_::_,_,n+1,⟨x,r,e,h,l⟩=>by subst e;exact⟨x,_,rfl,h,j4.take n l⟩
theorem j4.drop:∀{ds:List D}{xs:List V}(n:Nat),j4 K H ds xs->j4 K H (ds.drop n) (xs.drop n)
 |[],_,n,h=>by cases h;simp;exact rfl
 |_::_,_,0,h=>h
 |_::_,_,n+1,⟨x,r,e,h,l⟩=>by subst e;exact j4.drop n l
theorem j4.rep{ds:List D}{xs:List V}(h:j4 K H ds xs):∀k:Nat,j4 K H (ak k ds).flatten (ak k xs).flatten
 |0=>rfl
 |k+1=>by rw[Ph,Ph,Td,Td];exact h.append (j4.rep h k)
def j4.ints(ns:zo):j4 K H (ns.map D.int) (ns.map V.int):=by
 induction ns with
 |nil=>exact rfl
 |cons n ns ih=>exact⟨_,_,rfl,rfl,ih⟩
end
section
variable{H H' F:Hp}{A A':List ai}{a b:ai}{o:HO}
def Qd:del H []=H:=funext λb=>if_neg (by simp)
def jw:j0 (del H A) H:=λ_ _ h=>(of_del h).2
def Jh(h:∀b,b∈A'->b∈A):j0 (del H A) (del H A'):=λb o e=>by obtain⟨n,e⟩:=of_del e;rw[j5 λz=>n (h b z)];exact e
def Up(h:a∈A):del (upd H a o) A=del H A:=funext λb=>by
 by_cases e:b∈A
 .rw[qy e,qy e]
 .rw[j5 e,j5 e,jk];rintro rfl;exact e h
noncomputable def mrg(A:List ai)(H F:Hp):Hp:=λb=>if b∈A then H b else F b
def Jj(h:b∈A):mrg A H F b=H b:=if_pos h
def jr(h:b∉A):mrg A H F b=F b:=if_neg h
def Uq(h:∀a∈A,F a=af):del (mrg A H F) A=F:=funext λb=>by
 by_cases e:b∈A
 .rw[qy e,h b e]
 .rw[j5 e,jr e]
def Cy(g:j0 (del H A) F):j0 H (mrg A H F):=λb o e=>by
 by_cases z:b∈A
 .rw[Jj z];exact e
 .rw[jr z];exact g b o (by rw[j5 z];exact e)
def j6(h:H a=af):j0 H (upd H a o):=λb u q=>by rw[jk (v9 q h)];exact q
end
def Hd(o:Option HO):Prop:=(∃xs,o=a8 (.lst xs))\/∃xs ep,o=a8 (.dI xs ep)
def Hq(o:Option HO):Prop:=(∃xs,o=a8 (.lst xs))\/(∃xs ep,o=a8 (.dI xs ep))\/∃kvs,o=a8 (.dK kvs)
def Hd.q{o:Option HO}(h:Hd o):Hq o:=h.elim .inl λh=>.inr (.inl h)
section
variable{X:Cx}{pins:k9m}{σ σ':St}{H F:Hp}{s s':aq}{A:List ai}
def Inv.noFs(I:Inv X pins σ H s){b:ai}(hb:b∈X.fs):H b=af:=by
 have q:b∈frs X.stack:=by
  rcases I.ok.stk with e|⟨e,_⟩
  .rw[e];exact hb
  .rw[e];have hb:b∈frs X.outer:=hb;unfold frs at hb ⊢;rw[cz];split
   .exact hb
   .exact xn _ hb
 exact I.stkFree b q
def Inv.hideQ(I:Inv X pins σ H s)(hA:∀a∈A,Hq (H a)):Inv X (pins++Vl A s.heap) σ (del H A) s where
 ok:=I.ok
 os:=I.os
 bare:=I.bare
 base:={
  keep:=I.base.keep
  slot:=I.base.slot
  free:=λb o e n hx=>by
   have q:=I.base.free b o e n hx
   by_cases z:b∈A
   .exact qy z
   .rw[j5 z];exact q
  there:=I.base.there
  tups:=λb xs e=>by
   have q:=I.base.tups b xs e
   rw[j5];exact q
   intro z;rcases hA b z with ⟨ys,e'⟩|⟨ys,ep,e'⟩|⟨ys,e'⟩<;>(rw[q]at e';cases e')
  frzs:=λb o u e=>by
   have q:=I.base.frzs b o u e
   rw[j5];exact q
   intro z;rcases hA b z with ⟨ys,e'⟩|⟨ys,ep,e'⟩|⟨ys,e'⟩<;>(rw[q]at e';cases e')
  tbls:=λb ps e=>by
   obtain⟨more,q⟩:=I.base.tbls b ps e
   refine⟨more,?_⟩
   rw[j5];exact q
   intro z;rcases hA b z with ⟨ys,e'⟩|⟨ys,ep,e'⟩|⟨ys,e'⟩<;>(rw[q]at e';cases e') }
 loc:=I.loc
 cell:=I.cell
 free:=by
  by_cases z:X.env.locals∈A
  .exact qy z
  .rw[j5 z];exact I.free
 freeC:=λx c e=>by
  by_cases z:c∈A
  .exact qy z
  .rw[j5 z];exact I.freeC x c e
 pin:=λp hp=>by
  rw[<-t8]at hp;rcases P0.mp hp with hp|hp
  .obtain⟨h1,h2,h3⟩:=I.pin p hp;refine⟨h1,?_,h3⟩;by_cases z:p.1∈A
   .exact qy z
   .rw[j5 z];exact h2
  .obtain⟨h1,h2⟩:=j1y hp;rcases hA _ h1 with ⟨xs,e⟩|⟨xs,ep,e⟩|⟨xs,e⟩
   .refine⟨h2,qy h1,λz=>?_,λz=>?_,λv z=>?_⟩
    .rw[z,I.free]at e;cases e
    .rw[I.noFs z]at e;cases e
    .obtain⟨_,its,n,_,q⟩:=(show jm X.prog X.w H s.heap p.1 (.lst xs)from I.hok _ _ e)
     rw[h2]at q;rw[ax q]at z;cases z
   .refine⟨h2,qy h1,λz=>?_,λz=>?_,λv z=>?_⟩
    .rw[z,I.free]at e;cases e
    .rw[I.noFs z]at e;cases e
    .obtain⟨_,_,_,ob,es,q,_,qd,_⟩:=(show jm X.prog X.w H s.heap p.1 (.dI xs ep)from I.hok _ _ e)
     rw[h2]at q;rw[ax q,qd]at z;cases z
   .refine⟨h2,qy h1,λz=>?_,λz=>?_,λv z=>?_⟩
    .rw[z,I.free]at e;cases e
    .rw[I.noFs z]at e;cases e
    .obtain⟨_,_,vs,_,ob,es,ep,q,_,qd,_⟩:=(show jm X.prog X.w H s.heap p.1 (.dK xs)from I.hok _ _ e)
     rw[h2]at q;rw[ax q,qd]at z;cases z
 hok:=λa o e=>by
  obtain⟨n,e⟩:=of_del e;refine jm.stay (I.hok a o e) (λb u _ q=>q) (λb q=>?_) (λb xs q=>?_) (λb _ _ q=>?_)
  .rw[j5];exact q;intro z;rcases hA b z with ⟨ys,e'⟩|⟨ys,ep,e'⟩|⟨ys,e'⟩<;>(rw[q]at e';cases e')
  .rw[j5];exact q;intro z;rcases hA b z with ⟨ys,e'⟩|⟨ys,ep,e'⟩|⟨ys,e'⟩<;>(rw[q]at e';cases e')
  .rw[j5];exact q;intro z;rcases hA b z with ⟨ys,e'⟩|⟨ys,ep,e'⟩|⟨ys,e'⟩<;>(rw[q]at e';cases e')
 len:=I.len
def Inv.unhideQ(I0:Inv X pins σ H s)(hA:∀a∈A,Hq (H a))(I:Inv X (pins++Vl A s.heap) σ' F s') :
  (∀a∈A,F a=af)/\Inv X pins σ' (mrg A H F) s':=by
 have pinned:∀a∈A,∃o,s.heap.get? a=a8 o/\s'.heap.get? a=a8 o/\F a=af:=λa ha=>by
  have ob:∃o,s.heap.get? a=a8 o:=by
   rcases hA a ha with ⟨xs,e⟩|⟨xs,ep,e⟩|⟨xs,e⟩
   .obtain⟨_,its,n,_,q⟩:=(show jm X.prog X.w H s.heap a (.lst xs)from I0.hok _ _ e)
    exact⟨_,q⟩
   .obtain⟨_,_,_,o,es,q,_⟩:=(show jm X.prog X.w H s.heap a (.dI xs ep)from I0.hok _ _ e)
    exact⟨_,q⟩
   .obtain⟨_,_,_,_,o,es,ep,q,_⟩:=(show jm X.prog X.w H s.heap a (.dK xs)from I0.hok _ _ e)
    exact⟨_,q⟩
  obtain⟨o,q⟩:=ob;obtain⟨h1,h2,_⟩:=I.pin (a,_) (Xo _ (Xo _ (Zq ha q)));exact⟨_,q,h1,h2⟩
 have hF:∀a∈A,F a=af:=λa ha=>let ⟨_,_,_,q⟩:=pinned a ha;q;have out:∀{b:ai}{o:HO},F b=a8 o->b∉A:=λ{b o} e z=>by rw[hF b z]at e;cases e
 refine⟨hF,?_⟩;exact{
  ok:=I.ok
  os:=I.os
  bare:=I.bare
  base:={
   keep:=I.base.keep
   slot:=I.base.slot
   free:=λb o e n hx=>by
    by_cases z:b∈A
    .rw[Jj z];exact I0.base.free b o e n hx
    .rw[jr z];exact I.base.free b o e n hx
   there:=I.base.there
   tups:=λb xs e=>by
    have q:=I.base.tups b xs e
    rw[jr (out q)];exact q
   frzs:=λb o u e=>by
    have q:=I.base.frzs b o u e
    rw[jr (out q)];exact q
   tbls:=λb ps e=>by
    obtain⟨more,q⟩:=I.base.tbls b ps e
    exact⟨more,by rw[jr (out q)];exact q⟩ }
  loc:=I.loc
  cell:=I.cell
  free:=by
   by_cases z:X.env.locals∈A
   .rw[Jj z];exact I0.free
   .rw[jr z];exact I.free
  freeC:=λx c e=>by
   by_cases z:c∈A
   .rw[Jj z];exact I0.freeC x c e
   .rw[jr z];exact I.freeC x c e
  pin:=λp hp=>by
   obtain⟨h1,h2,h3⟩:=I.pin p (by rw[<-t8];exact Tj _ hp)
   refine⟨h1,?_,h3⟩
   by_cases z:p.1∈A
   .rw[Jj z];exact(I0.pin p hp).2.1
   .rw[jr z];exact h2
  hok:=λa o e=>by
   by_cases z:a∈A
   .rw[Jj z]at e
    obtain⟨o',q1,q2,_⟩:=pinned a z
    rcases hA a z with ⟨xs,e'⟩|⟨xs,ep,e'⟩|⟨xs,e'⟩
    .rw[e']at e;cases e
     obtain⟨hl,its,n,r,q⟩:=(show jm X.prog X.w H s.heap a (.lst xs)from I0.hok _ _ e')
     rw[q]at q1;cases q1
     exact⟨hl,its,n,r,q2⟩
    .rw[e']at e;cases e
     obtain⟨z1,z2,z3,ob,es,q,z4⟩:=(show jm X.prog X.w H s.heap a (.dI xs ep)from I0.hok _ _ e')
     rw[q]at q1;cases q1
     exact⟨z1,z2,z3,_,es,q2,z4⟩
    .rw[e']at e;cases e
     obtain⟨z1,z2,vs,z3,ob,es,ep,q,z4⟩:=(show jm X.prog X.w H s.heap a (.dK xs)from I0.hok _ _ e')
     rw[q]at q1;cases q1
     exact⟨z1,z2,vs,z3,_,es,ep,q2,z4⟩
   .rw[jr z]at e
    refine jm.stay (I.hok a o e) (λb u _ q=>q) (λb q=>?_) (λb xs q=>?_) (λb _ _ q=>?_)
    .rw[jr (out q)];exact q
    .rw[jr (out q)];exact q
    .rw[jr (out q)];exact q
  len:=I.len }
def Inv.hide(I:Inv X pins σ H s)(hA:∀a∈A,Hd (H a)):Inv X (pins++Vl A s.heap) σ (del H A) s:=I.hideQ λa h=>(hA a h).q
def Inv.unhide(I0:Inv X pins σ H s)(hA:∀a∈A,Hd (H a))(I:Inv X (pins++Vl A s.heap) σ' F s'):(∀a∈A,F a=af)/\Inv X pins σ' (mrg A H F) s':=I0.unhideQ (λa h=>(hA a h).q) I
end
def Jw(X:Cx)(e:av):TE:=λσ H Q=>∀pins s,Inv X pins σ H s->ay (aB X.prog X.w) X.A (aC e X.env) (EP X pins σ Q) X.xe s
def jc4(X:Cx)(e:av):TT:=λσ H Q=>∀pins s,Inv X pins σ H s->ay (aB X.prog X.w) X.A (gH e X.env (aC e X.env)) (TP X pins σ Q) X.xe s
def Cw(X:Cx)(es:List av):TA:=λσ H Q=>∀pos pins s,Inv X pins σ H s->ay (aB X.prog X.w) X.A (iL (aR pos (aj es X.env))) (AP X pins σ Q) X.xe s
def jc5(X:Cx)(st:aX):TS:=λD σ H=>∀pins s,Inv X pins σ H s->ay (aB X.prog X.w) X.A (exec st X.env) (SP X pins D) X.xe s
def Yo(X:Cx)(sts:List aX):TS:=λD σ H=>∀pins s,Inv X pins σ H s->ay (aB X.prog X.w) X.A (execs sts X.env) (SP X pins D) X.xe s
def Cu(X:Cx)(tg iter:av):TI:=λσ H R=>∀pins s,Inv X pins σ H s ->
 ay (aB X.prog X.w) X.A (aC iter X.env) (λv s1=>ay (aB X.prog X.w) X.A (iW v) (PIE X pins σ tg R) X.xe s1) X.xe s
variable{A:List ai}{R:It->Hp->Prop}
section
variable{X:Cx}{e tg:av}{es:List av}{st:aX}{sts:List aX}{σ:St}{H:Hp}
def peS:PE X e (Jw X e):=λpins s _ _ _ I h=>h pins s I
def ptS:PT X e (jc4 X e):=λpins s _ _ _ I h=>h pins s I
def paS:PA X es (Cw X es):=λpos pins s _ _ _ I h=>h pos pins s I
def psS:PS X st (jc5 X st):=λpins s _ _ _ I h=>h pins s I
def j0l:PSs X sts (Yo X sts):=λpins s _ _ _ I h=>h pins s I
def piS:PI X tg e (Cu X tg e):=λpins s _ _ _ I h=>h pins s I
def PE.to{t:TE}(h:PE X e t){Q:VK}(q:t σ H Q):Jw X e σ H Q:=λpins s I=>h pins s σ H Q I q
def PT.to{t:TT}(h:PT X e t){Q:Bool->Hp->Prop}(q:t σ H Q):jc4 X e σ H Q:=λpins s I=>h pins s σ H Q I q
def PA.to{t:TA}(h:PA X es t){Q:List V->Hp->Prop}(q:t σ H Q):Cw X es σ H Q:=λpos pins s I=>h pos pins s σ H Q I q
def PS.to{t:TS}(h:PS X st t){D:Ends}(q:t D σ H):jc5 X st D σ H:=λpins s I=>h pins s σ H D I q
def PSs.to{t:TS}(h:PSs X sts t){D:Ends}(q:t D σ H):Yo X sts D σ H:=λpins s I=>h pins s σ H D I q
def PI.to{t:TI}(h:PI X tg e t)(q:t σ H R):Cu X tg e σ H R:=λpins s I=>h pins s σ H R I q
def j5q{Q Q':VK}(hA:∀a∈A,Hq (H a))(h:Jw X e σ (del H A) Q')(hq:∀v F,Q' v F->(∀a∈A,F a=af)->Q v (mrg A H F)):Jw X e σ H Q :=
 λpins s I=>thn (h _ s (I.hideQ hA)) λv s' ⟨x,F,I',r,q⟩=>let ⟨n,I2⟩:=I.unhideQ hA I';⟨x,_,I2,r,hq x F q n⟩
def j7m{Q Q':VK}(hA:∀a∈A,Hd (H a))(h:Jw X e σ (del H A) Q')(hq:∀v F,Q' v F->(∀a∈A,F a=af)->Q v (mrg A H F)):Jw X e σ H Q:=j5q (λa h=>(hA a h).q) h hq
def j5p{R':It->Hp->Prop}(hA:∀a∈A,Hq (H a))(h:Cu X tg e σ (del H A) R')(hq:∀J F,R' J F->(∀a∈A,F a=af)->R J (mrg A H F)):Cu X tg e σ H R :=
 λpins s I=>thn (h _ s (I.hideQ hA)) λv s' h1=>thn h1 λitv s2 ⟨it,fp,tn,J,F,e,I',T,t0,fk,q⟩=>by
  obtain⟨n,I2⟩:=I.unhideQ hA I';refine⟨it,fp,tn,J,_,e,I2,T,t0,λb hb=>?_,hq J F q n⟩;obtain⟨f0,f1,f2,f3,f4,f5⟩:=fk b hb;refine⟨?_,f1,f2,f3,f4,λp hp=>f5 p (by rw[<-t8];exact Tj _ hp)⟩;by_cases z:b∈A
  .exfalso;have ob:∃o,s.heap.get? b=a8 o:=by
    rcases hA b z with ⟨xs,e⟩|⟨xs,ep,e⟩|⟨xs,e⟩
    .obtain⟨_,its,n,_,q⟩:=(show jm X.prog X.w H s.heap b (.lst xs)from I.hok _ _ e)
     exact⟨_,q⟩
    .obtain⟨_,_,_,o,es,q,_⟩:=(show jm X.prog X.w H s.heap b (.dI xs ep)from I.hok _ _ e)
     exact⟨_,q⟩
    .obtain⟨_,_,_,_,o,es,ep,q,_⟩:=(show jm X.prog X.w H s.heap b (.dK xs)from I.hok _ _ e)
     exact⟨_,q⟩
   obtain⟨o,q⟩:=ob;exact f5 (b,o) (Xo _ (Xo _ (Zq z q))) rfl
  .rw[jr z];exact f0
def Kw{R':It->Hp->Prop}(hA:∀a∈A,Hd (H a))(h:Cu X tg e σ (del H A) R')(hq:∀J F,R' J F->(∀a∈A,F a=af)->R J (mrg A H F)):Cu X tg e σ H R:=j5p (λa h=>(hA a h).q) h hq
end
inductive Sl where
 |un
 |val (d:D)
 |own (a:ai) (ds:List D)
 |raw (a:ai) (o:d7) (x:au)
noncomputable abbrev Rho:=List Sl
noncomputable def Sl.addr:Sl->Option ai
 |.own a _=>a8 a
 |_=>af
noncomputable def owns(ρ:Rho):List ai:=ρ.filterMap Sl.addr
variable{ρ:Rho}{i:Nat}{ds:List D}
def Ql(h:ρ[i]?=a8 (.own a ds)):a∈owns ρ:=Sq.mpr ⟨_,Xp h,rfl⟩
def Yq(h:a∈owns ρ):∃(i:Nat)(ds:List D),ρ[i]?=a8 (.own a ds):=by
 obtain⟨s,hs,e⟩:=Sq.mp h;obtain⟨i,hi⟩:=List.mem_iff_getElem?.mp hs;cases s with
 |own b ds=>cases e;exact⟨i,ds,hi⟩
 |un=>cases e
 |val d=>cases e
 |raw b o x=>cases e
def q8(s:Sl)(ρ:Rho):owns (s::ρ)=(match s.addr with|some a=>a::owns ρ|none=>owns ρ):=by unfold owns;rw[cz];cases s.addr<;>rfl
theorem qe{s:Sl}(hs:s.addr=af):∀{ρ:Rho}{i:Nat},(owns (ρ.set i s)).Sublist (owns ρ)
 |[],_=>df _
 |x::r,0=>by
  rw[T3,q8,q8,hs];cases x.addr with
  |none=>exact df _
  |some a=>exact List.sublist_cons_self _ _
 |x::r,i+1=>by
  rw[Pz,q8,q8];have ih:=qe hs (ρ:=r) (i:=i);cases x.addr with
  |none=>exact ih
  |some a=>exact ih.cons_cons a
theorem V6{a:ai}{ds ds':List D}:∀{ρ:Rho}{i:Nat},ρ[i]?=a8 (.own a ds)->owns (ρ.set i (.own a ds'))=owns ρ
 |[],_,h=>by simp at h
 |x::r,0,h=>by simp at h;subst h;rw[T3,q8,q8];rfl
 |x::r,i+1,h=>by simp at h;rw[Pz,q8,q8,V6 h]
theorem Dq{s:Sl}(hs:s.addr=af):∀{ρ:Rho}{i:Nat},(∀a l,ρ[i]?≠a8 (.own a l))->owns (ρ.set i s)=owns ρ
 |[],_,_=>rfl
 |x::r,0,h=>by
  rw[T3,q8,q8,hs];cases x with
  |own a l=>exact absurd rfl (h a l)
  |un=>rfl
  |val d=>rfl
  |raw a o x=>rfl
 |x::r,i+1,h=>by rw[Pz,q8,q8,Dq hs (λa l=>by simpa using h a l)]
theorem Q7{a:ai}{ds:List D}:∀{ρ:Rho}{i:Nat},(owns ρ).Nodup->a∉owns ρ->(owns (ρ.set i (.own a ds))).Nodup/\∀b∈owns (ρ.set i (.own a ds)),b=a\/b∈owns ρ
 |[],_,n,_=>⟨n,λb hb=>.inr hb⟩
 |x::r,0,n,h=>by
  rw[T3,q8];rw[q8]at n h;have e:(Sl.own a ds).addr=a8 a:=rfl;rw[e];cases q:x.addr with
  |none =>rw[q]at n h;exact⟨Xv.mpr ⟨h,n⟩,λb hb=>(Xb.mp hb).elim .inl λz=>.inr (by rw[q8,q];exact z)⟩
  |some c =>rw[q]at n h;exact⟨Xv.mpr ⟨λz=>h (xn _ z),(Xv.mp n).2⟩,λb hb=>(Xb.mp hb).elim .inl λz=>.inr (by rw[q8,q];exact xn _ z)⟩
 |x::r,i+1,n,h=>by
  rw[Pz,q8];rw[q8]at n h;cases q:x.addr with
  |none =>rw[q]at n h;obtain⟨i1,i2⟩:=Q7 (ds:=ds) (i:=i) n h;exact⟨i1,λb hb=>(i2 b hb).elim .inl λz=>.inr (by rw[q8,q];exact z)⟩
  |some c =>
   rw[q]at n h;obtain⟨n1,n2⟩:=Xv.mp n;obtain⟨i1,i2⟩:=Q7 (ds:=ds) (i:=i) n2 (λz=>h (xn _ z));refine⟨Xv.mpr ⟨λz=>?_,i1⟩,λb hb=>?_⟩
   .rcases i2 c z with e|z
    .subst e;exact h (X6 ..)
    .exact n1 z
   .rcases Xb.mp hb with e|z
    .exact .inr (by rw[q8,q];exact e▸X6 ..)
    .exact(i2 b z).elim .inl λz=>.inr (by rw[q8,q];exact xn _ z)
theorem Ux{a:ai}{l l':List D}:∀{ρ:Rho}{i j:Nat},(owns ρ).Nodup->ρ[i]?=a8 (.own a l)->ρ[j]?=a8 (.own a l')->i=j
 |[],i,_,_,h,_=>by simp at h
 |x::r,0,0,_,_,_=>rfl
 |x::r,0,j+1,n,h,h'=>by simp at h h';subst h;rw[q8]at n;exact absurd (Ql h') (Xv.mp n).1
 |x::r,i+1,0,n,h,h'=>by simp at h h';subst h';rw[q8]at n;exact absurd (Ql h) (Xv.mp n).1
 |x::r,i+1,j+1,n,h,h'=>by
  simp at h h';have n':(owns r).Nodup:=by
   rw[q8]at n;cases q:x.addr with
   |none=>rw[q]at n;exact n
   |some c=>rw[q]at n;exact(Xv.mp n).2
  rw[Ux n' h h']
noncomputable def Vn:List au:=["worst_cost_of_ask","least_numbers","whole_cost_of_ask","round_numbers"]
def TabOk(K:k9k)(H:Hp):Prop:=∀x∈Vn,∀c P,W.tabIn K x=a8 (c,P)->H P=a8 (.cod (qg x))
section
variable{K:k9k}{H H':Hp}
def TabOk.mono(h:TabOk K H)(g:j0 H H'):TabOk K H':=λx hx c P e=>g _ _ (h x hx c P e)
theorem TabOk.upd{a:ai}{o u:HO}(h:TabOk K H)(e:H a=a8 u)(n:∀q,u≠.cod q):TabOk K (upd H a o):=λx hx c P z=>by have q:=h x hx c P z;rw[jk];exact q;intro y;subst y;rw[e]at q;exact n _ (ax q)
theorem TabOk.del{A:List ai}(h:TabOk K H)(hA:∀a∈A,∃xs,H a=a8 (.lst xs)):TabOk K (del H A):=λx hx c P z=>by have q:=h x hx c P z;rw[j5];exact q;intro y;obtain⟨xs,e⟩:=hA _ y;rw[q]at e;cases e
end
noncomputable def rfN:au:="@"
def j3b(K:k9k)(F:Hp)(a:ai)(o:d7)(x:au):Prop:=x=rfN\/(F a=a8 (.frz o (.own a))/\W.nsIn K aA x=a8 (a8 o.cls))
def j3b.mono{F F':Hp}{o:d7}{x:au}(h:j3b K F a o x)(g:j0 F F'):j3b K F' a o x:=h.elim .inl λh=>.inr ⟨g _ _ h.1,h.2⟩
structure Rep(K:k9k)(ρ:Rho)(σ:St)(H:Hp):Prop where
 len:σ.length=ρ.length
 val:∀(i:Nat)(d:D),ρ[i]?=a8 (.val d)->∃v,σ[i]?=a8 (a8 v)/\Enc K (del H (owns ρ)) d v
 own:∀(i:Nat)(a:ai)(ds:List D),ρ[i]?=a8 (.own a ds)->σ[i]?=a8 (a8 (.ref a))/\∃xs,H a=a8 (.lst xs)/\j4 K (del H (owns ρ)) ds xs
 nd:(owns ρ).Nodup
 raw:∀(i:Nat)(a:ai)(o:d7)(x:au),ρ[i]?=a8 (.raw a o x)->σ[i]?=a8 (a8 (.ref a))/\j3b K (del H (owns ρ)) a o x
 tb:TabOk K H
variable{α:Type}
section
variable{K:k9k}{ρ ρ':Rho}{σ:St}{H H':Hp}{i:Nat}{d:D}{v:V}{a:ai}{ds ds':List D}{xs:List V}
def Rep.owned(R:Rep K ρ σ H):∀a∈owns ρ,∃xs,H a=a8 (.lst xs):=λa h=>by obtain⟨i,ds,e⟩:=Yq h;obtain⟨_,xs,q,_⟩:=R.own i a ds e;exact⟨xs,q⟩
def Rep.fresh(R:Rep K ρ σ H)(h:H a=af):a∉owns ρ:=λz=>by obtain⟨xs,e⟩:=R.owned a z;rw[h]at e;cases e
def Rep.grow(R:Rep K ρ σ H)(g:j0 H H'):Rep K ρ σ H' :=
 ⟨R.len,λi d e=>let ⟨v,q,h⟩:=R.val i d e;⟨v,q,h.mono (jg g)⟩,λi a ds e=>let ⟨q,xs,h,l⟩:=R.own i a ds e;⟨q,xs,g _ _ h,l.mono (jg g)⟩,R.nd,λi a o x e=>let ⟨q,h⟩:=R.raw i a o x e;⟨q,h.mono (jg g)⟩,R.tb.mono g⟩
def getElem?_set_of{l:List α}{i j:Nat}{x y:α}(h:(l.set i x)[j]?=a8 y):(i=j/\y=x/\i<l.length)\/(i≠j/\l[j]?=a8 y):=by
 rw[cP]at h;split at h
 .rename_i e;subst e;split at h
  .rename_i z;cases h;exact .inl ⟨rfl,rfl,z⟩
  .cases h
 .rename_i e;exact .inr ⟨e,h⟩
def Uv{l:List α}{i:Nat}{x:α}(h:i<l.length):(l.set i x)[i]?=a8 x:=by simp[h]
def zq{l:List α}{i j:Nat}{x:α}(h:i≠j):(l.set i x)[j]?=l[j]?:=by simp[h]
def Rep.set_val(R:Rep K ρ σ H)(e:Enc K (del H (owns ρ)) d v):Rep K (ρ.set i (.val d)) (σ.set i (a8 v)) H:=by
 have sub:(owns (ρ.set i (.val d))).Sublist (owns ρ):=qe rfl;have g:j0 (del H (owns ρ)) (del H (owns (ρ.set i (.val d)))):=Jh λb hb=>sub.subset hb;refine⟨by simp[R.len],λj d' h=>?_,λj a ds h=>?_,sub.nodup R.nd,λj a o x h=>?_,R.tb⟩
 .rcases getElem?_set_of h with ⟨rfl,z,hl⟩|⟨n,h⟩
  .cases z;exact⟨v,Uv (by rw[R.len];exact hl),e.mono g⟩
  .obtain⟨u,q,h⟩:=R.val j d' h;exact⟨u,by rw[zq n];exact q,h.mono g⟩
 .rcases getElem?_set_of h with ⟨rfl,z,_⟩|⟨n,h⟩
  .cases z
  .obtain⟨q,xs,h,l⟩:=R.own j a ds h;exact⟨by rw[zq n];exact q,xs,h,l.mono g⟩
 .rcases getElem?_set_of h with ⟨rfl,z,_⟩|⟨n,h⟩
  .cases z
  .obtain⟨q,h⟩:=R.raw j a o x h;exact⟨by rw[zq n];exact q,h.mono g⟩
def Rep.set_un{v:Option V}(R:Rep K ρ σ H):Rep K (ρ.set i .un) (σ.set i v) H:=by
 have sub:(owns (ρ.set i .un)).Sublist (owns ρ):=qe rfl;have g:j0 (del H (owns ρ)) (del H (owns (ρ.set i .un))):=Jh λb hb=>sub.subset hb;refine⟨by simp[R.len],λj d' h=>?_,λj a ds h=>?_,sub.nodup R.nd,λj a o x h=>?_,R.tb⟩
 .rcases getElem?_set_of h with ⟨rfl,z,hl⟩|⟨n,h⟩
  .cases z
  .obtain⟨u,q,h⟩:=R.val j d' h;exact⟨u,by rw[zq n];exact q,h.mono g⟩
 .rcases getElem?_set_of h with ⟨rfl,z,_⟩|⟨n,h⟩
  .cases z
  .obtain⟨q,xs,h,l⟩:=R.own j a ds h;exact⟨by rw[zq n];exact q,xs,h,l.mono g⟩
 .rcases getElem?_set_of h with ⟨rfl,z,_⟩|⟨n,h⟩
  .cases z
  .obtain⟨q,h⟩:=R.raw j a o x h;exact⟨by rw[zq n];exact q,h.mono g⟩
def Rep.set_own(R:Rep K ρ σ H)(g:j0 H H')(ha:H a=af)(e:H' a=a8 (.lst xs))(l:j4 K (del H' (a::owns ρ)) ds xs):Rep K (ρ.set i (.own a ds)) (σ.set i (a8 (.ref a))) H':=by
 have na:=R.fresh ha;obtain⟨nd,sub⟩:=Q7 (ds:=ds) (i:=i) R.nd na;have g1:j0 (del H' (a::owns ρ)) (del H' (owns (ρ.set i (.own a ds)))):=Jh λb hb=>by
  rcases sub b hb with e|z
  .exact e▸X6 ..
  .exact xn _ z
 have g2:j0 (del H (owns ρ)) (del H' (a::owns ρ)):=λb o q=>by
  obtain⟨n,q⟩:=of_del q;rw[j5];exact g b o q;intro z;rcases Xb.mp z with e|z
  .subst e;rw[ha]at q;cases q
  .exact n z
 refine⟨by simp[R.len],λj d' h=>?_,λj b ds' h=>?_,nd,λj b o x h=>?_,R.tb.mono g⟩
 .rcases getElem?_set_of h with ⟨rfl,z,hl⟩|⟨n,h⟩
  .cases z
  .obtain⟨u,q,h⟩:=R.val j d' h;exact⟨u,by rw[zq n];exact q,h.mono (g2.trans g1)⟩
 .rcases getElem?_set_of h with ⟨rfl,z,hl⟩|⟨n,h⟩
  .cases z;exact⟨Uv (by rw[R.len];exact hl),xs,e,l.mono g1⟩
  .obtain⟨q,ys,h,l⟩:=R.own j b ds' h;exact⟨by rw[zq n];exact q,ys,g _ _ h,l.mono (g2.trans g1)⟩
 .rcases getElem?_set_of h with ⟨rfl,z,hl⟩|⟨n,h⟩
  .cases z
  .obtain⟨q,h⟩:=R.raw j b o x h;exact⟨by rw[zq n];exact q,h.mono (g2.trans g1)⟩
def Rep.upd_own(R:Rep K ρ σ H)(h:ρ[i]?=a8 (.own a ds))(l:j4 K (del H (owns ρ)) ds' xs):Rep K (ρ.set i (.own a ds')) σ (upd H a (.lst xs)):=by
 have eo:owns (ρ.set i (.own a ds'))=owns ρ:=V6 h;have ed:del (upd H a (.lst xs)) (owns ρ)=del H (owns ρ):=Up (Ql h);refine⟨by simp[R.len],λj d' q=>?_,λj b l' q=>?_,by rw[eo];exact R.nd,λj b o x q=>?_,let ⟨_,_,z,_⟩:=R.own i a ds h;R.tb.upd z λ_ y=>by cases y⟩
 .rw[eo,ed];rcases getElem?_set_of q with ⟨_,z,_⟩|⟨n,q⟩
  .cases z
  .exact R.val j d' q
 .rw[eo,ed];rcases getElem?_set_of q with ⟨rfl,z,_⟩|⟨n,q'⟩
  .cases z;exact⟨(R.own i a ds h).1,xs,j8,l⟩
  .obtain⟨z,ys,y,l''⟩:=R.own j b l' q';refine⟨z,ys,?_,l''⟩;have nb:b≠a:=λe=>n (Ux R.nd h (e▸q'));rw[jk nb];exact y
 .rw[eo,ed];rcases getElem?_set_of q with ⟨_,z,_⟩|⟨n,q⟩
  .cases z
  .exact R.raw j b o x q
def Rep.freeze(R:Rep K ρ σ H)(h:ρ[i]?=a8 (.own a ds)):Rep K (ρ.set i (.val (.lst ds))) σ H:=by
 obtain⟨hs,xs,hx,l⟩:=R.own i a ds h;have sub:(owns (ρ.set i (.val (.lst ds)))).Sublist (owns ρ):=qe rfl;have g:j0 (del H (owns ρ)) (del H (owns (ρ.set i (.val (.lst ds))))):=Jh λb hb=>sub.subset hb;have na:a∉owns (ρ.set i (.val (.lst ds))):=λz=>by
  obtain⟨j,l',q⟩:=Yq z;rcases getElem?_set_of q with ⟨_,z,_⟩|⟨n,q⟩
  .cases z
  .exact n (Ux R.nd h q)
 refine⟨by simp[R.len],λj d' q=>?_,λj b l' q=>?_,sub.nodup R.nd,λj b o x q=>?_,R.tb⟩
 .rcases getElem?_set_of q with ⟨rfl,z,_⟩|⟨n,q⟩
  .cases z;exact⟨_,hs,a,xs,rfl,.inl (.inl (by rw[j5 na];exact hx)),l.mono g⟩
  .obtain⟨u,q,h⟩:=R.val j d' q;exact⟨u,q,h.mono g⟩
 .rcases getElem?_set_of q with ⟨rfl,z,_⟩|⟨n,q⟩
  .cases z
  .obtain⟨q,ys,h,l⟩:=R.own j b l' q;exact⟨q,ys,h,l.mono g⟩
 .rcases getElem?_set_of q with ⟨_,z,_⟩|⟨n,q⟩
  .cases z
  .obtain⟨q,h⟩:=R.raw j b o x q;exact⟨q,h.mono g⟩
end
def DE(X:Cx)(ρ:Rho)(e:av)(d:D):Prop:=∀σ H Q,Rep X.K ρ σ H->(∀v H',j0 H H'->Enc X.K (del H' (owns ρ)) d v->Q v H')->Jw X e σ H Q
def DT(X:Cx)(ρ:Rho)(e:av)(d:D):Prop:=∀σ H Q,Rep X.K ρ σ H->(∀v H',j0 H H'->Enc X.K H' d v->Q v H')->Jw X e σ H Q
def DO(X:Cx)(ρ:Rho)(e:av)(ds:List D):Prop:=∀σ H Q,Rep X.K ρ σ H->(∀a xs H',j0 H H'->H a=af->H' a=a8 (.lst xs)->j4 X.K (del H' (a::owns ρ)) ds xs->Q (.ref a) H')->Jw X e σ H Q
def DL(X:Cx)(ρ:Rho)(e:av)(ds:List D):Prop:=∀σ H Q,Rep X.K ρ σ H->(∀a xs H',j0 H H'->H' a=a8 (.lst xs)->j4 X.K (del H' (owns ρ)) ds xs->Q (.ref a) H')->Jw X e σ H Q
def DB(X:Cx)(ρ:Rho)(e:av)(b:Bool):Prop:=∀σ H Q,Rep X.K ρ σ H->(∀H',j0 H H'->Q b H')->jc4 X e σ H Q
def DA(X:Cx)(ρ:Rho)(es:List av)(ds:List D):Prop:=∀σ H Q,Rep X.K ρ σ H->(∀vs H',j0 H H'->j4 X.K (del H' (owns ρ)) ds vs->Q vs H')->Cw X es σ H Q
def DTA(X:Cx)(ρ:Rho)(es:List av)(ds:List D):Prop:=∀σ H Q,Rep X.K ρ σ H->(∀vs H',j0 H H'->j4 X.K H' ds vs->Q vs H')->Cw X es σ H Q
def jc3(X:Cx)(e:av):TT:=λσ H Q=>∀whole pins s,Inv X pins σ H s->ay (aB X.prog X.w) X.A (gH e X.env whole) (TP X pins σ Q) X.xe s
def pwS{e:av}:PW X e (jc3 X e):=λwhole pins s _ _ _ I h=>h whole pins s I
variable{σ:St}
def PW.to{e:av}{t:TT}(h:PW X e t){Q:Bool->Hp->Prop}(q:t σ H Q):jc3 X e σ H Q:=λwhole pins s I=>h whole pins s σ H Q I q
def DW(X:Cx)(ρ:Rho)(e:av)(b:Bool):Prop:=∀σ H Q,Rep X.K ρ σ H->(∀H',j0 H H'->Q b H')->jc3 X e σ H Q
mutual
noncomputable def Jy:D->Bool
 |.lst _=>a9
 |.dct _ _=>a9
 |.sct _=>a9
 |.fn _ _=>a9
 |.tup ds=>qw ds
 |_=>ae
noncomputable def qw:List D->Bool
 |[]=>ae
 |d::ds=>Jy d&&qw ds
end
mutual
theorem Enc.hide{K:k9k}{H:Hp}{A:List ai}(hA:∀a∈A,Hd (H a)):∀{d:D}{v:V},Jy d=ae->Enc K H d v->Enc K (del H A) d v
 |.non,_,_,h=>h
 |.bl _,_,_,h=>h
 |.int _,_,_,h=>h
 |.str _,_,_,h=>h
 |.lst _,_,n,_=>by cases n
 |.dct _ _,_,n,_=>by cases n
 |.sct _,_,n,_=>by cases n
 |.fn _ _,_,n,_=>by cases n
 |.tup ds,_,n,⟨a,xs,e,q,l⟩=>by
  refine⟨a,xs,e,?_,j4.hide hA (by simpa [Jy]using n) l⟩;have out:∀{o:HO},H a=a8 o->(∀ys,o≠.lst ys)->(∀ys ep,o≠.dI ys ep)->del H A a=a8 o:=λ{o} h z z2=>by
   rw[j5];exact h;intro y;rcases hA a y with ⟨ys,e'⟩|⟨ys,ep,e'⟩
   .rw[h]at e';cases e';exact z ys rfl
   .rw[h]at e';cases e';exact z2 ys ep rfl
  rcases q with (q|⟨o,q⟩)|q
  .exact .inl (.inl (out q (λ_ z=>by cases z) λ_ _ z=>by cases z))
  .exact .inl (.inr ⟨o,out q (λ_ z=>by cases z) λ_ _ z=>by cases z⟩)
  .exact .inr q
theorem j4.hide{K:k9k}{H:Hp}{A:List ai}(hA:∀a∈A,Hd (H a)):∀{ds:List D}{xs:List V},qw ds=ae->j4 K H ds xs->j4 K (del H A) ds xs
 |[],_,_,h=>h
 |d::ds,_,n,⟨x,r,e,h,l⟩=>by
  have n':Jy d=ae/\qw ds=ae:=by simpa [qw]using n
  exact⟨x,r,e,Enc.hide hA n'.1 h,j4.hide hA n'.2 l⟩
end
section
variable{X:Cx}{ρ:Rho}{e a b c:av}{es:List av}{d da db:D}{ds ds':List D}{i j:Int}{pos:aP}{k:Nat}{x:au}
def DE.toT(h:DE X ρ e d):DT X ρ e d:=λσ H Q R q=>h σ H Q R λv H' g l=>q v H' g (l.mono jw)
def DT.toE(h:DT X ρ e d)(n:Jy d=ae:=by rfl):DE X ρ e d:=λσ H Q R q=>h σ H Q R λv H' g l=>q v H' g (l.hide (λa ha=>.inl ((R.grow g).owned a ha)) n)
def DO.toL(h:DO X ρ e ds):DL X ρ e ds:=λσ H Q R q=>h σ H Q R λa xs H' g n m l=>q a xs H' g m (l.mono (Jh λb hb=>xn _ hb))
def DO.toE(h:DO X ρ e ds):DE X ρ e (.lst ds):=λσ H Q R q=>h σ H Q R λa xs H' g n m l =>q _ H' g ⟨a,xs,rfl,.inl (.inl (by rw[j5 (R.fresh n)];exact m)),l.mono (Jh λb hb=>xn _ hb)⟩
def DL.toT(h:DL X ρ e ds):DT X ρ e (.lst ds):=λσ H Q R q=>h σ H Q R λa xs H' g m l=>q _ H' g ⟨a,xs,rfl,.inl (.inl m),l.mono jw⟩
def DW.toB{k:Bool}(h:DW X ρ e k):DB X ρ e k:=λσ H Q R q pins s I=>h σ H Q R q _ pins s I
def DE.eq(h:DE X ρ e d){d':D}(q:d=d'):DE X ρ e d':=q▸h
def DB.eq{b b':Bool}(h:DB X ρ e b)(q:b=b'):DB X ρ e b':=q▸h
end
variable{o:HO}{u v:V}
section
variable{X:Cx}{ρ:Rho}{e a b c:av}{es:List av}{d da db:D}{ds ds':List D}{i j:Int}{pos p:aP}{k:Nat}{x:au}
def DE.var(k:Nat)(h:ρ[k]?=a8 (.val d))(hN:X.N[k]?=a8 x:=by rfl)(hv:Vis X.env.scope x:=by first|exact bf rfl|exact bH (bf rfl)|exact bH (bH rfl))
  (hd:(x==k9o)=a9:=by decide) (hcd:(x==k9p)=a9:=by decide):DE X ρ (.Name x pos) d:=λσ H Q R q=>by
 obtain⟨v,hs,en⟩:=R.val k d h;exact(vz hN hv hd hcd).to ⟨v,hs,q v H (j0.refl H) en⟩
def DL.var(k:Nat)(h:ρ[k]?=a8 (.own l ds))(hN:X.N[k]?=a8 x:=by rfl)(hv:Vis X.env.scope x:=by first|exact bf rfl|exact bH (bf rfl)|exact bH (bH rfl))
  (hd:(x==k9o)=a9:=by decide) (hcd:(x==k9p)=a9:=by decide):DL X ρ (.Name x pos) ds:=λσ H Q R q=>by
 obtain⟨hs,xs,m,en⟩:=R.own k l ds h;exact(vz hN hv hd hcd).to ⟨_,hs,q l xs H (j0.refl H) m en⟩
def DE.glob {u:ah}  (hg:Gl X x) (hm:X.mg x=a8 u) (r:RelV v u) (h:∀H,Enc X.K H d v) (hd:(x==k9o)=a9:=by decide):DE X ρ (.Name x pos) d :=
 λσ H Q R q=>(jh7 hg hm r hd).to (q v H (j0.refl H) (h _))
theorem DE.int{i:Int}{n:Nat}{pos:aP}:DE X ρ (.Constant (.int i) n pos) (.int i):=λσ H Q R q=>jk5.to (q _ H (j0.refl H) rfl)
theorem DE.bl{b:Bool}{n:Nat}:DE X ρ (.Constant (.bool b) n pos) (.bl b):=λσ H Q R q=>jo1.to (q _ H (j0.refl H) rfl)
theorem DE.non{n:Nat}:DE X ρ (.Constant .none n pos) .non:=λσ H Q R q=>j9r.to (q _ H (j0.refl H) rfl)
theorem DE.str{y:au}{n:Nat}:DE X ρ (.Constant (.str y) n pos) (.str y):=λσ H Q R q=>j9q.to (q _ H (j0.refl H) rfl)
def DE.arI0{op:kL}{g:Int->Int->Int}(ho:OpR X (bh op) (rI0 λi j=>.int (g i j)))(ha:DT X ρ a (.int i))(hb:DT X ρ b (.int j)):DE X ρ (.BinOp a op b pos) (.int (g i j)):=λσ H Q R q =>(Wg ho peS peS).to (ha σ H _ R λv H1 g1 e1=>hb σ H1 _ (R.grow g1) λu H2 g2 e2=>⟨i,j,e1,e2,q _ H2 (g1.trans g2) rfl⟩)
def DE.arI{op:kL}{C:Int->Int->Prop}{g:Int->Int->Int}(ho:OpR X (bh op) (rI C λi j=>.int (g i j)))(ha:DT X ρ a (.int i))(hb:DT X ρ b (.int j))(hC:C i j):DE X ρ (.BinOp a op b pos) (.int (g i j)):=λσ H Q R q =>(Wg ho peS peS).to (ha σ H _ R λv H1 g1 e1=>hb σ H1 _ (R.grow g1) λu H2 g2 e2=>⟨i,j,e1,e2,hC,q _ H2 (g1.trans g2) rfl⟩)
def DE.add(ha:DT X ρ a (.int i))(hb:DT X ρ b (.int j)):DE X ρ (.BinOp a .Add b pos) (.int (i+j)):=DE.arI0 jkh ha hb
def DE.sub(ha:DT X ρ a (.int i))(hb:DT X ρ b (.int j)):DE X ρ (.BinOp a .Sub b pos) (.int (i-j)):=DE.arI0 jk9 ha hb
def DE.mul(ha:DT X ρ a (.int i))(hb:DT X ρ b (.int j))(h:j8l i j):DE X ρ (.BinOp a .Mult b pos) (.int (i*j)):=DE.arI jke ha hb h
def DE.mod(ha:DT X ρ a (.int i))(hb:DT X ρ b (.int j))(h:0<j):DE X ρ (.BinOp a .Mod b pos) (.int (i%j)):=DE.arI jkf ha hb h
def DE.pow(ha:DT X ρ a (.int i))(hb:DT X ρ b (.int j))(h:j8k i j):DE X ρ (.BinOp a .Pow b pos) (.int (i^j.toNat)):=DE.arI jkd ha hb h
def DE.shl(ha:DT X ρ a (.int i))(hb:DT X ρ b (.int j))(h:j8k i j):DE X ρ (.BinOp a .LShift b pos) (.int (i*2^j.toNat)):=DE.arI (g:=λi j=>i*2^j.toNat) jkb ha hb h
def DE.cmpI{op:iY}{g:Int->Int->Bool}(ho:OpR X (aZ op) (rI0 λi j=>.bl (g i j)))(hm:aO op b=a9)(ha:DT X ρ a (.int i))(hb:DT X ρ b (.int j)):DE X ρ (.Compare a [op] [b] pos) (.bl (g i j)):=λσ H Q R q =>(Q6 ho peS peS hm).to (ha σ H _ R λv H1 g1 e1=>hb σ H1 _ (R.grow g1) λu H2 g2 e2=>⟨i,j,e1,e2,q _ H2 (g1.trans g2) rfl⟩)
def DB.cmpI{op:iY}{g:Int->Int->Bool}(ho:OpR X (aZ op) (rI0 λi j=>.bl (g i j)))(hm:aO op b=a9)(ha:DT X ρ a (.int i))(hb:DT X ρ b (.int j)):DB X ρ (.Compare a [op] [b] pos) (g i j):=λσ H Q R q =>(Z3 ho peS peS hm).to (ha σ H _ R λv H1 g1 e1=>hb σ H1 _ (R.grow g1) λu H2 g2 e2=>⟨i,j,e1,e2,_,rfl,q H2 (g1.trans g2)⟩)
def DB.lt(ha:DT X ρ a (.int i))(hb:DT X ρ b (.int j)):DB X ρ (.Compare a [.Lt] [b] pos) (decide (i<j)):=DB.cmpI jf0 (zc _) ha hb
def DB.le(ha:DT X ρ a (.int i))(hb:DT X ρ b (.int j)):DB X ρ (.Compare a [.LtE] [b] pos) (decide (i<=j)):=DB.cmpI jf1 (zc _) ha hb
def DB.gt(ha:DT X ρ a (.int i))(hb:DT X ρ b (.int j)):DB X ρ (.Compare a [.Gt] [b] pos) (decide (j<i)):=DB.cmpI jf2 (zc _) ha hb
def DB.ge(ha:DT X ρ a (.int i))(hb:DT X ρ b (.int j)):DB X ρ (.Compare a [.GtE] [b] pos) (decide (j<=i)):=DB.cmpI jf3 (zc _) ha hb
def DE.lt(ha:DT X ρ a (.int i))(hb:DT X ρ b (.int j)):DE X ρ (.Compare a [.Lt] [b] pos) (.bl (decide (i<j))):=DE.cmpI jf0 (zc _) ha hb
def DE.le(ha:DT X ρ a (.int i))(hb:DT X ρ b (.int j)):DE X ρ (.Compare a [.LtE] [b] pos) (.bl (decide (i<=j))):=DE.cmpI jf1 (zc _) ha hb
def DE.gt(ha:DT X ρ a (.int i))(hb:DT X ρ b (.int j)):DE X ρ (.Compare a [.Gt] [b] pos) (.bl (decide (j<i))):=DE.cmpI jf2 (zc _) ha hb
def DE.ge(ha:DT X ρ a (.int i))(hb:DT X ρ b (.int j)):DE X ρ (.Compare a [.GtE] [b] pos) (.bl (decide (j<=i))):=DE.cmpI jf3 (zc _) ha hb
noncomputable def D.sc:D->Option V
 |.non=>a8 .non
 |.bl b=>a8 (.bl b)
 |.int i=>a8 (.int i)
 |.str x=>a8 (.str x)
 |_=>af
def D.sc_enc{d:D}(h:d.sc=a8 u)(q:Enc K H d v):v=u:=by cases d<;>simp[D.sc]at h<;>subst h<;>exact q
def DE.eqS{u v:V}(ha:DT X ρ a da)(hb:DT X ρ b db)(h1:da.sc=a8 u:=by rfl)(h2:db.sc=a8 v:=by rfl)(h:j0e u v=ae:=by rfl):DE X ρ (.Compare a [.Eq] [b] pos) (.bl (decide (u=v))):=λσ H Q R q =>
 (Q6 jf4 peS peS (zc _)).to (ha σ H _ R λx H1 g1 e1=>hb σ H1 _ (R.grow g1) λy H2 g2 e2=>by
  cases D.sc_enc h1 e1;cases D.sc_enc h2 e2;exact⟨h,q _ H2 (g1.trans g2) rfl⟩)
def DE.neS{u v:V}(ha:DT X ρ a da)(hb:DT X ρ b db)(h1:da.sc=a8 u:=by rfl)(h2:db.sc=a8 v:=by rfl)(h:j0e u v=ae:=by rfl):DE X ρ (.Compare a [.NotEq] [b] pos) (.bl (!decide (u=v))):=λσ H Q R q =>
 (Q6 jez peS peS (zc _)).to (ha σ H _ R λx H1 g1 e1=>hb σ H1 _ (R.grow g1) λy H2 g2 e2=>by
  cases D.sc_enc h1 e1;cases D.sc_enc h2 e2;exact⟨h,q _ H2 (g1.trans g2) rfl⟩)
def DB.eqS{u v:V}(ha:DT X ρ a da)(hb:DT X ρ b db)(h1:da.sc=a8 u:=by rfl)(h2:db.sc=a8 v:=by rfl)(h:j0e u v=ae:=by rfl):DB X ρ (.Compare a [.Eq] [b] pos) (decide (u=v)):=λσ H Q R q =>
 (Z3 jf4 peS peS (zc _)).to (ha σ H _ R λx H1 g1 e1=>hb σ H1 _ (R.grow g1) λy H2 g2 e2=>by
  cases D.sc_enc h1 e1;cases D.sc_enc h2 e2;exact⟨h,_,rfl,q H2 (g1.trans g2)⟩)
def DB.neS{u v:V}(ha:DT X ρ a da)(hb:DT X ρ b db)(h1:da.sc=a8 u:=by rfl)(h2:db.sc=a8 v:=by rfl)(h:j0e u v=ae:=by rfl):DB X ρ (.Compare a [.NotEq] [b] pos) (!decide (u=v)):=λσ H Q R q =>
 (Z3 jez peS peS (zc _)).to (ha σ H _ R λx H1 g1 e1=>hb σ H1 _ (R.grow g1) λy H2 g2 e2=>by
  cases D.sc_enc h1 e1;cases D.sc_enc h2 e2;exact⟨h,_,rfl,q H2 (g1.trans g2)⟩)
def O1(i j:Int):decide (V.int i=V.int j)=decide (i=j):=by
 by_cases h:i=j
 .subst h;simp
 .rw[decide_eq_false h,decide_eq_false (λz=>h (V.int.inj z))]
def j6w(i j:Bool):decide (V.bl i=V.bl j)=(i==j):=by cases i<;>cases j<;>rfl
def j51(i j:au):decide (V.str i=V.str j)=decide (i=j):=by
 by_cases h:i=j
 .subst h;simp
 .rw[decide_eq_false h,decide_eq_false (λz=>h (V.str.inj z))]
def DE.eqI(ha:DT X ρ a (.int i))(hb:DT X ρ b (.int j)):DE X ρ (.Compare a [.Eq] [b] pos) (.bl (decide (i=j))):=(DE.eqS ha hb).eq (by rw[O1])
def DE.neI(ha:DT X ρ a (.int i))(hb:DT X ρ b (.int j)):DE X ρ (.Compare a [.NotEq] [b] pos) (.bl (!decide (i=j))):=(DE.neS ha hb).eq (by rw[O1])
def DB.eqI(ha:DT X ρ a (.int i))(hb:DT X ρ b (.int j)):DB X ρ (.Compare a [.Eq] [b] pos) (decide (i=j)):=(DB.eqS ha hb).eq (by rw[O1])
def DB.neI(ha:DT X ρ a (.int i))(hb:DT X ρ b (.int j)):DB X ρ (.Compare a [.NotEq] [b] pos) (!decide (i=j)):=(DB.neS ha hb).eq (by rw[O1])
def DE.neB{x y:Bool}(ha:DT X ρ a (.bl x))(hb:DT X ρ b (.bl y)):DE X ρ (.Compare a [.NotEq] [b] pos) (.bl (x != y)):=(DE.neS ha hb).eq (by rw[j6w];rfl)
def DB.neB{x y:Bool}(ha:DT X ρ a (.bl x))(hb:DT X ρ b (.bl y)):DB X ρ (.Compare a [.NotEq] [b] pos) (x != y):=(DB.neS ha hb).eq (by rw[j6w];rfl)
noncomputable def D.isNon:D->Bool
 |.non=>ae
 |_=>a9
def j26{d:D}(q:Enc K H d v):decide (v=V.non)=d.isNon:=by
 cases d with
 |non=>cases(show v=.non from q);rfl
 |bl b=>cases(show v=.bl b from q);rfl
 |int b=>cases(show v=.int b from q);rfl
 |str b=>cases(show v=.str b from q);rfl
 |tup l=>obtain⟨a,xs,e,_⟩:=q;subst e;rfl
 |lst l=>obtain⟨a,xs,e,_⟩:=q;subst e;rfl
 |dct ks l=>obtain⟨a,xs,ep,vs,e,_⟩:=q;subst e;rfl
 |sct k=>obtain⟨a,e,_⟩:=q;subst e;rfl
 |fn x l=>obtain⟨a,c,tx,cl,vs,e,_⟩:=q;subst e;rfl
def DB.isN{n:Nat}{p2:aP}(ha:DT X ρ a d):DB X ρ (.Compare a [.Is] [.Constant .none n p2] pos) d.isNon:=λσ H Q R q =>(jjx (jk7 peS)).to (ha σ H _ R λx H1 g1 e1=>⟨_,rfl,by rw[j26 e1];exact q H1 g1⟩)
def DB.val{k:Bool}(ha:DT X ρ a (.bl k))(he:∀whole,gH a X.env whole=(do let v <-whole;hU a.pos;cN [v] (truthy v)):=by intro _;rfl):DB X ρ a k:=λσ H Q R q =>(jjv peS he).to (ha σ H _ R λx H1 g1 e1=>⟨_,e1,q H1 g1⟩)
def DW.and1{k:Bool}(ha:DB X ρ a k):DW X ρ (.BoolOp .And [a] pos) k:=λσ H Q R q=>(jh0 ptS).to (ha σ H Q R q)
def DW.or1{k:Bool}(ha:DB X ρ a k):DW X ρ (.BoolOp .Or [a] pos) k:=λσ H Q R q=>(jjt ptS).to (ha σ H Q R q)
def DW.and{k m:Bool}{rest:List av}(ha:DB X ρ a k)(hb:k=ae->DW X ρ (.BoolOp .And (b::rest) pos) m):DW X ρ (.BoolOp .And (a::b::rest) pos) (k&&m):=λσ H Q R q =>
 (jju ptS pwS).to (ha σ H _ R λH1 g1=>by
  cases k with
  |false=>exact j4o (q H1 g1)
  |true=>exact j4n (hb rfl σ H1 Q (R.grow g1) λH2 g2=>q H2 (g1.trans g2)))
def DW.or{k m:Bool}{rest:List av}(ha:DB X ρ a k)(hb:k=a9->DW X ρ (.BoolOp .Or (b::rest) pos) m):DW X ρ (.BoolOp .Or (a::b::rest) pos) (k || m):=λσ H Q R q =>
 (jny ptS pwS).to (ha σ H _ R λH1 g1=>by
  cases k with
  |true=>exact j4n (q H1 g1)
  |false=>exact j4o (hb rfl σ H1 Q (R.grow g1) λH2 g2=>q H2 (g1.trans g2)))
def DB.not{k:Bool}(ha:DB X ρ a k):DB X ρ (.UnaryOp .Not a pos) (!k):=λσ H Q R q=>(jjw ptS).to (ha σ H _ R λH1 g1=>q H1 g1)
def DE.and{k m:Bool}{rest:List av}(ha:DT X ρ a (.bl k))(hb:k=ae->DE X ρ (.BoolOp .And (b::rest) pos) (.bl m)):DE X ρ (.BoolOp .And (a::b::rest) pos) (.bl (k&&m)):=λσ H Q R q =>
 (jk6 peS peS).to (ha σ H _ R λx H1 g1 e1=>⟨k,e1,by
  cases k with
  |false=>exact j4o (q _ H1 g1 rfl)
  |true=>exact j4n (hb rfl σ H1 Q (R.grow g1) λv H2 g2=>q v H2 (g1.trans g2))⟩)
def DE.ite{k:Bool}{d':D}(hc:DB X ρ c k)(ha:k=ae->DE X ρ a d)(hb:k=a9->DE X ρ b d'):DE X ρ (.IfExp c a b pos) (if k=ae then d else d'):=λσ H Q R q =>
 (jck ptS peS peS).to (hc σ H _ R λH1 g1=>by
  cases k with
  |true=>exact j4n (ha rfl σ H1 Q (R.grow g1) λv H2 g2 z=>q v H2 (g1.trans g2) (by rw[if_pos rfl];exact z))
  |false=>exact j4o (hb rfl σ H1 Q (R.grow g1) λv H2 g2 z=>q v H2 (g1.trans g2) (by rw[if_neg xq];exact z)))
def DA.nil:DA X ρ [] []:=λσ H Q R q=>qb.to (q [] H (j0.refl H) rfl)
def DA.cons(ha:DE X ρ a d)(hr:DA X ρ es ds)(hs:aj (a::es) X.env=(a9,aC a X.env)::aj es X.env:=by rfl):DA X ρ (a::es) (d::ds):=λσ H Q R q =>(ji peS paS hs).to (ha σ H _ R λv H1 g1 e1=>hr σ H1 _ (R.grow g1) λvs H2 g2 e2=>q _ H2 (g1.trans g2) ⟨v,vs,rfl,e1.mono (jg g2),e2⟩)
def DTA.nil:DTA X ρ [] []:=λσ H Q R q=>qb.to (q [] H (j0.refl H) rfl)
def DTA.cons(ha:DT X ρ a d)(hr:DTA X ρ es ds)(hs:aj (a::es) X.env=(a9,aC a X.env)::aj es X.env:=by rfl):DTA X ρ (a::es) (d::ds):=λσ H Q R q =>(ji peS paS hs).to (ha σ H _ R λv H1 g1 e1=>hr σ H1 _ (R.grow g1) λvs H2 g2 e2=>q _ H2 (g1.trans g2) ⟨v,vs,rfl,e1.mono g2,e2⟩)
theorem DE.tup{n:Nat}{x1}(h:DA X ρ es ds)(hl:ds.length<=aw:=by simp only[xx,Tg];decide):DE X ρ (.Tuple es x1 pos) (.tup ds):=λσ H Q R q =>(jk2 paS).to (h σ H _ R λvs H1 g1 e1=>⟨by rw[e1.length];exact hl,λp hp=>q _ _ (g1.trans (j6 hp)) ⟨p,vs,rfl,.inl (.inl (by rw[j5 ((R.grow g1).fresh hp)];exact j8)),e1.mono (jg (j6 hp))⟩⟩)
def DO.lst(h:DA X ρ es ds)(hl:ds.length<=aw:=by simp only[xx,Tg];decide):DO X ρ (.List es pos) ds:=λσ H Q R q =>
 (jk4 paS).to (h σ H _ R λvs H1 g1 e1=>⟨by rw[e1.length];exact hl,λp hp=>q p vs _ (g1.trans (j6 hp)) (g1.free hp) j8 (e1.mono λb o z=>by
  obtain⟨n,z⟩:=of_del z
  rw[j5];exact j6 hp b o z
  intro y
  rcases Xb.mp y with y|y
  .subst y;rw[hp]at z;cases z
  .exact n y)⟩)
theorem j4.atI{K:k9k}{H:Hp}{xs:List V}(h:j4 K H ds xs)(q:atI ds i=a8 d):∃x,L2.atI xs i=a8 x/\Enc K H d x:=by
 unfold L2.atI at q ⊢;rw[h.length];cases z:ixN ds.length i with
 |none=>rw[z]at q;cases q
 |some k =>rw[z]at q;exact h.get q
noncomputable def cutD(ds:List D)(lo hi:Option Int):List D:=(ds.drop (HT.sIx ds.length 0 lo)).take (HT.sIx ds.length ds.length hi-HT.sIx ds.length 0 lo)
def j4.cut(h:j4 K H ds xs)(lo hi:Option Int):j4 K H (cutD ds lo hi) (Bu xs lo hi):=by unfold cutD Bu;rw[h.length];exact(h.drop _).take _
def Mw{ds:List D}{p:ai}(hp:H1 p=af)(e1:j4 K (del H1 A) ds xs):j4 K (del (upd H1 p o) (p::A)) ds xs:=e1.mono λb o z=>by
 obtain⟨n,z⟩:=of_del z;rw[j5];exact j6 hp b o z;intro y;rcases Xb.mp y with y|y
 .subst y;rw[hp]at z;cases z
 .exact n y
theorem DO.rep(ha:DL X ρ a ds)(hb:DT X ρ b (.int i))(h1:-(2^63)<=i)(h2:i<2^63)(hl:ds.length*i.toNat<=aw):DO X ρ (.BinOp a .Mult b pos) (ak i.toNat ds).flatten:=λσ H Q R q =>
 (Wg jkc peS peS).to (ha σ H _ R λl xs H1 g1 m1 e1=>hb σ H1 _ (R.grow g1) λu H2 g2 e2 =>
  ⟨l,i,xs,rfl,e2,g2 _ _ m1,h1,h2,by rw[e1.length];exact hl,λp hp=>q p _ _ ((g1.trans g2).trans (j6 hp)) ((g1.trans g2).free hp) j8 (Mw hp ((e1.mono (jg g2)).rep _))⟩)
def DE.lenT (ha:DT X ρ a (.tup ds)) (hm:X.mg "len" = af) (hg:Gl X "len":=by rfl) (hs:aj [a] X.env=[(a9,aC a X.env)]:=by rfl) {p2:aP}:DE X ρ (.Call (.Name "len" p2) [a] [] pos) (.int ds.length):=λσ H Q R q =>(Jx By hg hm du (ji peS qb hs) (by decide) (by decide) hs).to (ha σ H _ R λv H1 g1 ⟨l,xs,e,sq,en⟩=>⟨l,xs,by rw[e],.inr sq,q _ H1 g1 (by rw[en.length];rfl)⟩)
def DE.lenL (ha:DT X ρ a (.lst ds)) (hm:X.mg "len" = af) (hg:Gl X "len":=by rfl) (hs:aj [a] X.env=[(a9,aC a X.env)]:=by rfl) {p2:aP}:DE X ρ (.Call (.Name "len" p2) [a] [] pos) (.int ds.length):=λσ H Q R q =>(Jx By hg hm du (ji peS qb hs) (by decide) (by decide) hs).to (ha σ H _ R λv H1 g1 ⟨l,xs,e,sq,en⟩=>⟨l,xs,by rw[e],.inl sq,q _ H1 g1 (by rw[en.length];rfl)⟩)
end
def framed(sp:Sp):Sp:=λvs H Q E=>∃A:List ai,(∀a∈A,∃xs,H a=a8 (.lst xs))/\sp vs (del H A) (λv F=>(∀a∈A,F a=af)->Q v (mrg A H F)) E
theorem FnOk.framed{P:az}{w:aD}{K:k9k}{mg:k9n}{base:aE}{k:Nat}{f:ai}{fd:aJ}{ps:List au}{sp:Sp}(F:FnOk P w K mg base CX0 k f fd ps sp) :
  FnOk P w K mg base CX0 k f fd ps (framed sp) where
 len:=λvs H Q E ⟨A,_,h⟩=>F.len vs _ _ _ h
 run:=by
  rintro A0 outer s H args us vs Q E hr e0 hb rv ⟨A,hA,h⟩;have nd:∀{b:ai},H b=af->del H A b=af:=λ{b} q=>by
   by_cases z:b∈A
   .exact qy z
   .rw[j5 z];exact q
  have out:∀{b:ai}{o:HO},H b=a8 o->(∀ys,o≠.lst ys)->del H A b=a8 o:=λ{b o} q z=>by rw[j5];exact q;intro y;obtain⟨ys,e'⟩:=hA b y;rw[q]at e';cases e';exact z ys rfl
  have e1:Env0 P w K mg base A0 outer s (del H A):=⟨e0.frames,e0.mod,λb o q=>⟨(e0.bs b o q).1,nd (e0.bs b o q).2⟩,e0.bsz,e0.funs,λb hb=>nd (e0.frf b hb),
   λa o q=>by
    obtain⟨_,q⟩:=of_del q
    exact jm.stay (e0.hok a o q) (λb u _ z=>z) (λb z=>out z λ_ y=>by cases y) (λb xs z=>out z λ_ y=>by cases y) (λb _ _ z=>out z λ_ y=>by cases y),e0.bare⟩
  refine bK (F.run A0 outer s (del H A) args us vs _ E hr e1 hb rv h) λr s' hq=>?_;cases r with
  |error e=>exact(show False from hq).elim
  |ok fl =>
   cases fl with
   |next=>exact(show False from hq).elim
   |brk=>exact(show False from hq).elim
   |cont=>exact(show False from hq).elim
   |ret u =>
    obtain⟨v,H',os,bare,un,hok',rel,q⟩:=(show CE outer P w (del H A) s _ u s' from hq)
    have kept:∀a∈A,∃o,s.heap.get? a=a8 o/\s'.heap.get? a=a8 o/\H' a=af:=λa ha=>by
     obtain⟨xs,e⟩:=hA a ha;obtain⟨_,its,n,_,z⟩:=(show jm P w H s.heap a (.lst xs)from e0.hok _ _ e)
     have nf:a∉frs outer:=λy=>by rw[e0.frf a y]at e;cases e
     exact⟨_,z,un.keep a _ z (qy ha) nf (by simp),un.free a _ z (qy ha) (by simp)⟩
    have hF:∀a∈A,H' a=af:=λa ha=>let ⟨_,_,_,z⟩:=kept a ha;z;have outF:∀{b:ai}{o:HO},H' b=a8 o->b∉A:=λ{b o} e z=>by rw[hF b z]at e;cases e
    refine⟨v,mrg A H H',os,bare,?_,λa o e=>?_,rel,q hF⟩
    .exact{
      keep:=λb o e n=>un.keep b o e (nd n)
      slot:=λb o e n=>un.slot b o e (nd n)
      free:=λb o e n hx=>by
       by_cases z:b∈A
       .rw[Jj z];exact n
       .rw[jr z];exact un.free b o e (nd n) hx
      there:=un.there
      tups:=λb xs e=>by
       have z:=un.tups b xs (out e λ_ y=>by cases y)
       rw[jr (outF z)];exact z
      frzs:=λb o u e=>by
       have z:=un.frzs b o u (out e λ_ y=>by cases y)
       rw[jr (outF z)];exact z
      tbls:=λb ps e=>by
       obtain⟨more,z⟩:=un.tbls b ps (out e λ_ y=>by cases y)
       exact⟨more,by rw[jr (outF z)];exact z⟩ }
    .by_cases z:a∈A
     .rw[Jj z]at e;obtain⟨xs,e'⟩:=hA a z;rw[e']at e;cases e;obtain⟨hl,its,n,r,y⟩:=(show jm P w H s.heap a (.lst xs)from e0.hok _ _ e')
      obtain⟨o',q1,q2,_⟩:=kept a z;rw[y]at q1;cases q1;exact⟨hl,its,n,r,q2⟩
     .rw[jr z]at e;refine jm.stay (hok' a o e) (λb u _ q=>q) (λb q=>?_) (λb xs q=>?_) (λb _ _ q=>?_)
      .rw[jr (outF q)];exact q
      .rw[jr (outF q)];exact q
      .rw[jr (outF q)];exact q
def spP(K:k9k)(S:List D->D->Prop):Sp:=λvs H Q _=>∃A ds d,TabOk K H/\(∀a∈A,∃xs,H a=a8 (.lst xs))/\j4 K (del H A) ds vs/\S ds d/\∀v H',j0 H H'->Enc K (del H' A) d v->Q v H'
def spF(K:k9k)(S:List D->List D->Prop):Sp:=λvs H Q _=>∃A ds l,TabOk K H/\(∀a∈A,∃xs,H a=a8 (.lst xs))/\j4 K (del H A) ds vs/\S ds l /\
 ∀a xs H',j0 H H'->H a=af->H' a=a8 (.lst xs)->j4 K (del H' (a::A)) l xs->Q (.ref a) H'
def jq2(K:k9k)(S:List D->D->Prop):Sp:=λvs H Q _=>∃ds d,TabOk K H/\j4 K H ds vs/\S ds d/\∀v H',j0 H H'->Enc K H' d v->Q v H'
def jq4(K:k9k)(S:List D->List D->Prop):Sp:=λvs H Q _=>∃ds l,TabOk K H/\j4 K H ds vs/\S ds l/\∀a xs H',j0 H H'->H a=af->H' a=a8 (.lst xs)->j4 K (del H' [a]) l xs->Q (.ref a) H'
section
variable{P:az}{w:aD}{K:k9k}{mg:k9n}{base:aE}{k:Nat}{f:ai}{fd:aJ}{ps:List au}
def FnOk.toP{S:List D->D->Prop}(F:FnOk P w K mg base CX0 k f fd ps (jq2 K S)):FnOk P w K mg base CX0 k f fd ps (spP K S) :=
 F.framed.imp λvs H Q E ⟨A,ds,d,tb,hA,en,hS,q⟩=>⟨A,hA,ds,d,tb.del hA,en,hS,λv F g e hF=>q v _ (Cy g) (by rw[Uq hF];exact e)⟩
def FnOk.toF{S:List D->List D->Prop}(F:FnOk P w K mg base CX0 k f fd ps (jq4 K S)):FnOk P w K mg base CX0 k f fd ps (spF K S) :=
 F.framed.imp λvs H Q E ⟨A,ds,l,tb,hA,en,hS,q⟩=>⟨A,hA,ds,l,tb.del hA,en,hS,λa xs F g n e l' hF=>by
  have na:a∉A:=λz=>by rw[hF a z]at e;cases e
  refine q a xs _ (Cy g) (by rw[j5 na]at n;exact n) (by rw[jr na];exact e) (l'.mono λb o z=>?_)
  obtain⟨n1,z⟩:=of_del z
  have nb:b∉A:=λy=>by rw[hF b y]at z;cases z
  rw[j5,jr nb];exact z
  intro y
  rcases Xb.mp y with y|y
  .exact n1 (by rw[y];exact xu.mpr rfl)
  .exact nb y⟩
end
noncomputable def j86:List au:=["dearest_way","cost_on_whole","worst_table","worst_plan","foe_answer","whole_table","whole_plan","mean_price"]
noncomputable def kG(us ws:List ah):List ah:=match ws with
 |[w]=>us++[w]
 |_=>[]
noncomputable def kGV(vs zs:List V):List V:=match zs with
 |[z]=>vs++[z]
 |_=>[]
def Dfl(K:k9k)(x:au)(fd:aJ)(ps:List au):Prop:=x∈j86->Binds K fd ps [.none]/\KBinds K fd ps ["prices"] kG kGV
structure Cal(X:Cx)(x:au)(sp:Sp):Prop where
 ex:∃(k:Nat)(f:ai)(fd:aJ)(ps:List au),FnOk X.prog X.w X.K X.mg X.base CX0 k f fd ps sp/\Room (k+3) X.A/\X.mg x=a8 (.ref f)/\W.keepIn X.K (.ref f)=ae/\Binds X.K fd ps []/\Dfl X.K x fd ps
section
variable{X:Cx}{ρ:Rho}{e a:av}{es:List av}{d:D}{ds l:List D}{pos p:aP}{x:au}
def DE.call{S:List D->D->Prop}(c:Cal X x (spP X.K S))(ha:DA X ρ (e::es) ds)(hS:S ds d)(hg:Gl X x:=by rfl)(hdb:(x==k9o)=a9:=by decide)
  (he:aj (e::es) X.env=(a9,aC e X.env)::aj es X.env:=by rfl) (hpl:(aR pos (aj es X.env)).any (·.1)=a9:=by rfl):DE X ρ (.Call (.Name x p) (e::es) [] pos) d:=λσ H Q R q=>by
 obtain⟨k,f,fd,ps,F,hr,hm,hk,hb,_⟩:=c.ex;refine(Rr F (hr.mono nofun) hg hm hk hb .nil Ii paS hdb he hpl).to (ha σ H _ R λvs H1 g1 e1=>?_);show spP X.K S (vs++[]) H1 Q E0;rw[Pa];exact⟨owns ρ,ds,d,R.tb.mono g1,(R.grow g1).owned,e1,hS,λv H2 g2 z=>q v H2 (g1.trans g2) z⟩
def DT.call{S:List D->D->Prop}(c:Cal X x (spP X.K S))(ha:DTA X ρ (e::es) ds)(hS:S ds d)(hg:Gl X x:=by rfl)(hdb:(x==k9o)=a9:=by decide)
  (he:aj (e::es) X.env=(a9,aC e X.env)::aj es X.env:=by rfl) (hpl:(aR pos (aj es X.env)).any (·.1)=a9:=by rfl):DT X ρ (.Call (.Name x p) (e::es) [] pos) d:=λσ H Q R q=>by
 obtain⟨k,f,fd,ps,F,hr,hm,hk,hb,_⟩:=c.ex;refine(Rr F (hr.mono nofun) hg hm hk hb .nil Ii paS hdb he hpl).to (ha σ H _ R λvs H1 g1 e1=>?_);show spP X.K S (vs++[]) H1 Q E0;rw[Pa];exact⟨[],ds,d,R.tb.mono g1,(λa h=>nomatch h),by rw[Qd];exact e1,hS,λv H2 g2 z=>q v H2 (g1.trans g2) (by rw[Qd]at z;exact z)⟩
def DO.call{S:List D->List D->Prop}(c:Cal X x (spF X.K S))(ha:DA X ρ (e::es) ds)(hS:S ds l)(hg:Gl X x:=by rfl)(hdb:(x==k9o)=a9:=by decide)
  (he:aj (e::es) X.env=(a9,aC e X.env)::aj es X.env:=by rfl) (hpl:(aR pos (aj es X.env)).any (·.1)=a9:=by rfl):DO X ρ (.Call (.Name x p) (e::es) [] pos) l:=λσ H Q R q=>by
 obtain⟨k,f,fd,ps,F,hr,hm,hk,hb,_⟩:=c.ex;refine(Rr F (hr.mono nofun) hg hm hk hb .nil Ii paS hdb he hpl).to (ha σ H _ R λvs H1 g1 e1=>?_);show spF X.K S (vs++[]) H1 Q E0;rw[Pa];exact⟨owns ρ,ds,l,R.tb.mono g1,(R.grow g1).owned,e1,hS,λa xs H2 g2 n m z=>q a xs H2 (g1.trans g2) (g1.free n) m z⟩
end
inductive Rt where
 |val (d:D)
 |fresh (ds:List D)
noncomputable def Rt.d:Rt->D
 |.val d=>d
 |.fresh l=>.lst l
structure Po where
 nx:Rho->Prop
 rt:Rt->Prop
 bk:Rho->Prop:=λ_=>False
 ct:Rho->Prop:=λ_=>False
 ex:au->Rho->Prop:=λ_ _=>False
structure FlQ(q:ah->Prop)(N:ai->Prop)(H:Hp)(h:aE)(e:ai)(C:ah):Prop where
 new:∀b,N b->b≠e
 free:H e=af
 obj:∃(oe:d7)(vs:Array ah)(a0:ah),h.get? e=a8 oe/\oe.cls=C/\oe.data=.fields vs/\vs[0]?=a8 a0 /\
  (vs[1]?=a8 .none\/∃(T:ai)(oT:d7)(ts:Array ah)(fl:ah),vs[1]?=a8 (.ref T)/\T≠e/\h.get? T=a8 oT/\oT.data=.fields ts/\(ts[3]?=a8 fl/\q fl)/\H T=af/\∀b,N b->b≠T)
def flF(env:dR)(v:ah):Prop:=v=.none\/∃L,env.frame=a8 L/\v=cQ L
def Old(X:Cx)(pins:k9m)(b:ai):Prop:=(∃o,X.s₀.heap.get? b=a8 o/\b∉X.ex)\/(∃p∈X.pn++pins,p.1=b)\/b=X.env.locals\/∃x,X.env.cells.lookup x=a8 b
def j8g(X:Cx)(σ:St)(H:Hp)(x:au):Prop:=∀(pins:k9m) (H':Hp) (s':aq) (e:ai) (C:ah),Inv X pins σ H' s'->j0 H H'->X.mg x=a8 C->FlQ (flF X.env) (Old X pins) H' s'.heap e C->X.xe (.ref e) s'
def Fr0(ρ ρ':Rho)(H H':Hp):Prop:=j0 (del H (owns ρ)) (del H' (owns ρ'))
def j1h(K:k9k)(ρ:Rho)(H H':Hp)(v:V):Rt->Prop
 |.val d=>j0 (del H (owns ρ)) H'/\Enc K H' d v
 |.fresh ds=>∃a xs,v=.ref a/\j0 (del H (owns ρ)) (del H' [a])/\H' a=a8 (.lst xs)/\j4 K (del H' [a]) ds xs
structure EndsOk(X:Cx)(ρ:Rho)(H:Hp)(P:Po)(E:Ends):Prop where
 nx:∀ρ' σ' H',P.nx ρ'->Rep X.K ρ' σ' H'->Fr0 ρ ρ' H H'->E.nx σ' H'
 bk:∀ρ' σ' H',P.bk ρ'->Rep X.K ρ' σ' H'->Fr0 ρ ρ' H H'->E.bk σ' H'
 ct:∀ρ' σ' H',P.ct ρ'->Rep X.K ρ' σ' H'->Fr0 ρ ρ' H H'->E.ct σ' H'
 rt:∀r v H',P.rt r->j1h X.K ρ H H' v r->E.rt v H'
 ex:∀x ρ' σ' H',P.ex x ρ'->Rep X.K ρ' σ' H'->Fr0 ρ ρ' H H'->j8g X σ' H' x
def j1h.step{ρ1:Rho}{r:Rt}(f:Fr0 ρ ρ1 H H1)(h:j1h K ρ1 H1 H' v r):j1h K ρ H H' v r:=by
 cases r with
 |val d=>exact⟨f.trans h.1,h.2⟩
 |fresh ds=>obtain⟨a,xs,e,g,m,l⟩:=h;exact⟨a,xs,e,f.trans g,m,l⟩
theorem EndsOk.step{X:Cx}{ρ ρ1:Rho}{H H1:Hp}{P:Po}{E:Ends}(h:EndsOk X ρ H P E)(f:Fr0 ρ ρ1 H H1):EndsOk X ρ1 H1 P E :=
 ⟨λρ' σ' H' n R g=>h.nx ρ' σ' H' n R (f.trans g),λρ' σ' H' n R g=>h.bk ρ' σ' H' n R (f.trans g),λρ' σ' H' n R g=>h.ct ρ' σ' H' n R (f.trans g),λr v H' n g=>h.rt r v H' n (j1h.step f g),λx ρ' σ' H' n R g=>h.ex x ρ' σ' H' n R (f.trans g)⟩
def Fr0.grow(g:j0 H H'):Fr0 ρ ρ H H':=jg g
theorem Fr0.refl(ρ:Rho)(H:Hp):Fr0 ρ ρ H H:=j0.refl _
def Fr0.drop{ρ':Rho}(h:∀b∈owns ρ',b∈owns ρ):Fr0 ρ ρ' H H:=Jh h
def Fr0.new(R:Rep K ρ σ H)(g:j0 H H')(n:H a=af):Fr0 ρ (ρ.set i (.own a ds)) H H':=λb o q=>by
 obtain⟨nb,q⟩:=of_del q;rw[j5];exact g b o q;intro z;rcases(Q7 (ds:=ds) (i:=i) R.nd (R.fresh n)).2 b z with e|z
 .subst e;rw[n]at q;cases q
 .exact nb z
def DS(X:Cx)(ρ:Rho)(st:aX)(P:Po):Prop:=∀σ H E,Rep X.K ρ σ H->EndsOk X ρ H P E->jc5 X st E σ H
def DSs(X:Cx)(ρ:Rho)(sts:List aX)(P:Po):Prop:=∀σ H E,Rep X.K ρ σ H->EndsOk X ρ H P E->Yo X sts E σ H
section
variable{X:Cx}{ρ:Rho}{e a b c:av}{es:List av}{st:aX}{rest sa sb body:List aX}{P:Po}{d:D}{ds ds':List D}{pos p p1 p2 p3:aP}{x:au}{i:Nat}
def DSs.nil(h:P.nx ρ):DSs X ρ [] P:=λσ H E R q=>jh1.to (q.nx ρ σ H h R (Fr0.refl ρ H))
def DSs.cons{N:Rho->Prop}(h1:DS X ρ st { P with nx:=N })(h2:∀ρ1,N ρ1->DSs X ρ1 rest P):DSs X ρ (st::rest) P:=λσ H E R q =>(Y6 psS j0l).to (h1 σ H { E with nx:=Yo X rest E } R ⟨λρ' σ' H' n R' f=>h2 ρ' n σ' H' E R' (q.step f),q.bk,q.ct,q.rt,q.ex⟩)
theorem DSs.freeze(i:Nat){l:ai}(h:ρ[i]?=a8 (.own l ds))(h2:DSs X (ρ.set i (.val (.lst ds))) body P):DSs X ρ body P:=λσ H E R q =>h2 σ H E (R.freeze h) (q.step (.drop λb hb=>(qe rfl).subset hb))
def DSs.forget(i:Nat)(h2:DSs X (ρ.set i .un) body P):DSs X ρ body P:=λσ H E R q=>by
 have z:=R.set_un (i:=i) (v:=af);have R':Rep X.K (ρ.set i .un) σ H:=by
  have q:=R.set_un (i:=i) (v:=(σ[i]?).join);have e:σ.set i ((σ[i]?).join)=σ:=by
   apply Xy;intro j;rw[cP];split
   .rename_i h;subst h;split
    .rename_i h;rw[kh h];rfl
    .rename_i h;rw[Xc nofun]
   .rfl
  rw[e]at q;exact q
 exact h2 σ H E R' (q.step (.drop λb hb=>(qe rfl).subset hb))
theorem DS.set(i:Nat)(he:DE X ρ e d)(h:P.nx (ρ.set i (.val d)))(hN:X.N.Nodup)(hi:X.N[i]?=a8 x:=by rfl)(hx:Loc X.env.scope x:=by first|exact bf rfl|exact bH rfl)
  (hs:aT e (a8 (.Name x p)) pos.line X.env=pure a9:=by rfl) (hf:X.fn x=ae\/X.env.scope.names.lookup x=a8 .local:=by first|exact .inl rfl|exact .inr rfl):DS X ρ (.Assign [.Name x p] e pos) P:=λσ H E R q =>
 (Ro hN hi hx peS hs hf).to (he σ H _ R λv H1 g1 e1=>q.nx _ _ H1 h ((R.grow g1).set_val e1) (j0.trans (Fr0.grow g1) (Fr0.drop λb hb=>(qe rfl).subset hb)))
def DS.setO(i:Nat)(he:DO X ρ e ds)(h:∀l,P.nx (ρ.set i (.own l ds)))(hN:X.N.Nodup)(hi:X.N[i]?=a8 x:=by rfl)(hx:Loc X.env.scope x:=by first|exact bf rfl|exact bH rfl)
  (hs:aT e (a8 (.Name x p)) pos.line X.env=pure a9:=by rfl) (hf:X.fn x=ae\/X.env.scope.names.lookup x=a8 .local:=by first|exact .inl rfl|exact .inr rfl):DS X ρ (.Assign [.Name x p] e pos) P:=λσ H E R q =>
 (Ro hN hi hx peS hs hf).to (he σ H _ R λl xs H1 g1 n m e1=>q.nx _ _ H1 (h l) (R.set_own g1 n m e1) (.new R g1 n))
def DS.if{k:Bool}(hc:DB X ρ c k)(ha:k=ae->DSs X ρ sa P)(hb:k=a9->DSs X ρ sb P):DS X ρ (.If c sa sb pos) P:=λσ H E R q =>
 (jnz ptS j0l j0l).to (hc σ H _ R λH1 g1=>by
  cases k with
  |true=>exact j4n (ha rfl σ H1 E (R.grow g1) (q.step (.grow g1)))
  |false=>exact j4o (hb rfl σ H1 E (R.grow g1) (q.step (.grow g1))))
def DS.ret(he:DT X ρ e d)(h:P.rt (.val d)):DS X ρ (.Return (a8 e) pos) P:=λσ H E R q =>(Ow peS).to (he σ H _ R λv H1 g1 e1=>q.rt _ v H1 h ⟨jw.trans g1,e1⟩)
def DS.retO(he:DO X ρ e ds)(h:P.rt (.fresh ds)):DS X ρ (.Return (a8 e) pos) P:=λσ H E R q =>
 (Ow peS).to (he σ H _ R λl xs H1 g1 n m e1=>q.rt _ _ H1 h ⟨l,xs,rfl,(λb o z=>by
  obtain⟨nb,z⟩:=of_del z
  rw[j5];exact g1 b o z
  intro y;rw[xu.mp y,n]at z;cases z),m,e1.mono (Jh λb hb=>by rw[xu.mp hb];exact X6 ..)⟩)
def DS.retV(k:Nat)(hk:ρ[k]?=a8 (.own l ds))(h:P.rt (.fresh ds))(hN:X.N[k]?=a8 x:=by rfl)(hv:Vis X.env.scope x:=by first|exact bf rfl|exact bH (bf rfl)|exact bH (bH rfl))
  (hd:(x==k9o)=a9:=by decide) (hcd:(x==k9p)=a9:=by decide):DS X ρ (.Return (a8 (.Name x p)) pos) P:=λσ H E R q=>by
 obtain⟨hs,xs,m,en⟩:=R.own k l ds hk;have g:j0 (del H (owns ρ)) (del H [l]):=Jh λb hb=>by rw[xu.mp hb];exact Ql hk
 exact(Ow (vz hN hv hd hcd)).to ⟨_,hs,q.rt _ _ H h ⟨l,xs,rfl,g,m,en.mono g⟩⟩
def DS.expr(he:DT X ρ e d)(h:P.nx ρ)(hs:aT e af pos.line X.env=pure a9:=by rfl):DS X ρ (.Expr e pos) P:=λσ H E R q =>(Nr peS hs).to (he σ H _ R λv H1 g1 e1=>q.nx ρ σ H1 h (R.grow g1) (.grow g1))
def Bh{σ:St}(hk:ρ[i]?=a8 (.own l ds))(g:j0 H H'):Fr0 ρ (ρ.set i (.own l ds')) H (upd H' l o):=by unfold Fr0;rw[V6 hk,Up (Ql hk)];exact jg g
theorem DS.append(i:Nat){l:ai}(hk:ρ[i]?=a8 (.own l ds))(he:DE X ρ e d)(hl:ds.length<aw)(h:P.nx (ρ.set i (.own l (ds++[d]))))
  (hN:X.N[i]?=a8 x:=by rfl) (hv:Vis X.env.scope x:=by first|exact bf rfl|exact bH (bf rfl)|exact bH (bH rfl)) (hd:(x==k9o)=a9:=by decide) (hcd:(x==k9p)=a9:=by decide)
  (hst:aj [e] X.env=[(a9,aC e X.env)]:=by rfl) (hline:(p1.endLine==p2.line)=ae:=by rfl)
  (hbase:aL (.Name x p) "append" X.env (aC (.Name x p) X.env)=aC (.Name x p) X.env:=by rfl) (hfew:((aR p2 (aj [e] X.env)).all (λx=>!x.1)&&(br p2 (aV [] X.env)).all (λx=>x.1.isSome)
   && decide (([e]:List av).length+([]:List aS).length+(if ([]:List aS).isEmpty then 0 else 1)<30))=ae:=by rfl)
  (hs:aT (.Call (.Attribute (.Name x p) "append" p1) [e] [] p2) af pos.line X.env=pure a9:=by rfl) :
  DS X ρ (.Expr (.Call (.Attribute (.Name x p) "append" p1) [e] [] p2) pos) P:=λσ H E R q=>by
 obtain⟨hσ,xs,m,en⟩:=R.own i l ds hk;refine(Nr (Ud Tn eF gX Bb (vz hN hv hd hcd) (ji peS qb hst) hbase hfew hline hst rfl) hs).to ?_;refine⟨_,hσ,.inl ⟨rfl,xs,.inl (.inl m)⟩,he σ H _ R λv H1 g1 e1=>⟨l,xs,v,rfl,rfl,g1 _ _ m,by rw[en.length];exact hl,?_⟩⟩;exact q.nx _ σ _ h ((R.grow g1).upd_own hk ((en.mono (jg g1)).append (.one e1))) (Bh (σ:=σ) hk g1)
theorem DS.extend(i:Nat){l:ai}(hk:ρ[i]?=a8 (.own l ds))(he:DO X ρ e ds')(hl:ds.length+ds'.length<=aw)(h:P.nx (ρ.set i (.own l (ds++ds'))))
  (hN:X.N[i]?=a8 x:=by rfl) (hv:Vis X.env.scope x:=by first|exact bf rfl|exact bH (bf rfl)|exact bH (bH rfl)) (hd:(x==k9o)=a9:=by decide) (hcd:(x==k9p)=a9:=by decide)
  (hst:aj [e] X.env=[(a9,aC e X.env)]:=by rfl) (hline:(p1.endLine==p2.line)=ae:=by rfl)
  (hbase:aL (.Name x p) "extend" X.env (aC (.Name x p) X.env)=aC (.Name x p) X.env:=by rfl) (hfew:((aR p2 (aj [e] X.env)).all (λx=>!x.1)&&(br p2 (aV [] X.env)).all (λx=>x.1.isSome)
   && decide (([e]:List av).length+([]:List aS).length+(if ([]:List aS).isEmpty then 0 else 1)<30))=ae:=by rfl)
  (hs:aT (.Call (.Attribute (.Name x p) "extend" p1) [e] [] p2) af pos.line X.env=pure a9:=by rfl) :
  DS X ρ (.Expr (.Call (.Attribute (.Name x p) "extend" p1) [e] [] p2) pos) P:=λσ H E R q=>by
 obtain⟨hσ,xs,m,en⟩:=R.own i l ds hk;refine(Nr (Ud Tn iR PySem.F.type_list_extend ja5 (vz hN hv hd hcd) (ji peS qb hst) hbase hfew hline hst rfl) hs).to ?_;refine⟨_,hσ,.inl ⟨rfl,xs,.inl (.inl m)⟩,he σ H _ R λb ys H1 g1 n1 m1 e1=>⟨l,b,xs,ys,rfl,rfl,g1 _ _ m,m1,by rw[en.length,e1.length];exact hl,?_⟩⟩;exact q.nx _ σ _ h ((R.grow g1).upd_own hk ((en.mono (jg g1)).append (e1.mono (Jh λc hc=>xn _ hc)))) (Bh (σ:=σ) hk g1)
def Ub(K:k9k)(F:Hp)(J:It)(ds:List D):Prop:=∀(i:Nat)(H:Hp)(A:List ai),j0 F (del H A)->(∀a∈A,H a≠af) ->
 (i<ds.length->J.go i H)/\(ds.length<=i->J.stop i H)/\∀x H',J.yld i H x H'->j0 H H'/\∀d,ds[i]?=a8 d->Enc K (del H' A) d x
def DI(X:Cx)(ρ:Rho)(tg it:av)(ds:List D):Prop:=∀σ H R,Rep X.K ρ σ H->(∀J H',j0 H H'->Ub X.K (del H' (owns ρ)) J ds->R J H')->Cu X tg it σ H R
variable{tg it:av}
def jae{F:Hp}(sq:SqL K F l xs)(en:j4 K F ds xs):Ub K F (Itl K l) ds:=λi H A g hA=>by
 have sq':SqL K H l xs:=jw.seq (g.seq sq);refine⟨λh=>?_,λh=>⟨xs,sq',by rw[en.length];exact h⟩,λx H' ⟨e,y⟩=>?_⟩
 .obtain⟨v,hv,_⟩:=en.get (kh h);exact⟨xs,v,sq',hv⟩
 .subst e;refine⟨j0.refl _,λd hd=>?_⟩;obtain⟨v,hv,ev⟩:=en.get hd;have e:=y xs sq';rw[hv]at e;cases e;exact ev.mono g
def jd6{F:Hp}(sq:SqT K F l xs)(en:j4 K F ds xs):Ub K F (Itt K l) ds:=λi H A g hA=>by
 have sq':SqT K H l xs:=jw.seqT (g.seqT sq);refine⟨λh=>?_,λh=>⟨xs,sq',by rw[en.length];exact h⟩,λx H' ⟨e,y⟩=>?_⟩
 .obtain⟨v,hv,_⟩:=en.get (kh h);exact⟨xs,v,sq',hv⟩
 .subst e;refine⟨j0.refl _,λd hd=>?_⟩;obtain⟨v,hv,ev⟩:=en.get hd;have e:=y xs sq';rw[hv]at e;cases e;exact ev.mono g
theorem DI.lst(h:DE X ρ it (.lst ds)):DI X ρ tg it ds:=λσ H R r q=>(jh5 peS).to (h σ H _ r λv H1 g1 ⟨l,xs,e,sq,en⟩=>⟨l,e,⟨xs,jw.seq sq⟩,q _ H1 g1 (jae sq en)⟩)
theorem DI.tup(h:DE X ρ it (.tup ds)):DI X ρ tg it ds:=λσ H R r q=>(jjz peS).to (h σ H _ r λv H1 g1 ⟨l,xs,e,sq,en⟩=>⟨l,e,⟨xs,jw.seqT sq⟩,q _ H1 g1 (jd6 sq en)⟩)
noncomputable def upto(lo:Int)(n:Nat):List D:=(ao n).map λk=>D.int (lo+(k:Nat))
def Iz{F:Hp}(lo:Int)(n:Nat):Ub K F (Itr lo n) (upto lo n):=λi H A g hA=>by
 have hl:(upto lo n).length=n:=by unfold upto;rw[xg,Xg]
 rw[hl];refine⟨λh=>h,λh=>h,λx H' ⟨e,y⟩=>?_⟩;subst e;refine⟨j0.refl _,λd hd=>?_⟩;unfold upto at hd;rw[xm]at hd;cases z:(ao n)[i]? with
 |none=>rw[z]at hd;cases hd
 |some k =>
  rw[z]at hd;have ek:k=i:=by have:=Xm (n:=n) (i:=i) (by have:=(Xe.mp z).1;rwa [Xg]at this);rw[this]at z;exact(ax z).symm
  subst ek;cases hd;exact y
def DI.range1 {n:Int} (h:DT X ρ a (.int n)) (hm:X.mg "range" = af) (h1:-(2^62)<=n) (h2:n<2^62) (hg:Gl X "range":=by rfl) (hs:aj [a] X.env=[(a9,aC a X.env)]:=by rfl):DI X ρ tg (.Call (.Name "range" p) [a] [] pos) (upto 0 n.toNat):=λσ H R r q =>(j9p hg hm (ji peS qb hs) hs).to (h σ H _ r λv H1 g1 e=>⟨n,by rw[show v=.int n from e],h1,h2,q _ H1 g1 (Iz 0 _)⟩)
def DI.range2 {m n:Int} (h:DT X ρ a (.int m)) (h':DT X ρ b (.int n)) (hm:X.mg "range" = af) (h1:-(2^62)<=m) (h2:m<2^62) (h3:-(2^62)<=n) (h4:n<2^62) (hg:Gl X "range":=by rfl) (hs:aj [a,b] X.env=[(a9,aC a X.env),(a9,aC b X.env)]:=by rfl)
  (hs2:aj [b] X.env=[(a9,aC b X.env)]:=by rfl) (hs3:aj [a,b] X.env=(a9,aC a X.env)::aj [b] X.env:=by rfl):DI X ρ tg (.Call (.Name "range" p) [a,b] [] pos) (upto m (n-m).toNat):=λσ H R r q =>
 (j9o hg hm (ji peS (ji peS qb hs2) hs3) hs hs2).to (h σ H _ r λv H1 g1 e=>h' σ H1 _ (r.grow g1) λu H2 g2 e2=>⟨m,n,by rw[show v=.int m from e,show u=.int n from e2],⟨h1,h2,h3,h4⟩,q _ H2 (g1.trans g2) (Iz m _)⟩)
def jc6(X:Cx)(tg:av):TG:=λv σ H Q=>∀pins s u,Inv X pins σ H s->RelV v u->ay (aB X.prog X.w) X.A (dk tg X.env u) (λ_ s'=>∃σ' H',Inv X pins σ' H' s'/\Q σ' H') X.xe s
def pgS:PG X tg (jc6 X tg):=λpins s σ H v u Q I r h=>h pins s u I r
def PG.to{t:TG}{Q:St->Hp->Prop}(h:PG X tg t)(q:t v σ H Q):jc6 X tg v σ H Q:=λpins s u I r=>h pins s σ H v u Q I r q
def DG(X:Cx)(ρ:Rho)(tg:av)(d:D)(ρ':Rho):Prop:=(∀b∈owns ρ',b∈owns ρ)/\∀σ H v Q,Rep X.K ρ σ H->Enc X.K (del H (owns ρ)) d v->(∀σ',Rep X.K ρ' σ' H->Q σ' H)->jc6 X tg v σ H Q
def DG.name(i:Nat)(hN:X.N.Nodup)(hi:X.N[i]?=a8 x:=by rfl)(hx:Loc X.env.scope x:=by first|exact bf rfl|exact bH rfl)(hf:X.fn x=ae\/X.env.scope.names.lookup x=a8 .local:=by first|exact .inl rfl|exact .inr rfl):DG X ρ (.Name x p) d (ρ.set i (.val d)) :=
 ⟨λb hb=>(qe rfl).subset hb,λσ H v Q R en q=>(Rq hN hi hx hf).to (q _ (R.set_val en))⟩
def DS.for(W:Nat->Rho->Prop)(hi:DI X ρ tg it ds)(h0:W 0 ρ)(hs:∀i d ρ',ds[i]?=a8 d->W i ρ'->∃ρ2,DG X ρ' tg d ρ2/\DSs X ρ2 body { nx:=W (i+1),rt:=P.rt,bk:=P.nx,ct:=W (i+1),ex:=P.ex })
  (hd:∀ρ',W ds.length ρ'->P.nx ρ') (hc:X.calm=ae) (hp:g6 (aB X.prog X.w) X.A X.env X.xe) (hf:∀x,aH it X.env x=pure x:=by intro _;rfl):DS X ρ (.For tg it body [] pos) P:=λσ H E R q=>by
 refine(j40 hp hc piS pgS j0l hf).to (hi σ H _ R λJ H1 g1 ok=>?_);refine⟨λi m σ' H'=>∃ρ',W i ρ'/\Rep X.K ρ' σ' H'/\Fr0 ρ ρ' H1 H'/\m=ds.length-i/\i<=ds.length,⟨ds.length,ρ,h0,R.grow g1,Fr0.refl _ _,rfl,S9 _⟩,?_⟩;rintro i m σ' H' ⟨ρ',w,R',f,rfl,hle⟩;obtain⟨go,stop,yld⟩:=ok i H' (owns ρ') f λa ha=>by obtain⟨xs,e⟩:=R'.owned a ha;rw[e];simp
 by_cases hlt:i<ds.length
 .refine .inr ⟨go hlt,λσ2 H2=>∃ρ2,W (i+1) ρ2/\Rep X.K ρ2 σ2 H2/\Fr0 ρ ρ2 H1 H2,λσ2 H2 ⟨ρ2,w2,R2,f2⟩=>⟨ds.length-(i+1),by omega,ρ2,w2,R2,f2,rfl,hlt⟩,λx H2 y=>?_⟩;obtain⟨g2,en⟩:=yld x H2 y;obtain⟨ρ2,⟨sub,hG⟩,hB⟩:=hs i ds[i] ρ' (kh hlt) w;refine hG σ' H2 x _ (R'.grow g2) (en _ (kh hlt)) λσ3 R3=>?_;have f2:Fr0 ρ ρ2 H1 H2:=j0.trans f (j0.trans (Fr0.grow g2) (Fr0.drop sub));refine hB σ3 H2 _ R3 ⟨λρ3 σ4 H4 n R4 f4=>⟨ρ3,n,R4,f2.trans f4⟩,λρ3 σ4 H4 n R4 f4=>q.nx ρ3 σ4 H4 n R4 ((Fr0.grow g1).trans (f2.trans f4)),λρ3 σ4 H4 n R4 f4=>⟨ρ3,n,R4,f2.trans f4⟩,λr v H4 n z=>q.rt r v H4 n (j1h.step ((Fr0.grow g1).trans f2) z),λx ρ3 σ4 H4 n R4 f4=>q.ex x ρ3 σ4 H4 n R4 ((Fr0.grow g1).trans (f2.trans f4))⟩
 .have e:i=ds.length:=by omega
  subst e;exact .inl ⟨stop (X8 _),q.nx ρ' σ' H' (hd ρ' w) R' ((Fr0.grow g1).trans f)⟩
end
noncomputable def zb(N:List au)(ds:List D):Rho:=ds.map Sl.val++ak (N.length-ds.length) Sl.un
def Wx(N:List au)(ds:List D):owns (zb N ds)=[]:=by
 unfold owns zb;rw[List.filterMap_append];have h1:(ds.map Sl.val).filterMap Sl.addr=[]:=List.filterMap_eq_nil_iff.mpr λs hs=>by obtain⟨d,_,rfl⟩:=xr.mp hs;rfl
 have h2:(ak (N.length-ds.length) Sl.un).filterMap Sl.addr=[]:=List.filterMap_eq_nil_iff.mpr λs hs=>by rw[(Ss.mp hs).2];rfl
 rw[h1,h2];rfl
variable{N:List au}
def Ou{vs:List V}(tb:TabOk K H)(h:j4 K H ds vs):Rep K (zb N ds) (start N vs) H:=by
 have ho:=Wx N ds;have hl:=h.length;refine⟨by unfold zb start;simp[hl],λi d e=>?_,λi a l e=>?_,by rw[ho];exact dz,λi a o y e=>?_,tb⟩
 .rw[ho,Qd];unfold zb at e;by_cases z:i<ds.length
  .rw[Tf (by simpa using z),xm]at e;rw[kh z]at e;cases e;obtain⟨v,hv,en⟩:=h.get (kh z);refine⟨v,?_,en⟩;unfold start;rw[Tf (by rw[xg,hl];exact z),xm,hv];rfl
  .rw[dB (by simpa using z)]at e;have:=Xp e;cases(Ss.mp this).2
 .have:=Ql e;rw[ho]at this;cases this
 .unfold zb at e;rcases P0.mp (Xp e)with z|z
  .obtain⟨d,_,q⟩:=xr.mp z;cases q
  .cases(Ss.mp z).2
section
variable{P:az}{w:aD}{K:k9k}{mg:k9n}{base:aE}{x qual:au}{st:aX}{f:ai}{fd:aJ}{N ps:List au}{k:Nat}
def K8(K:k9k)(f:ai)(cdv:ah):Prop:=∃(oc:ah)(od:Option ai)(fd:aJ)(sl:Array (Option ah)),K.lookup f=a8 ⟨oc,od,.func fd,sl⟩/\fd.code=cdv
def Fun.okC{sp:Sp}(F:Fun K x qual st f fd)(S:FnScope N ps (jn st))(len:∀vs H Q E,sp vs H Q E->vs.length=ps.length)
  (hbody:∀(cdv:ah)(A:aF)(outer:List dR)(s:aq)(H:Hp)(vs:List V)(Q:VK) (E:XK),K8 K f cdv->Room k (A.deeper (fj qual (jn st) s.heap.objs.size f cdv))->sp vs H Q E ->
   ∃t,PSs (Ua CX0 P w K mg base N qual (jn st) f cdv A outer s H E).nox (ql st) t/\t { nx:=λ_ H'=>Q .non H',rt:=Q } (start N vs) H):FnOk P w K mg base CX0 (k+1) f fd ps sp:=by
 obtain⟨oc,od,dV,kV,doc,pm,an,cdv,ct,osl,rfl,lk,hcd⟩:=F.ex;refine jos lk hcd S len λA outer s H vs Q E hr hsp=>?_;obtain⟨t,h,q⟩:=hbody cdv A outer s H vs Q E ⟨oc,od,_,osl,lk,rfl⟩ hr hsp;exact⟨t,h.nox,q⟩
def j12{S:List D->D->Prop}(F:Fun K x qual st f fd)(Sc:FnScope N ps (jn st))(hl:∀ds d,S ds d->ds.length=ps.length)
  (hbody:∀(cdv:ah)(A:aF)(outer:List dR)(s:aq)(H:Hp)(E:XK),K8 K f cdv->Room k (A.deeper (fj qual (jn st) s.heap.objs.size f cdv))->∀ds d,S ds d ->
   DSs (Ua CX0 P w K mg base N qual (jn st) f cdv A outer s H E).nox (zb N ds) (ql st) { nx:=λ_=>d=.non,rt:=λr=>r.d=d }):FnOk P w K mg base CX0 (k+1) f fd ps (spP K S):=by
 refine FnOk.toP (F.okC Sc (λvs H Q E ⟨ds,d,tb,en,hS,_⟩=>by rw[en.length];exact hl ds d hS) λcdv A outer s H vs Q E hcv hr ⟨ds,d,tb,en,hS,q⟩=>⟨_,j0l,?_⟩);have ho:=Wx N ds;refine hbody cdv A outer s H E hcv hr ds d hS (start N vs) H _ (Ou tb en) ⟨λρ' σ' H' n R f=>?_,λ_ _ _ z=>z.elim,λ_ _ _ z=>z.elim,λr v H' n z=>?_,λ_ _ _ _ z=>z.elim⟩
 .subst n;unfold Fr0 at f;rw[ho,Qd]at f;exact q _ H' (f.trans jw) rfl
 .cases r with
  |val d' =>cases(show d'=d from n);obtain⟨g,en'⟩:=z;rw[ho,Qd]at g;exact q v H' g en'
  |fresh l =>cases(show D.lst l=d from n);obtain⟨a,xs,e,g,m,en'⟩:=z;rw[ho,Qd]at g;exact q v H' (g.trans jw) ⟨a,xs,e,.inl (.inl m),en'.mono jw⟩
def jdh{S:List D->List D->Prop}(F:Fun K x qual st f fd)(Sc:FnScope N ps (jn st))(hl:∀ds d,S ds d->ds.length=ps.length)
  (hbody:∀(cdv:ah)(A:aF)(outer:List dR)(s:aq)(H:Hp)(E:XK),K8 K f cdv->Room k (A.deeper (fj qual (jn st) s.heap.objs.size f cdv))->∀ds l,S ds l ->
   DSs (Ua CX0 P w K mg base N qual (jn st) f cdv A outer s H E).nox (zb N ds) (ql st) { nx:=λ_=>False,rt:=λr=>r=.fresh l }):FnOk P w K mg base CX0 (k+1) f fd ps (spF K S):=by
 refine FnOk.toF (F.okC Sc (λvs H Q E ⟨ds,d,tb,en,hS,_⟩=>by rw[en.length];exact hl ds d hS) λcdv A outer s H vs Q E hcv hr ⟨ds,l,tb,en,hS,q⟩=>⟨_,j0l,?_⟩);have ho:=Wx N ds;refine hbody cdv A outer s H E hcv hr ds l hS (start N vs) H _ (Ou tb en) ⟨λρ' σ' H' n R f=>n.elim,λ_ _ _ z=>z.elim,λ_ _ _ z=>z.elim,λr v H' n z=>?_,λ_ _ _ _ z=>z.elim⟩;cases(show r=.fresh l from n);obtain⟨a,xs,e,g,m,en'⟩:=z;rw[ho,Qd]at g;subst e;refine q a xs H' (g.trans jw) ?_ m en';cases y:H a with
 |none=>rfl
 |some o=>have:=g a o y;rw[qy (xu.mpr rfl)]at this;cases this
end
variable{scope:be}{pos:aP}{env:dR}
section
variable{prog:az}{w:aD}{A:aF}{R:fh->aq->Prop}{s:aq}
def j54{elt target iter:av}{ifs:List av}{it acc:ah}(I:Nat->aq->Prop)
  (turn:∀n s,I n s->ay (aB prog w) A (cZ it) (λr s₁=>match r with
   |none=>R (.ok .next) s₁
   |some v=>ay (aB prog w) A (fq target it v) (λ_ s₁'=>ay (aB prog w) A (dk target env v) (λ_ s₂ =>
     ay (aB prog w) A (forIn ifs ae λc r=>if r=ae then do let ok <-gH c env (aC c env);pure (cb ok)else pure (cb r)) (λok s₃ =>
      if ok=ae then ay (aB prog w) A (aC elt env) (λx s₄ =>
       ay (aB prog w) A (call (.builtin "list.append") [acc,x]) (λ_ s₅=>∃m,m<n/\I m s₅) (λ_ _=>False) s₄) (λ_ _=>False) s₃
      else ∃m,m<n/\I m s₃) (λ_ _=>False) s₂) (λ_ _=>False) s₁') (λ_ _=>False) s₁) (λ_ _=>False) s)
  (n:Nat) (h:I n s) :
  bZ (aB prog w) A (.compLoop (.ListComp elt [⟨target,iter,ifs,0⟩] scope pos) 0 it acc env) R s:=by
 refine codeAny_loop rfl I (λn s hI=>?_) n h;show ay _ A ((compTurn (.ListComp elt [⟨target,iter,ifs,0⟩] scope pos) 0 it acc env).onRaise (λx=>do noteFrame x env;theTreesLotGoes x)) _ _ s;refine wpAny_noted ?_;rw[compTurn_list];refine aa (gu (aa (bC (turn n s hI) (λr s₁ h₁=>?_) λ_ _ h'=>h'.elim)));cases r with
 |none=>exact ar h₁
 |some v =>
  refine aa (bC h₁ (λ_ s₁' h₁'=>?_) λ_ _ h'=>h'.elim);refine aa (bC h₁' (λ_ s₂ h₂=>aa (bC h₂ (λok s₃ h₃=>?_) λ_ _ h'=>h'.elim)) λ_ _ h'=>h'.elim);cases ok with
  |false=>exact ar ⟨rfl,h₃⟩
  |true =>exact aa (aa (bC h₃ (λx s₄ h₄=>aa (bC h₄ (λ_ s₅ h₅=>ar (ar ⟨rfl,h₅⟩)) λ_ _ h'=>h'.elim)) λ_ _ h'=>h'.elim))
end
noncomputable def zr(env:dR):List (au×bF)->List (au×ai)->List (au×ai)
 |[],acc=>acc
 |(n,k)::r,acc=>zr env r (if k==.free then(match env.cells.lookup n with|some a=>(n,a)::acc|none=>acc)else acc)
def Ep(h:∀y∈scope.names,y.2=.free->(env.cells.lookup y.1).isSome=ae):dZ scope env=pure (zr env scope.names []):=by
 simp only[dZ];have step:∀(names:List (au×bF)) (acc:List (au×ai)),(∀y∈names,y.2=.free->(env.cells.lookup y.1).isSome=ae) ->
   (forIn names acc (λx r=>(do if (x.2==bo)=ae then(do let a <-cellOf env x.1;pure (cb ((x.1,a)::r)))else pure (cb r):Sem _)):Sem _)=pure (zr env names acc):=by
  intro names;induction names with
  |nil=>intro acc _;rfl
  |cons y r ih =>
   intro acc hy;obtain⟨n,k⟩:=y;rw[gQ];by_cases e:(k==bo)=ae
   .have hk:k=.free:=by simpa using e
    have hs:=hy (n,k) (X6 ..) hk;obtain⟨a,ha⟩:=tu.mp hs;have hc:cellOf env n=pure a:=by unfold cellOf;rw[ha]
    simp only[e,if_true,hc,pure_bind];rw[ih _ λz hz=>hy z (xn _ hz)];simp only[zr,e,if_true,ha]
   .have e':(k==bo)=a9:=by simpa using e
    simp only[e',Pn,if_false,pure_bind];rw[ih _ λz hz=>hy z (xn _ hz)];simp only[zr,e',Pn,if_false]
 have:=step scope.names [] h;rw[show(forIn scope.names ([]:List (au×ai)) λx r=>_)=_ from this];rfl
theorem j2f{env:dR}{y:au}{c:ai}:∀{names:List (au×bF)} {acc:List (au×ai)},(∀y c,acc.lookup y=a8 c->env.cells.lookup y=a8 c)->(zr env names acc).lookup y=a8 c->env.cells.lookup y=a8 c
 |[],acc,h,q=>h y c q
 |(n,k)::r,acc,h,q=>by
  unfold zr at q;refine j2f (acc:=_) ?_ q;intro z d hz;split at hz
  .split at hz
   .rename_i a ha;rw[Xw]at hz;split at hz
    .rename_i e;have e':z=n:=by simpa using e
     subst e';cases hz;exact ha
    .exact h z d hz
   .exact h z d hz
  .exact h z d hz
theorem Er{env:dR}{y:au}:∀{names:List (au×bF)} {acc:List (au×ai)},(acc.lookup y).isSome=ae->((zr env names acc).lookup y).isSome=ae
 |[],acc,h=>h
 |(n,k)::r,acc,h=>by
  unfold zr;refine Er ?_;split
  .split
   .rw[Xw];split
    .rfl
    .exact h
   .exact h
  .exact h
theorem O3{env:dR}{y:au}(hs:(env.cells.lookup y).isSome=ae):∀{names:List (au×bF)} {acc:List (au×ai)},(y,bo)∈names->((zr env names acc).lookup y).isSome=ae
 |[],acc,h=>nomatch h
 |(n,k)::r,acc,h=>by
  unfold zr;rcases Xb.mp h with e|h
  .cases e;refine Er ?_;obtain⟨a,ha⟩:=tu.mp hs;rw[if_pos (by rfl),ha];rw[Xw];simp
  .exact O3 hs h
noncomputable def Jp(scope:be)(env:dR)(N:List au)(cs:List Nat):Bool :=
 scope.names.all (λy=>(y.2 != .cell || scope.names.lookup y.1==a8 .cell)&&(y.2 != .local || scope.names.lookup y.1==a8 .local)&&(y.2 != .free || ((env.cells.lookup y.1).isSome&&(env.kindOf y.1==a8 .cell || env.kindOf y.1==a8 .free)))) &&
 (ao N.length).all (λj=>cs.contains j || (match N[j]? with|some y=>scope.names.lookup y != a8 .local&&scope.names.lookup y != a8 .cell|none=>ae))
def lookup_mem{β:Type}[BEq α][LawfulBEq α]{l:List (α×β)}{a:α}{b:β}(h:l.lookup a=a8 b):(a,b)∈l:=by
 induction l with
 |nil=>cases h
 |cons x r ih =>
  obtain⟨c,d⟩:=x;rw[Xw]at h;split at h
  .rename_i e;cases h;have e':a=c:=by simpa using e
   subst e';exact X6 ..
  .exact xn _ (ih h)
theorem Jk{env:dR}{x:au}{k':bF}:∀{names:List (au×bF)},
  (names.map λ(n,k)=>if (k==bo&&env.scope.kind==.function&&env.kindOf n==a8 .cell) then(n,bL) else(n,k)).lookup x=a8 k' ->
  ∃k,names.lookup x=a8 k/\(k'=k\/(k=.free/\k'=.cell))
 |[],h=>by cases h
 |(n,k)::r,h=>by
  rw[X7]at h;rw[Xw];by_cases hc:(k==bo&&env.scope.kind==.function&&env.kindOf n==a8 .cell)=ae
  .dsimp only at h;rw[if_pos hc,Xw]at h;cases e:x==n with
   |true =>
    rw[e]at h;cases h;have:(k==bo)=ae:=by
     cases z:k==bo with
     |true=>rfl
     |false=>rw[z]at hc;simp at hc
    exact⟨k,rfl,.inr ⟨by simpa using this,rfl⟩⟩
   |false=>rw[e]at h;exact Jk h
  .dsimp only at h;rw[if_neg hc,Xw]at h;cases e:x==n with
   |true=>rw[e]at h;cases h;exact⟨_,rfl,.inl rfl⟩
   |false=>rw[e]at h;exact Jk h
theorem W6:∀(names:List (au×bF)) (n:Nat) (acc:List (au×ai)),aW n names acc=aW n names []++acc
 |[],_,_=>rfl
 |(x,k)::r,n,acc=>by
  unfold aW;split
  .rw[W6 r (n+1) ((x,n)::acc),W6 r (n+1) [(x,n)],t8];rfl
  .exact W6 r n acc
theorem Es:∀{names:List (au×bF)} {n:Nat} {x:au} {c:ai},(x,c)∈aW n names []->(x,bL)∈names/\n<=c
 |[],_,_,_,h=>nomatch h
 |(y,k)::r,n,x,c,h=>by
  unfold aW at h;split at h
  .rename_i hk;rw[W6]at h;rcases P0.mp h with h|h
   .have q:=Es h;exact⟨xn _ q.1,Nat.le_of_succ_le q.2⟩
   .cases xu.mp h;have hk:k=bL:=by simpa using hk
    subst hk;exact⟨X6 ..,X8 _⟩
  .have q:=Es h;exact⟨xn _ q.1,q.2⟩
theorem Ue{β:Type}:∀{l m:List (au×β)} {y:au},(l++m).lookup y=(l.lookup y).or (m.lookup y)
 |[],m,y=>rfl
 |(x,b)::r,m,y=>by
  rw[Tw,Xw,Xw];split
  .rfl
  .exact Ue
variable{n:Nat}{names:List (au×bF)}{acc:List (au×ai)}{y:au}
def j2g{c:ai}(h:(aW n names acc).lookup y=a8 c) :
  ((y,c)∈aW n names []/\(y,bL)∈names/\n<=c)\/((aW n names []).lookup y=af/\acc.lookup y=a8 c):=by
 rw[W6,Ue]at h;cases e:(aW n names []).lookup y with
 |some c'=>rw[e]at h;cases h;have q:=lookup_mem e;exact .inl ⟨q,Es q⟩
 |none=>rw[e]at h;exact .inr ⟨rfl,h⟩
def jmc(h:(y,bL)∉names):(aW n names acc).lookup y=acc.lookup y:=by
 rw[W6,Ue];cases e:(aW n names []).lookup y with
 |some c'=>exact absurd (Es (lookup_mem e)).1 h
 |none=>rfl
def jif(h:(acc.lookup y).isSome=ae):∃c,(aW n names acc).lookup y=a8 c:=by
 rw[W6,Ue];cases e:(aW n names []).lookup y with
 |some c'=>exact⟨c',rfl⟩
 |none=>obtain⟨c,hc⟩:=tu.mp h;exact⟨c,hc⟩
def j4d{M:jU}{A:aF}{E:k9l}{s:aq}{globals:ai}{closure:List (au×ai)}{qual:au}{env:dR}{Q:dR->aq->Prop}
  (hQ:Q { scope:=scope,locals:=s.heap.objs.size,globals:=globals,cells:=aW (s.heap.objs.size+1) scope.names closure,qual:=qual,func:=af,code:=env.code,frame:=env.frame,builtins:=env.builtins }
   { s with heap:=jP (s.heap.push { cls:=.type "dict",data:=.dict #[] }) scope.names }) :
  ay M A (fP scope globals closure [] qual af .none (a8 env)) Q E s:=by
 simp only[fP,fv,if_true];refine aa (wpAny_alloc ?_);refine aa (wpAny_layCells _ (λname kind cells=>by cases hkc:kind==bL<;>simp[hkc]) _ _ _ _ ?_);rw[show({ s with heap:=s.heap.push { cls:=.type "dict",data:=.dict #[] } }:aq).heap.objs.size=s.heap.objs.size+1 from Pq ..];exact aa (ar (ar hQ))
noncomputable abbrev cCx(X:Cx)(scope:be)(C:ai)(s:aq)(H:Hp)(fp:List ai)(pn:k9m):Cx :=
 { X with env:=ni scope (aW (C+1) scope.names (zr X.env scope.names [])) C X.env,s₀:=s,H₀:=H,outer:=X.stack,stack:=X.stack,ex:=fp,fn:=λx=>scope.names.lookup x==a8 .cell,pn:=pn,xe:=λ_ _=>False }
noncomputable def Wb(scope:be)(y:au):Bool:=scope.names.lookup y==a8 .local || scope.names.lookup y==a8 .cell
theorem Y0{env:dR}:∀{names:List (au×bF)} {x:au},names.lookup x=a8 .cell ->
  (names.map λ(n,k)=>if (k==bo&&env.scope.kind==.function&&env.kindOf n==a8 .cell) then(n,bL) else(n,k)).lookup x=a8 .cell
 |[],_,h=>by simp at h
 |(n,k)::r,x,h=>by
  have ih:=@Y0 env r x;rw[X7];cases hx:x==n with
  |true =>simp only[Xw,hx]at h;cases h;simp[Xw,hx]
  |false =>
   simp only[Xw,hx]at h;dsimp only;by_cases hc:(k==bo&&env.scope.kind==.function&&env.kindOf n==a8 .cell)=ae
   .rw[if_pos hc];simp only[Xw,hx];exact ih h
   .rw[if_neg hc];simp only[Xw,hx];exact ih h
variable{C:ai}{s:aq}{fp:List ai}{pn:k9m}
def Nh(h:Wb scope y=ae):Loc (cCx X scope C s H fp pn).env.scope y:=by
 unfold Wb at h;rw[cD]at h;rcases h with h|h
 .exact .inl (kI (by simpa using h))
 .exact .inr (Y0 (by simpa using h))
def Ko(h:Wb scope y=ae):(cCx X scope C s H fp pn).fn y=ae\/(cCx X scope C s H fp pn).env.scope.names.lookup y=a8 .local:=by
 unfold Wb at h;rw[cD]at h;rcases h with h|h
 .exact .inr (kI (by simpa using h))
 .exact .inl h
def DTs(X:Cx)(ρ:Rho)(ifs:List av)(b:Bool):Prop:=match ifs with
 |[]=>b=ae
 |[c]=>DB X ρ c b
 |_=>False
def DTs.nil:DTs X ρ [] ae:=rfl
variable{b:Bool}
def DTs.one{c:av}(h:DB X ρ c b):DTs X ρ [c] b:=h
def DTs.run{ifs:List av}(h:DTs X ρ ifs b){pins:k9m}(I:Inv X pins σ H s)(R:Rep X.K ρ σ H) :
  ay (aB X.prog X.w) X.A (forIn ifs ae λc r=>if r=ae then do let ok <-gH c X.env (aC c X.env);pure (cb ok)else pure (cb r)) (λok s'=>ok=b/\∃H',Inv X pins σ H' s'/\j0 H H') X.xe s:=by
 match ifs,h with
 |[],h=>exact wpAny_tests_nil ⟨h.symm,H,I,j0.refl H⟩
 |[c],h=>exact wpAny_tests_one (thn (h σ H (λk H'=>k=b/\j0 H H') R (λH' g=>⟨rfl,g⟩) pins s I) λk s' ⟨H',I',e,g⟩=>⟨e,H',I',g⟩)
def Rep.weaken{σ':St}(R:Rep K ρ σ H)(hl:σ'.length=σ.length)(h:∀(i:Nat),ρ[i]?≠a8 .un->σ'[i]?=σ[i]?):Rep K ρ σ' H :=
 ⟨by rw[hl,R.len],λi d e=>let ⟨v,q,z⟩:=R.val i d e;⟨v,by rw[h i (by rw[e];simp)];exact q,z⟩,λi a ds e=>let ⟨q,z⟩:=R.own i a ds e;⟨by rw[h i (by rw[e];simp)];exact q,z⟩,R.nd,λi a o x e=>let ⟨q,z⟩:=R.raw i a o x e;⟨by rw[h i (by rw[e];simp)];exact q,z⟩,R.tb⟩
noncomputable def mask(cs:List Nat)(σ:St):St:=σ.mapIdx λj v=>if cs.contains j then af else v
def Ds(cs:List Nat)(σ:St):(mask cs σ).length=σ.length:=by unfold mask;simp
def jcx{cs:List Nat}{j:Nat}(h:(mask cs σ)[j]?=a8 (a8 v)):j∉cs/\σ[j]?=a8 (a8 v):=by
 unfold mask at h;rw[jE]at h;cases e:σ[j]? with
 |none=>rw[e]at h;cases h
 |some u =>
  rw[e]at h;have h':(if cs.contains j then af else u)=a8 v:=ax h;by_cases z:cs.contains j=ae
  .rw[if_pos z]at h';cases h'
  .rw[if_neg z]at h';subst h';exact⟨λy=>z (by simpa using y),rfl⟩
def jcw{cs:List Nat}{j:Nat}(h:j∉cs):(mask cs σ)[j]?=σ[j]?:=by
 unfold mask;rw[jE];cases e:σ[j]? with
 |none=>rfl
 |some u=>simp[h]
def Wk(ρ2 ρ:Rho):Prop:=∀K σ H,Rep K ρ2 σ H->Rep K ρ σ H
def Zt(H:Hp)(A B:List ai):del (del H A) B=del H (A++B):=funext λb=>by unfold del;by_cases h1:b∈A<;>by_cases h2:b∈B<;>simp[h1,h2]
structure Loose(X:Cx)(pins:k9m)(H:Hp)(C:ai):Prop where
 free:H C=af
 loc:C≠X.env.locals
 new:X.s₀.heap.objs.size<=C
 cell:∀x c,X.env.cells.lookup x=a8 c->c≠C
 pin:∀p∈X.pn++pins,p.1≠C
section
variable{X:Cx}{pins:k9m}{σ:St}{H2:Hp}{s2:aq}{ρ:Rho}{tg elt iter:av}{ifs:List av}{scope:be}{pos:aP}{ds:List D}{cs:List Nat}{p:D->Bool}{g:D->D}
def jdy{J:It}{it:ai}{tn:Nat->aE->Prop}(I2:Inv X pins σ H2 s2)(T:Turn X.prog X.w X.K tg J fp it tn)(st2:tn 0 s2.heap)(f2:∀b∈fp,Qz X pins H2 b)
  (hkind:scope.kind=.function) (hok:Jp scope X.env X.N cs=ae) {E:k9l} {RR:ah->ai->fh->aq->Prop}
  (hk:∀(C Dd:ai)(h₁:aE),(cCx X scope C s2 H2 fp (X.pn++pins)).Ok->Inv (cCx X scope C s2 H2 fp (X.pn++pins)) [] (mask cs σ) (upd H2 Dd (.lst [])) { s2 with heap:=h₁ }->s2.heap.objs.size=Dd->Dd<C->H2 Dd=af->(∀b o,s2.heap.get? b=a8 o->h₁.get? b=a8 o) ->
   bZ (aB X.prog X.w) X.A (.compLoop (.ListComp elt [⟨tg,iter,ifs,0⟩] scope pos) 0 (.ref it) (.ref Dd) (ni scope (aW (C+1) scope.names (zr X.env scope.names [])) C X.env)) (RR (.ref Dd) C) { s2 with heap:=h₁ }) :
  ay (aB X.prog X.w) X.A (lO []) (λacc s₃=>ay (aB X.prog X.w) X.A (fP scope X.env.globals (zr X.env scope.names []) [] X.env.qual af .none (a8 X.env)) (λcenv s₄=>cenv.frame=X.env.frame /\
   bZ (aB X.prog X.w) X.A (.compStart (.ListComp elt [⟨tg,iter,ifs,0⟩] scope pos) 0 (.ref it) acc { cenv with scope:=lN scope X.env }) (RR acc cenv.locals) s₄) E s₃) E s2:=by
 unfold Jp at hok;rw[Xl]at hok;obtain⟨hn,hN⟩:=hok;have hn':∀y∈scope.names,(y.2=.cell->scope.names.lookup y.1=a8 .cell)/\(y.2=.free->(X.env.cells.lookup y.1).isSome=ae/\(X.env.kindOf y.1=a8 .cell\/X.env.kindOf y.1=a8 .free)):=λy hy=>by have:=ph.mp hn y hy;simp only[Xl,bne_iff_ne,ne_eq,cD,beq_iff_eq]at this;obtain⟨⟨a,_⟩,c⟩:=this;exact⟨λe=>a.elim (λz=>absurd e z) id,λe=>c.elim (λz=>absurd e z) id⟩
 have nocell:∀{y:au},scope.names.lookup y=a8 .free->(y,bL)∉scope.names:=λ{y} h z=>by have q:=(hn' _ z).1 rfl;rw[h]at q;cases q
 have hloc:∀(j:Nat)(y:au),X.N[j]?=a8 y->j∉cs->scope.names.lookup y≠a8 .local/\scope.names.lookup y≠a8 .cell:=λj y hj hc=>by
  have hlt:j<X.N.length:=(Xe.mp hj).1;have:=ph.mp hN j (Xa.mpr hlt);rw[hj]at this;simp only[cD,Xl,bne_iff_ne,ne_eq]at this;rcases this with z|z
  .exact absurd (by simpa using z) hc
  .exact z
 have cl_of:∀{y:au}{c:ai},(zr X.env scope.names []).lookup y=a8 c->X.env.cells.lookup y=a8 c:=λ{y c} h=>j2f (λ_ _ z=>by cases z) h;refine aQ (j4d ?_);dsimp only;generalize hH2:s2.heap.push { cls:=.type "list",dict:=af,data:=.seq ([]:List ah).toArray }=hp2;have keep1:∀b o,hp2.get? b=a8 o->(jP (hp2.push { cls:=.type "dict",data:=.dict #[] }) scope.names).get? b=a8 o:=λb o e=>mU _ _ b o (xj _ e);have hns₁:(jP (hp2.push { cls:=.type "dict",data:=.dict #[] }) scope.names).Ns hp2.objs.size (λ_=>af):=(Heap.Ns.new hp2 (.type "dict")).keeps (mU _ _);have okl:=cellsFrom_ok scope.names (hp2.push { cls:=.type "dict",data:=.dict #[] }) (hp2.objs.size+1) [] ⟨λ_ _ hm=>(nomatch hm),List.Pairwise.nil⟩ (by rw[Pq];exact X8 _);rw[Pq]at okl;generalize jP (hp2.push { cls:=.type "dict",data:=.dict #[] }) scope.names=h₁ at keep1 hns₁ okl ⊢;have hC:hp2.objs.size=s2.heap.objs.size+1:=by rw[<-hH2,Pq]
 have hDC:s2.heap.objs.size≠hp2.objs.size:=by rw[hC];exact Xj (d5 _)
 have hCle:s2.heap.objs.size<=hp2.objs.size:=by rw[hC];exact de _
 have below:∀b,b<s2.heap.objs.size->b≠hp2.objs.size/\b≠s2.heap.objs.size:=λb hb=>⟨by rw[hC];exact Xj (gm hb),Xj hb⟩
 have old:∀b o,s2.heap.get? b=a8 o->h₁.get? b=a8 o:=λb o e=>keep1 b o (hH2▸xj _ e);have hacc:h₁.get? s2.heap.objs.size=a8 { cls:=.type "list",dict:=af,data:=.seq ([]:List ah).toArray }:=keep1 _ _ (hH2▸X3 _ rfl);have none_of:∀b,s2.heap.objs.size<=b->s2.heap.get? b=af:=λb hb=>by
  cases e:s2.heap.get? b with
  |none=>rfl
  |some o'=>exact absurd (X4 e) (Nat.not_lt.mpr hb)
 have hD0:H2 s2.heap.objs.size=af:=I2.fresh;generalize hDd:s2.heap.objs.size=Dd at *;generalize hCc:hp2.objs.size=C at *;have hC0:H2 C=af:=I2.hok.fresh (by rw[hDd];exact hCle);have pinlt:∀p∈X.pn++pins,p.1<Dd:=λp hp=>by rw[<-hDd];exact X4 (I2.pin p hp).1
 have celllt:∀y c,X.env.cells.lookup y=a8 c->c<Dd:=λy c h=>by obtain⟨v,o,e,_⟩:=I2.cell y c h;rw[<-hDd];exact X4 e
 have loclt:X.env.locals<Dd:=by rw[<-hDd];exact I2.lt
 have fplt:∀b∈fp,b<Dd:=λb hb=>by obtain⟨o,e,_⟩:=T.obj _ _ st2 b hb;rw[<-hDd];exact X4 e
 have hDlt:Dd<C:=by omega
 have cellD:∀{y:au}{c:ai},(aW (C+1) scope.names (zr X.env scope.names [])).lookup y=a8 c->((y,c)∈aW (C+1) scope.names []/\C+1<=c)\/X.env.cells.lookup y=a8 c:=λ{y c} h=>by
  rcases j2g h with ⟨q,_,z⟩|⟨_,q⟩
  .exact .inl ⟨q,z⟩
  .exact .inr (cl_of q)
 have celln:∀{y:au}{c b:ai},(aW (C+1) scope.names (zr X.env scope.names [])).lookup y=a8 c->b<Dd->(∀c,X.env.cells.lookup y=a8 c->c≠b)->c≠b:=λ{y c b} h hb ho=>by
  rcases cellD h with ⟨_,z⟩|q
  .exact Pr (t6 hb (t6 hDlt (gn z)))
  .exact ho c q
 have okc:(cCx X scope C s2 H2 fp (X.pn++pins)).Ok:={
  mod:=I2.ok.mod
  kind:=hkind
  glob:=I2.ok.glob
  blt:=I2.ok.blt
  above:=by show s2.heap.objs.size<=C;rw[hDd];exact hCle
  inj:=λx y c h1 h2=>by
   rcases cellD h1 with ⟨m1,z1⟩|q1<;>rcases cellD h2 with ⟨m2,z2⟩|q2
   .exact name_of_addr okl.apart m1 m2
   .exact absurd (t6 (celllt y c q2) (t6 hDlt (gn z1))) (Py _)
   .exact absurd (t6 (celllt x c q1) (t6 hDlt (gn z2))) (Py _)
   .exact I2.ok.inj x y c q1 q2
  has:=λx h=>by
   have key:∀k',(lN scope X.env).names.lookup x=a8 k'->(k'=.cell\/k'=.free)->∃c,(aW (C+1) scope.names (zr X.env scope.names [])).lookup x=a8 c:=λk' hk hk'=>by
    obtain⟨k,hl,e⟩:=Jk hk
    have hm:=lookup_mem hl
    have hk0:k=.free\/k=.cell:=by
     rcases e with e|e
     .subst e
      exact hk'.symm
     .exact .inl e.1
    rcases hk0 with hk0|hk0
    .subst hk0
     exact jif (O3 ((hn' _ hm).2 rfl).1 hm)
    .subst hk0
     exact tu.mp (W.cellsFrom_some _ _ _ (.inl hl))
   rcases h with h|h
   .exact key _ h (.inl rfl)
   .exact key _ h (.inr rfl)
  cab:=λx c h h2=>by
   have hx:scope.names.lookup x=a8 .cell:=by simpa using h
   show s2.heap.objs.size<=c
   rw[hDd]
   rcases j2g h2 with ⟨_,_,z⟩|⟨z,_⟩
   .exact dw (t6 hDlt (gn z))
   .obtain⟨c',hc'⟩:=tu.mp (W.cellsFrom_some scope.names (C+1) [] (.inl hx))
    rw[z]at hc';cases hc'
  hd:=I2.ok.hd
  frames:=I2.ok.frames
  stk:=.inl rfl
  exf:=λb hb=>⟨Xj (t6 (fplt b hb) hDlt),λx c h=>celln h (fplt b hb) λc q=>(f2 b hb).2.2.2.2.1 x c q⟩
  bs:=I2.bs
  bsz:=Xn I2.ok.bsz I2.sz
  noex:=λb o e hb=>by
   rcases(f2 b hb).2.2.2.1 with z|z
   .exact I2.ok.noex b o e z
   .exact absurd (X4 e) (Nat.not_lt.mpr (Xn I2.ok.bsz z))
  exfs:=λb hb hf=>by
   rcases Xb.mp (I2.stkSub b hf)with z|z
   .exact(f2 b hb).2.1 z
   .exact(f2 b hb).2.2.1 z
  funs:=I2.stack
  frf:=I2.stkFree }
 have hpush:HOk X.prog X.w (upd H2 Dd (.lst [])) h₁:=HOk.laid I2.hok old (by rw[hDd];exact X8 _) ⟨S9 _,[],_,.nil,hacc⟩;have I0:Inv (cCx X scope C s2 H2 fp (X.pn++pins)) [] (mask cs σ) (upd H2 Dd (.lst [])) { s2 with heap:=h₁ }:={
  ok:=okc
  os:=rfl
  bare:=I2.bare
  base:=Un.laid old (by rw[hDd];exact X8 _) hD0
  loc:=by
   refine⟨_,hns₁,λj y v hj hv hvis=>?_⟩
   obtain⟨hjc,hσ⟩:=jcx hv
   obtain⟨m,hm,hlook⟩:=I2.loc
   have key:∀k',(lN scope X.env).names.lookup y=a8 k'->scope.names.lookup y=a8 .free:=λk' hk=>by
    obtain⟨k,hl,e⟩:=Jk hk
    have hmm:=lookup_mem hl
    have:k=.free:=by
     rcases e with e|e
     .subst e
      rcases hvis with z|z|z
      .have z:=hk.symm.trans z;cases z;exact absurd hl (hloc j y hj hjc).1
      .have z:=hk.symm.trans z;cases z;exact absurd hl (hloc j y hj hjc).2
      .have z:=hk.symm.trans z;cases z;rfl
     .exact e.1
    rw[hl,this]
   have hfree:scope.names.lookup y=a8 .free:=by rcases hvis with z|z|z<;>exact key _ z
   have hmm:=lookup_mem hfree
   obtain⟨hs,hk⟩:=(hn' _ hmm).2 rfl
   have hvis':Vis X.env.scope y:=by rcases hk with z|z;exact .inr (.inl z);exact .inr (.inr z)
   obtain⟨u,ru,look⟩:=hlook j y v hj hσ hvis'
   refine⟨u,ru,?_⟩
   rcases look with ⟨z,_⟩|⟨_,c,hcl,hcv⟩
   .rcases hk with y'|y'<;>rw[y']at z<;>cases z
   .refine .inr ⟨?_,c,?_,?_⟩
    .rcases hvis with z|z|z
     .exfalso
      obtain⟨k,hl,e⟩:=Jk z
      rw[hfree]at hl;cases hl
      rcases e with e|e
      .cases e
      .cases e.2
     .exact .inl z
     .exact .inr z
    .obtain⟨c',hc'⟩:=tu.mp (O3 (acc:=[]) hs hmm)
     have:=cl_of hc'
     rw[hcl]at this;cases this
     exact(jmc (nocell hfree)).trans hc'
    .obtain⟨o,e,d⟩:=hcv
     exact⟨o,old _ _ e,d⟩
  cell:=λx c h=>by
   rcases cellD h with ⟨q,_⟩|q
   .exact⟨_,(okl.empty x c q).1⟩
   .obtain⟨v,o,e,d⟩:=I2.cell x c q
    exact⟨v,o,old _ _ e,d⟩
  free:=by show upd H2 Dd (.lst []) C=af;rw[jk (Pr hDlt)];exact hC0
  freeC:=λx c h=>by
   rcases cellD h with ⟨_,z⟩|q
   .rw[jk (Pr (t6 hDlt (gn z)))];exact I2.hok.fresh (by rw[hDd];exact dw (t6 hDlt (gn z)))
   .rw[jk (Xj (celllt x c q))];exact I2.freeC x c q
  pin:=λp hp=>by
   rw[Pa]at hp
   obtain⟨h1,h2,h3,h4,h5⟩:=I2.pin p hp
   have hlt:=pinlt p hp
   refine⟨old _ _ h1,by rw[jk (Xj hlt)];exact h2,Xj (t6 hlt hDlt),λz=>?_,h5⟩
   rcases Xb.mp (I2.stkSub _ z)with y|y
   .exact h3 y
   .exact h4 y
  hok:=hpush
  len:=by rw[Ds];exact I2.len }
 have go:=hk C Dd h₁ okc I0 rfl hDlt hD0 old;exact⟨rfl,codeAny_compStart_list go (T.self _ 0 _ _ _ (T.keep _ _ _ st2 (λb _ o e=>old b o e)) go)⟩
def j2b{J:It}{it:ai}{tn:Nat->aE->Prop}(I2:Inv X pins σ H2 s2)(R2:Rep X.K ρ σ H2)(T:Turn X.prog X.w X.K tg J fp it tn)(st2:tn 0 s2.heap)(f2:∀b∈fp,Qz X pins H2 b)
  (ok:Ub X.K (del H2 (owns ρ)) J ds) (hc:X.calm=ae) (hkind:scope.kind=.function) (hok:Jp scope X.env X.N cs=ae) (hcs:∀j∈cs,ρ[j]?=a8 .un) (hsz:ds.length<=aw)
  (hb:∀C s H fp pn,∀d∈ds,∃ρ2,DG (cCx X scope C s H fp pn) ρ tg d ρ2/\Wk ρ2 ρ/\owns ρ2=owns ρ/\DTs (cCx X scope C s H fp pn) ρ2 ifs (p d)/\(p d=ae->DE (cCx X scope C s H fp pn) ρ2 elt (g d)))
  {E:k9l} {RR:ah->ai->fh->aq->Prop}
  (hRR:∀D C xs H' s' m,Inv X pins σ H' s'->j0 H2 H'->H2 D=af->H' D=a8 (.lst xs)->j4 X.K (del H' (D::owns ρ)) ((ds.filter p).map g) xs->s'.heap.Ns C m->Loose X pins H' C->RR (.ref D) C (.ok .next) s') :
  ay (aB X.prog X.w) X.A (lO []) (λacc s₃=>ay (aB X.prog X.w) X.A (fP scope X.env.globals (zr X.env scope.names []) [] X.env.qual af .none (a8 X.env)) (λcenv s₄ =>
   bZ (aB X.prog X.w) X.A (.compStart (.ListComp elt [⟨tg,iter,ifs,0⟩] scope pos) 0 (.ref it) acc { cenv with scope:=lN scope X.env }) (RR acc cenv.locals) s₄) E s₃) E s2:=by
 refine thn (jdy (RR:=RR) I2 T st2 f2 hkind hok λC Dd h₁ okc I0 hDd hDlt hD0 old=>?_) λacc s₃ h=>thn h λcenv s₄ h=>h.2;have hDlt:@LT.lt Nat _ Dd C:=hDlt;have pinlt:∀p∈X.pn++pins,p.1<Dd:=λp hp=>by rw[<-hDd];exact X4 (I2.pin p hp).1
 have celllt:∀y c,X.env.cells.lookup y=a8 c->c<Dd:=λy c h=>by obtain⟨v,o,e,_⟩:=I2.cell y c h;rw[<-hDd];exact X4 e
 have loclt:X.env.locals<Dd:=by rw[<-hDd];exact I2.lt
 have fplt:∀b∈fp,b<Dd:=λb hb=>by obtain⟨o,e,_⟩:=T.obj _ _ st2 b hb;rw[<-hDd];exact X4 e
 have hDo:Dd∉owns ρ:=R2.fresh hD0;have fpok:∀{H':Hp},(∀b∈fp,H' b=af)->∀b∈fp,Qz (cCx X scope C s2 H2 fp (X.pn++pins)) [] H' b:=λ{H'} hn b hb =>⟨hn b hb,(okc.exf b hb).1,okc.exfs b hb,.inl hb,(okc.exf b hb).2,λp hp=>by rw[Pa]at hp;exact(f2 b hb).2.2.2.2.2 p hp⟩
 have R0:Rep X.K ρ (mask cs σ) H2:=R2.weaken (Ds _ _) λj hj=>jcw λz=>hj (hcs j z);have e0:del (upd H2 Dd (.lst [])) [Dd]=H2:=by
  rw[Up (xu.mpr rfl)]
  funext b
  by_cases z:b∈[Dd]
  .rw[qy z,xu.mp z,hD0]
  .exact j5 z
 have loop:∀s₃:aq,s₃={ s2 with heap:=h₁ } ->
   bZ (aB X.prog X.w) X.A (.compLoop (.ListComp elt [⟨tg,iter,ifs,0⟩] scope pos) 0 (.ref it) (.ref Dd) (ni scope (aW (C+1) scope.names (zr X.env scope.names [])) C X.env)) (RR (.ref Dd) C) s₃:=by
  rintro s₃ rfl;refine j54 (λn s=>∃i σ' H' ys,Inv (cCx X scope C s2 H2 fp (X.pn++pins)) [] σ' H' s/\tn i s.heap/\(∀b∈fp,H' b=af)/\i<=ds.length/\n=ds.length-i/\Rep X.K ρ σ' (del H' [Dd])/\j0 H2 (del H' [Dd])/\H' Dd=a8 (.lst ys) /\
   j4 X.K (del H' (Dd::owns ρ)) (((ds.take i).filter p).map g) ys) ?_ ds.length
   ⟨0,mask cs σ,upd H2 Dd (.lst []),[],I0,T.keep _ _ _ st2 (λb _ o e=>old b o e),λb hb=>by rw[jk (Xj (fplt b hb))];exact(f2 b hb).1,S9 _,rfl,by rw[e0];exact R0,by rw[e0];exact j0.refl _,j8,rfl⟩
  rintro n s3 ⟨i,σ3,H3,ys,I3,st3,fr3,hle,rfl,R3,g3,m3,en3⟩;have F3:j0 (del H2 (owns ρ)) (del H3 (Dd::owns ρ)):=by
   have:del H3 (Dd::owns ρ)=del (del H3 [Dd]) (owns ρ):=by rw[Zt];rfl
   rw[this];exact jg g3
  obtain⟨go,stop,yld⟩:=ok i H3 (Dd::owns ρ) F3 λa ha=>by
   rcases Xb.mp ha with e|ha
   .rw[e,m3];simp
   .obtain⟨xs,e⟩:=R3.owned a ha;rw[(of_del e).2];simp
  by_cases hlt:i<ds.length
  .refine thn (T.item (cCx X scope C s2 H2 fp (X.pn++pins)) rfl rfl rfl hc i [] s3 σ3 H3 (λ_ _=>False) I3 (fpok fr3) st3 (go hlt)) λr s4 ⟨u,hr,h4⟩=>?_;subst hr;refine thn h4 λ_ s5 ⟨x,H5,I5,r5,y5,st5,fr5⟩=>?_;obtain⟨g5,en5⟩:=yld x H5 y5;have hd:ds[i]?=a8 ds[i]:=kh hlt;obtain⟨ρ2,⟨sub,hG⟩,wk,eo,hT,hE⟩:=hb C s2 H2 fp (X.pn++pins) ds[i] (Xx hlt);have m5:H5 Dd=a8 (.lst ys):=g5 _ _ m3;have hA:∀a∈[Dd],Hd (H5 a):=λa ha=>.inl ⟨ys,by rw[xu.mp ha];exact m5⟩;have I5p:=I5.pinned (fpok fr5) (T.obj _ _ st5);have I5h:=I5p.hide hA;have R5:Rep X.K ρ σ3 (del H5 [Dd]):=R3.grow (jg g5);have en5':Enc X.K (del (del H5 [Dd]) (owns ρ)) ds[i] x:=by rw[Zt];exact en5 _ hd
   refine thn (hG σ3 (del H5 [Dd]) x (λσ6 F6=>F6=del H5 [Dd]/\Rep X.K ρ2 σ6 F6) R5 en5' (λσ6 R6=>⟨rfl,R6⟩) _ s5 u I5h r5) λ_ s6 ⟨σ6,F6,I6,e6,R6⟩=>?_;subst e6;refine thn (hT.run I6 R6) λokv s7 ⟨e7,F7,I7,g7⟩=>?_;subst e7;have R7:Rep X.K ρ σ6 F7:=wk _ _ _ (R6.grow g7);have g27:j0 H2 F7:=g3.trans ((jg g5).trans g7);have en7:j4 X.K (del F7 (owns ρ)) (((ds.take i).filter p).map g) ys:=en3.mono (by
    have:del H3 (Dd::owns ρ)=del (del H3 [Dd]) (owns ρ):=by rw[Zt];rfl
    rw[this];exact jg ((jg g5).trans g7))
   have jT:∀{F:Hp}{s':aq},Inv (cCx X scope C s2 H2 fp (X.pn++pins)) ([]++Vl fp s5.heap) σ6 F s'->Inv (cCx X scope C s2 H2 fp (X.pn++pins)) [] σ6 F s'/\tn (i+1) s'.heap/\∀b∈fp,F b=af:=λ{F s'} I=>by refine⟨I.unpinned,T.keep _ _ _ st5 λb hb o e=>(I.pin (b,o) (Xo _ (Xo _ (Zq hb e)))).1,λb hb=>?_⟩;obtain⟨o,e,d⟩:=T.obj _ _ st5 b hb;exact(I.pin (b,o) (Xo _ (Xo _ (Zq hb e)))).2.1
   have tk:ds.take (i+1)=ds.take i++[ds[i]]:=by rw[Te,hd];rfl
   cases hp:p ds[i] with
   |false =>
    rw[if_neg xq];obtain⟨hF,I8⟩:=I5p.unhide hA I7;obtain⟨I9,st9,fr9⟩:=jT I8;refine⟨ds.length-(i+1),by omega,i+1,σ6,_,ys,I9,st9,fr9,hlt,rfl,by rw[Uq hF];exact R7,by rw[Uq hF];exact g27,by rw[Jj (xu.mpr rfl)];exact m5,?_⟩;have:del (mrg [Dd] H5 F7) (Dd::owns ρ)=del F7 (owns ρ):=by
     have e:del (mrg [Dd] H5 F7) (Dd::owns ρ)=del (del (mrg [Dd] H5 F7) [Dd]) (owns ρ):=by rw[Zt];rfl
     rw[e,Uq hF]
    rw[this,tk,cF];have e:[ds[i]].filter p=[]:=by simp[hp]
    rw[e,Pa];exact en7
   |true =>
    rw[if_pos rfl];refine thn (hE hp σ6 F7 (λv F8=>j0 F7 F8/\Enc X.K (del F8 (owns ρ2)) (g ds[i]) v) (R6.grow g7) (λv F8 g8 e8=>⟨g8,e8⟩) _ s7 I7) λy s8 ⟨v,F8,I8,r8,g8,e8⟩=>?_;obtain⟨hF,I8'⟩:=I5p.unhide hA I8;rw[eo]at e8;have eH:del (mrg [Dd] H5 F8) (Dd::owns ρ)=del F8 (owns ρ):=by
     have e:del (mrg [Dd] H5 F8) (Dd::owns ρ)=del (del (mrg [Dd] H5 F8) [Dd]) (owns ρ):=by rw[Zt];rfl
     rw[e,Uq hF]
    have hlen:ys.length<aw:=by have e1:=en7.length;have e2:((ds.take i).filter p).length<=(ds.take i).length:=Pu _ _;rw[xg]at e1;rw[pq]at e2;omega
    refine thn (Bb _ s8 σ6 (mrg [Dd] H5 F8) (.ref Dd) [v] (.ref Dd) [y] (λ_ H9=>H9=upd (mrg [Dd] H5 F8) Dd (.lst (ys++[v]))) I8' rfl (.cons r8 .nil)
     ⟨Dd,ys,v,rfl,rfl,by rw[Jj (xu.mpr rfl)];exact m5,hlen,rfl⟩) λ_ s9 ⟨_,H9,I9,_,e9⟩=>?_
    subst e9;obtain⟨I10,st10,fr10⟩:=jT I9;have ed:del (upd (mrg [Dd] H5 F8) Dd (.lst (ys++[v]))) [Dd]=F8:=by rw[Up (xu.mpr rfl),Uq hF]
    refine⟨ds.length-(i+1),by omega,i+1,σ6,_,ys++[v],I10,st10,fr10,hlt,rfl,by rw[ed];exact R7.grow g8,by rw[ed];exact g27.trans g8,j8,?_⟩;rw[Up (X6 ..),eH,tk,cF,Xi];have e:[ds[i]].filter p=[ds[i]]:=by simp[hp]
    rw[e];exact(en7.mono (jg g8)).append (.one e8)
  .have hi:i=ds.length:=by omega
   subst hi;refine thn (T.done (cCx X scope C s2 H2 fp (X.pn++pins)) rfl rfl rfl hc ds.length [] s3 σ3 H3 (λ_ _=>False) I3 (fpok fr3) st3 (stop (X8 _))) λr s4 ⟨hr,I4⟩=>?_;subst hr;rw[S7]at en3;obtain⟨m,hm,_⟩:=I4.loc;refine hRR Dd C ys H3 s4 m ?_ (g3.trans jw) hD0 m3 en3 hm ⟨I4.free,Pr (t6 loclt hDlt),?_,λx c h=>Xj (t6 (celllt x c h) hDlt),λp hp=>Xj (t6 (pinlt p hp) hDlt)⟩
   .exact I2.call' (ch:=fp) I4.os I4.base I4.hok I4.bare λb hb=>⟨(f2 b hb).2.2.2.1,(f2 b hb).2.1,(f2 b hb).2.2.2.2.1,(f2 b hb).2.2.2.2.2⟩
   .have:=I2.sz;omega
 exact loop _ rfl
end
section
variable{X:Cx}{ρ:Rho}{tg elt iter:av}{ifs:List av}{scope:be}{pos p1 spos:aP}{ds:List D}{cs:List Nat}{p:D->Bool}{g:D->D}{x:au}{P:Po}
def Dv(h:Jp scope env N cs=ae):∀y∈scope.names,y.2=.free->(env.cells.lookup y.1).isSome=ae:=λy hy e=>by unfold Jp at h;rw[Xl]at h;have:=ph.mp h.1 y hy;simp only[Xl,bne_iff_ne,ne_eq,cD]at this;exact this.2.elim (λz=>absurd e z) λz=>z.1
def Bv(h:Jp scope env N cs=ae):∀y∈scope.names,y.2=.local->scope.names.lookup y.1=a8 .local:=λy hy e=>by unfold Jp at h;rw[Xl]at h;have:=ph.mp h.1 y hy;simp only[Xl,bne_iff_ne,ne_eq,cD,beq_iff_eq]at this;exact this.1.2.elim (λz=>absurd e z) λz=>z
def Inv.loose{pins:k9m}{h':aE}(I:Inv X pins σ H s)(L:Loose X pins H C)(sb:cM C s.heap h'):Inv X pins σ H { s with heap:=h' } :=
 I.turned (t':=s.toks) (λb o hb e=>sb.extBut b o hb e) L.free L.loc (.inr L.new) L.cell L.pin
def DO.comp(cs:List Nat)(p:D->Bool)(g:D->D)(hi:DI X ρ tg iter ds)
  (hb:∀C s H fp pn,∀d∈ds,∃ρ2,DG (cCx X scope C s H fp pn) ρ tg d ρ2/\Wk ρ2 ρ/\owns ρ2=owns ρ/\DTs (cCx X scope C s H fp pn) ρ2 ifs (p d)/\(p d=ae->DE (cCx X scope C s H fp pn) ρ2 elt (g d)))
  (hcs:∀j∈cs,ρ[j]?=a8 .un) (hsz:ds.length<=aw) (hc:X.calm=ae:=by rfl) (hkind:scope.kind=.function:=by rfl) (hok:Jp scope X.env X.N cs=ae:=by rfl)
  (hs:∀x,aH iter X.env x=pure x:=by intro _;rfl):DO X ρ (.ListComp elt [⟨tg,iter,ifs,0⟩] scope pos) ((ds.filter p).map g):=λσ H Q R q pins s I=>by
 rw[eval_ListComp];refine jH (use:=af) rfl hs (Ep (Dv hok)) hkind (Bv hok) (thn (hi σ H (λJ H'=>j0 H H'/\Ub X.K (del H' (owns ρ)) J ds) R (λJ H' g1 ok=>⟨g1,ok⟩) pins s I) λv s1 h1=>thn h1 λitv s2 h2=>?_);obtain⟨it,fp,tn,J,H2,e,I2,T,st2,f2,g2,ok⟩:=h2;subst e;refine j2b (RR:=λacc C=>compPost (aB X.prog X.w) X.A X.xe af (EP X pins σ Q) acc C) I2 (R.grow g2) T st2 f2 ok hc hkind hok hcs hsz hb ?_;intro D C xs H' s' m I' gg n m' en hm L;exact⟨m,hm,λh' sb=>⟨.ref D,H',I'.loose L sb,rfl,q D xs H' (g2.trans gg) (g2.free n) m' en⟩⟩
theorem Wk.set{i:Nat}{d:D}(h:ρ[i]?=a8 .un):Wk (ρ.set i (.val d)) ρ:=λK σ H R=>by
 have q:=R.set_un (i:=i) (v:=(σ[i]?).join);have e:σ.set i ((σ[i]?).join)=σ:=by
  apply Xy;intro j;rw[cP];split
  .rename_i h;subst h;split
   .rename_i h;rw[kh h];rfl
   .rename_i h;rw[Xc nofun]
  .rfl
 have e2:(ρ.set i (.val d)).set i .un=ρ:=by
  rw[lT];apply Xy;intro j;rw[cP];split
  .rename_i z;subst z;split
   .rw[h]
   .rename_i z;rw[Xc nofun]at h;cases h
  .rfl
 rw[e,e2]at q;exact q
def Yp{d:D}(h:ρ[i]?=a8 .un):owns (ρ.set i (.val d))=owns ρ:=Dq rfl λa l z=>by rw[h]at z;cases z
end
variable{t:ai}{Q:k9l}{its:Array ah}
section
variable{prog:az}{w:aD}{A:aF}{E:k9l}{s:aq}
def j84{j:ai}{k:Nat}{y:ah}(hj:s.heap.IsTupleIter j t k)(ht:s.heap.IsTuple t its)(hy:its[k]?=a8 y)
  (q:∀h',h'.IsTupleIter j t (k+1)->cM j s.heap h'->Q y { s with heap:=h' }):ay (aB prog w) A (aG (.ref j)) Q E s:=by
 obtain⟨o,ho,hc,hd⟩:=id hj;obtain⟨ot,hot,_,m,hdt⟩:=ht;unfold aG;refine aa (ba (name:=cj "__next__") hj.typeIs ck (b9 ck hj.typeIs iq ?_ (i9 _)));show ay _ _ (jQ (.ref j) 0 >>= _) _ _ s;refine aa (b7 ho hd (x:=.ref t) rfl ?_);show ay _ _ (if (aI t==aY)=ae then _ else _) _ _ s;rw[if_neg (show ¬((aI t==aY)=ae)from xq)];show ay _ _ (jQ (.ref j) 1 >>= _) _ _ s;refine aa (b7 ho hd (x:=.int k 0) rfl ?_);show ay _ _ (ib (.ref t) >>= _) _ _ s;refine aa (bg hot hdt ?_);simp only[X5,hy];refine aa (fN ho hd (by simp) (ar ⟨y,rfl,ar (q _ ?_ (Tt ..))⟩));exact⟨_,eT _ ho (jv (dE hd _)),(kv ..).trans hc,by rw[dE hd];simp[cQ]⟩
def jal{j:ai}{k:Nat}{Q:k9l}(hh:A.handled=af)(hj:s.heap.IsTupleIter j t k)(ht:s.heap.IsTuple t its)(hy:its[k]?=af)
  (q:∀h' x,f6 j s.heap h'->(∃o,h'.get? x=a8 o/\o.cls=.type "StopIteration")->E (.ref x) { s with heap:=h' }):ay (aB prog w) A (aG (.ref j)) Q E s:=by
 obtain⟨o,ho,hc,hd⟩:=id hj;obtain⟨ot,hot,_,m,hdt⟩:=ht;unfold aG;refine aa (ba (name:=cj "__next__") hj.typeIs ck (b9 ck hj.typeIs iq ?_ (i9 _)));show ay _ _ (jQ (.ref j) 0 >>= _) _ _ s;refine aa (b7 ho hd (x:=.ref t) rfl ?_);show ay _ _ (if (aI t==aY)=ae then _ else _) _ _ s;rw[if_neg (show ¬((aI t==aY)=ae)from xq)];show ay _ _ (jQ (.ref j) 1 >>= _) _ _ s;refine aa (b7 ho hd (x:=.int k 0) rfl ?_);show ay _ _ (ib (.ref t) >>= _) _ _ s;refine aa (bg hot hdt ?_);simp only[X5,hy];refine aa (lq (aa (fN ho hd (by simp) ?_)));show ay _ _ (n6 (.type "StopIteration") [] >>= _) _ _ _;refine aa ?_;simp only[n6,newTuple];refine aa (aQ ?_ (by size_fits));refine aa (m:=fR _ _) (ir (a:=aY) (by first|rfl|(simp only[fR];rfl)) ?_);refine aQ ?_ (by size_fits);simp only[raiseNew];refine aa (nA ?_)
 first|rw[show A.in1.handled=af from hh]|rw[hh]
 refine aa (ar (wpAny_throw ?_));exact q _ _ (((Tt ..).extBut.push _).push _) ⟨_,X3 _ rfl,rfl⟩
end
def jq(lst:Bool)(h:aE)(j t:ai)(k:Nat):Prop:=if lst=ae then h.IsListIter j t k else h.IsTupleIter j t k
def jo(lst:Bool)(h:aE)(t:ai)(its:Array ah):Prop:=if lst=ae then h.IsList t its else h.IsTuple t its
section
variable{prog:az}{w:aD}{A:aF}{E:k9l}{s:aq}{lst:Bool}{h h':aE}{j t b:ai}{k:Nat}{its:Array ah}
def jq.ext(x:jq lst h j t k)(e:f6 b h h')(n:j≠b):jq lst h' j t k:=by
 unfold jq at x ⊢;cases lst with
 |true=>rw[if_pos rfl]at x ⊢;exact x.extBut e n
 |false=>rw[if_neg xq]at x ⊢;exact x.extBut e n
def jq.stay(x:jq lst h j t k)(e:∀o,h.get? j=a8 o->h'.get? j=a8 o):jq lst h' j t k:=by
 unfold jq at x ⊢;cases lst with
 |true=>rw[if_pos rfl]at x ⊢;exact x.at e
 |false=>rw[if_neg xq]at x ⊢;exact x.at e
def jq.obj(x:jq lst h j t k):∃o,h.get? j=a8 o/\∀v,o.data≠.cell v:=by
 unfold jq at x;cases lst with
 |true=>rw[if_pos rfl]at x;obtain⟨o,e,c,d⟩:=x;exact⟨o,e,λv z=>by rw[d]at z;cases z⟩
 |false=>rw[if_neg xq]at x;obtain⟨o,e,c,d⟩:=x;exact⟨o,e,λv z=>by rw[d]at z;cases z⟩
def jo.ext(x:jo lst h t its)(e:f6 b h h')(n:t≠b):jo lst h' t its:=by
 unfold jo at x ⊢;cases lst with
 |true=>rw[if_pos rfl]at x ⊢;exact x.extBut e n
 |false=>rw[if_neg xq]at x ⊢;exact x.extBut e n
def Wc{y:ah}(hj:jq lst s.heap j t k)(ht:jo lst s.heap t its)(hy:its[k]?=a8 y)
  (q:∀h',jq lst h' j t (k+1)->cM j s.heap h'->Q y { s with heap:=h' }):ay (aB prog w) A (aG (.ref j)) Q E s:=by
 unfold jq at hj q;unfold jo at ht;cases lst with
 |true=>rw[if_pos rfl]at hj ht;simp only[if_true]at q;exact wpAny_nextOf_list_item hj ht hy q
 |false=>rw[if_neg xq]at hj ht;simp only[Pn,if_false]at q;exact j84 hj ht hy q
def Ma{Q:k9l}(hh:A.handled=af)(hj:jq lst s.heap j t k)(ht:jo lst s.heap t its)(hy:its[k]?=af)
  (q:∀h' x,f6 j s.heap h'->(∃o,h'.get? x=a8 o/\o.cls=.type "StopIteration")->E (.ref x) { s with heap:=h' }):ay (aB prog w) A (aG (.ref j)) Q E s:=by
 unfold jq at hj;unfold jo at ht;cases lst with
 |true=>rw[if_pos rfl]at hj ht;exact wpAny_nextOf_list_end hh hj ht hy q
 |false=>rw[if_neg xq]at hj ht;exact jal hh hj ht hy q
end
section
variable{prog:az}{w:aD}{A:aF}{E:k9l}{s:aq}{l1 l2:Bool}{z TI TO i1 i2 t1 t2:ai}{k:Nat}{us vs:Array ah}{x y a b:ah}
def j8m(D:iX z TI TO i1 i2 t1 t2)(hz:eZ s.heap z TI TO .none)(hTI:bW s.heap TI (.ref i1) (.ref i2))(hTO:bW s.heap TO a b)
  (h1:jq l1 s.heap i1 t1 k) (h2:jq l2 s.heap i2 t2 k) (q1:jo l1 s.heap t1 us) (q2:jo l2 s.heap t2 vs) (hx:us[k]?=a8 x) (hy:vs[k]?=a8 y)
  (q:∀h',eZ h' z TI TO (cQ s.heap.objs.size)->bW h' TO x y->jq l1 h' i1 t1 (k+1)->jq l2 h' i2 t2 (k+1)->bW h' s.heap.objs.size x y->h'.objs.size=s.heap.objs.size+1 ->
   (∀c o,c≠z->c≠TO->c≠i1->c≠i2->s.heap.get? c=a8 o->h'.get? c=a8 o)->Q (.ref s.heap.objs.size) { s with heap:=h' }) :
  ay (aB prog w) A (cC.«zip.__next__» ⟨[.ref z],[]⟩) (λfin s'=>∃v,fin=.done (.ret v)/\Q v s') E s:=by
 show ay _ _ (jQ (.ref z) 2 >>= _) _ _ _;refine aa (b7 hz rfl (x:=.bool a9) rfl ?_);show ay _ _ (jQ (.ref z) 3 >>= _) _ _ _;refine aa (b7 hz rfl (x:=.ref TI) rfl (aa (bg hTI rfl ?_)));show ay _ _ (bj (.ref z) >>= _) _ _ _;refine aa ?_;unfold bj;refine aa (b7 hz rfl (x:=.none) rfl (ar ?_));simp only[if_true];refine aa (lq (aa (b7 hz rfl (x:=.ref TO) rfl (aa (bQ hz (by simp) λg₁ z₁ s₁=>?_)))));have z₁:eZ g₁ z TI TO .ellipsis:=z₁;refine aa ?_;simp only[kB,kO,gQ,l6];refine aa (aa (gv ?_));show ay _ _ (aG (.ref i1) >>= _) _ _ _;refine aa (Wc (h1.ext s₁.extBut D.i1z) (q1.ext s₁.extBut D.l1z) hx λg₂ h1₂ s₂=>ar ?_);have o₂:bW g₂ TO a b:=s₂.extBut _ _ D.TOi1 (s₁.extBut _ _ D.TOz hTO);refine aa (bg o₂ rfl (aa (fK o₂ λg₃ o₃ s₃=>?_)));have o₃:bW g₃ TO x b:=o₃;refine aa (dn (ar (aa (aa (gv ?_)))));show ay _ _ (aG (.ref i2) >>= _) _ _ _;refine aa (Wc (((h2.ext s₁.extBut D.i2z).ext s₂.extBut D.i12.symm).ext s₃.extBut D.TOi2.symm) (((q2.ext s₁.extBut D.l2z).ext s₂.extBut D.l2i1).ext s₃.extBut D.l2TO) hy λg₄ h2₄ s₄=>ar ?_);have o₄:bW g₄ TO x b:=s₄.extBut _ _ D.TOi2 o₃;refine aa (bg o₄ rfl (aa (fK o₄ λg₅ o₅ s₅=>?_)));have o₅:bW g₅ TO x y:=o₅;refine aa (dn (ar (ar (aa (bg o₅ rfl (aa (wpAny_newTuple ?_)))))));have sz:g₅.objs.size=s.heap.objs.size:=by rw[s₅.1,s₄.1,s₃.1,s₂.1,s₁.1]
 have z₅:eZ g₅ z TI TO .ellipsis:=s₅.extBut _ _ D.TOz.symm (s₄.extBut _ _ D.i2z.symm (s₃.extBut _ _ D.TOz.symm (s₂.extBut _ _ D.i1z.symm z₁)));have kp:∀c o,c≠z->c≠TO->c≠i1->c≠i2->s.heap.get? c=a8 o->g₅.get? c=a8 o:=λc o n1 n2 n3 n4 e=>s₅.extBut _ _ n2 (s₄.extBut _ _ n4 (s₃.extBut _ _ n2 (s₂.extBut _ _ n3 (s₁.extBut _ _ n1 e))));have h1₅:jq l1 g₅ i1 t1 (k+1):=((h1₂.ext s₃.extBut D.TOi1.symm).ext s₄.extBut D.i12).ext s₅.extBut D.TOi1.symm;have h2₅:jq l2 g₅ i2 t2 (k+1):=h2₄.ext s₅.extBut D.TOi2.symm;have zlt:z<g₅.objs.size:=X4 z₅;show ay _ _ (dy (.ref z) (.ref g₅.objs.size) >>= _) _ _ _;refine aa ?_;unfold dy;have z₆:eZ (g₅.push { cls:=.type "tuple",data:=.seq #[x,y] }) z TI TO .ellipsis:=xj _ z₅;refine aa (bQ z₆ (by simp) λg₇ z₇ s₇=>?_);have z₇:eZ g₇ z TI TO (cQ g₅.objs.size):=z₇;refine bQ z₇ (by simp) λg₈ z₈ s₈=>?_;have z₈:eZ g₈ z TI TO (cQ g₅.objs.size):=z₈;have up:∀c o,c≠z->g₅.get? c=a8 o->g₈.get? c=a8 o:=λc o n e=>s₈.extBut _ _ n (s₇.extBut _ _ n (xj _ e));have p₈:bW g₈ g₅.objs.size x y:=s₈.extBut _ _ (Pr zlt) (s₇.extBut _ _ (Pr zlt) (X3 _ rfl));have e₈:g₈.objs.size=g₅.objs.size+1:=by rw[s₈.1,s₇.1,Pq]
 rw[sz]at z₈ p₈ e₈;refine ar ⟨_,rfl,?_⟩;show Q (.ref g₅.objs.size) _;rw[sz];exact q g₈ z₈ (up _ _ D.TOz o₅) (h1₅.stay λo e=>up _ o D.i1z e) (h2₅.stay λo e=>up _ o D.i2z e) p₈ e₈ λc o n1 n2 n3 n4 e=>up c o n1 (kp c o n1 n2 n3 n4 e)
def jbl{Q:mW->aq->Prop}(hh:A.handled=af)(D:iX z TI TO i1 i2 t1 t2)(hz:eZ s.heap z TI TO .none)(hTI:bW s.heap TI (.ref i1) (.ref i2))(hTO:bW s.heap TO a b)
  (h1:jq l1 s.heap i1 t1 k) (h2:jq l2 s.heap i2 t2 k) (q1:jo l1 s.heap t1 us) (q2:jo l2 s.heap t2 vs) (hend:us[k]?=af\/vs[k]?=af)
  (q:∀h' e,(∀c o,c≠z->c≠TO->c≠i1->c≠i2->s.heap.get? c=a8 o->h'.get? c=a8 o)->(∃o,h'.get? e=a8 o/\o.cls=.type "StopIteration")->E (.ref e) { s with heap:=h' }) :
  ay (aB prog w) A (cC.«zip.__next__» ⟨[.ref z],[]⟩) Q E s:=by
 show ay _ _ (jQ (.ref z) 2 >>= _) _ _ _;refine aa (b7 hz rfl (x:=.bool a9) rfl ?_);show ay _ _ (jQ (.ref z) 3 >>= _) _ _ _;refine aa (b7 hz rfl (x:=.ref TI) rfl (aa (bg hTI rfl ?_)));show ay _ _ (bj (.ref z) >>= _) _ _ _;refine aa ?_;unfold bj;refine aa (b7 hz rfl (x:=.none) rfl (ar ?_));simp only[if_true];refine aa (lq (aa (b7 hz rfl (x:=.ref TO) rfl (aa (bQ hz (by simp) λg₁ z₁ s₁=>?_)))));have z₁:eZ g₁ z TI TO .ellipsis:=z₁;refine aa ?_;simp only[kB,kO,gQ,l6];refine aa (aa (gv ?_));show ay _ _ (aG (.ref i1) >>= _) _ _ _;cases hx:us[k]? with
 |none =>
  refine aa (Ma hh (h1.ext s₁.extBut D.i1z) (q1.ext s₁.extBut D.l1z) hx λg₂ e s₂ he=>?_);obtain⟨oe,hoe,hce⟩:=he;have z₂:eZ g₂ z TI TO .ellipsis:=s₂ _ _ D.i1z.symm z₁;have ez:e≠z:=λx=>by subst x;rw[z₂]at hoe;cases hoe;simp at hce
  exact bQ z₂ (by simp) λg₃ _ s₃=>q g₃ e (λc o n1 _ n3 _ x=>s₃.extBut _ _ n1 (s₂ _ _ n3 (s₁.extBut _ _ n1 x))) ⟨oe,s₃.extBut _ _ ez hoe,hce⟩
 |some x =>
  have hy:vs[k]?=af:=by rcases hend with h|h;rw[hx]at h;cases h;exact h
  refine aa (Wc (h1.ext s₁.extBut D.i1z) (q1.ext s₁.extBut D.l1z) hx λg₂ h1₂ s₂=>ar ?_);have o₂:bW g₂ TO a b:=s₂.extBut _ _ D.TOi1 (s₁.extBut _ _ D.TOz hTO);refine aa (bg o₂ rfl (aa (fK o₂ λg₃ o₃ s₃=>?_)));refine aa (dn (ar (aa (aa (gv ?_)))));show ay _ _ (aG (.ref i2) >>= _) _ _ _;refine aa (Ma hh (((h2.ext s₁.extBut D.i2z).ext s₂.extBut D.i12.symm).ext s₃.extBut D.TOi2.symm) (((q2.ext s₁.extBut D.l2z).ext s₂.extBut D.l2i1).ext s₃.extBut D.l2TO) hy λg₄ e s₄ he=>?_);obtain⟨oe,hoe,hce⟩:=he;have z₄:eZ g₄ z TI TO .ellipsis:=s₄ _ _ D.i2z.symm (s₃.extBut _ _ D.TOz.symm (s₂.extBut _ _ D.i1z.symm z₁));have ez:e≠z:=λx=>by subst x;rw[z₄]at hoe;cases hoe;simp at hce
  exact bQ z₄ (by simp) λg₅ _ s₅=>q g₅ e (λc o n1 n2 n3 n4 x=>s₅.extBut _ _ n1 (s₄ _ _ n4 (s₃.extBut _ _ n2 (s₂.extBut _ _ n3 (s₁.extBut _ _ n1 x))))) ⟨oe,s₅.extBut _ _ ez hoe,hce⟩
def j4c{Q:Option ah->aq->Prop}(D:iX z TI TO i1 i2 t1 t2)(hz:eZ s.heap z TI TO .none)(hTI:bW s.heap TI (.ref i1) (.ref i2))(hTO:bW s.heap TO a b)
  (h1:jq l1 s.heap i1 t1 k) (h2:jq l2 s.heap i2 t2 k) (q1:jo l1 s.heap t1 us) (q2:jo l2 s.heap t2 vs) (hx:us[k]?=a8 x) (hy:vs[k]?=a8 y)
  (q:∀h',eZ h' z TI TO (cQ s.heap.objs.size)->bW h' TO x y->jq l1 h' i1 t1 (k+1)->jq l2 h' i2 t2 (k+1)->bW h' s.heap.objs.size x y->h'.objs.size=s.heap.objs.size+1 ->
   (∀c o,c≠z->c≠TO->c≠i1->c≠i2->s.heap.get? c=a8 o->h'.get? c=a8 o)->Q (a8 (.ref s.heap.objs.size)) { s with heap:=h' }):ay (aB prog w) A (cZ (.ref z)) Q E s:=by
 have T:s.TypeIs (.ref z) "zip":=⟨_,hz,rfl⟩
 unfold cZ;exact aa (gw (ba (name:=cj "__next__") T f7 (b9 f7 T lh
  (j8m D hz hTI hTO h1 h2 q1 q2 hx hy λh' a1 a2 a3 a4 a5 a6 a7=>ar (q h' a1 a2 a3 a4 a5 a6 a7)) (kY _))))
def j5y{Q:Option ah->aq->Prop}(hh:A.handled=af)(D:iX z TI TO i1 i2 t1 t2)(hz:eZ s.heap z TI TO .none)(hTI:bW s.heap TI (.ref i1) (.ref i2))(hTO:bW s.heap TO a b)
  (h1:jq l1 s.heap i1 t1 k) (h2:jq l2 s.heap i2 t2 k) (q1:jo l1 s.heap t1 us) (q2:jo l2 s.heap t2 vs) (hend:us[k]?=af\/vs[k]?=af)
  (q:∀h',(∀c o,c≠z->c≠TO->c≠i1->c≠i2->s.heap.get? c=a8 o->h'.get? c=a8 o)->Q af { s with heap:=h' }):ay (aB prog w) A (cZ (.ref z)) Q E s:=by
 have T:s.TypeIs (.ref z) "zip":=⟨_,hz,rfl⟩
 unfold cZ;refine aa (gw (ba (name:=cj "__next__") T f7 (b9 f7 T lh
  (jbl hh D hz hTI hTO h1 h2 q1 q2 hend λh' e kp he=>?_) (kY _))))
 obtain⟨o,ho,hc⟩:=he;exact aa (mj (T:="StopIteration") (b:=ae) ⟨o,ho,hc⟩ n9 (ar (q _ kp)))
end
noncomputable def Cp(lst:Bool):String:=if lst=ae then "list_iterator" else "tuple_iterator"
noncomputable abbrev zh1(h:aE)(l1:Bool)(t1:ai):aE:=h.push { cls:=.type (Cp l1),data:=.fields #[.ref t1,.int 0 0] }
noncomputable abbrev zh2(h:aE)(l1 l2:Bool)(t1 t2:ai):aE:=(zh1 h l1 t1).push { cls:=.type (Cp l2),data:=.fields #[.ref t2,.int 0 0] }
noncomputable abbrev zh3(h:aE)(l1 l2:Bool)(t1 t2:ai):aE:=(zh2 h l1 l2 t1 t2).push { cls:=.type "tuple",data:=.seq #[.ref h.objs.size,.ref (zh1 h l1 t1).objs.size] }
noncomputable abbrev zh4(h:aE)(l1 l2:Bool)(t1 t2:ai):aE:=(zh3 h l1 l2 t1 t2).push { cls:=.type "tuple",data:=.seq #[.none,.none] }
noncomputable abbrev zh5(h:aE)(l1 l2:Bool)(t1 t2:ai):aE:=(zh4 h l1 l2 t1 t2).push { cls:=.type "zip",data:=.fields #[.none,.bool a9,.bool a9,.ref (zh2 h l1 l2 t1 t2).objs.size,.ref (zh3 h l1 l2 t1 t2).objs.size] }
section
variable{prog:az}{w:aD}{A:aF}{E:k9l}{s:aq}{l1 l2:Bool}{t1 t2:ai}{us vs:Array ah}
def Yy{lst:Bool}{Q:k9l}(h:jo lst s.heap t its)(q:Q (.ref s.heap.objs.size) { s with heap:=zh1 s.heap lst t }):ay (aB prog w) A (iW (.ref t)) Q E s:=by
 unfold jo at h;cases lst with
 |true=>rw[if_pos rfl]at h;exact bJ h q
 |false=>rw[if_neg xq]at h;exact gE h q
theorem jo.push{lst:Bool}{h:aE}{t:ai}{its:Array ah}(x:jo lst h t its)(o:d7):jo lst (h.push o) t its:=by
 unfold jo at x ⊢;cases lst with
 |true=>rw[if_pos rfl]at x ⊢;exact x.push o
 |false=>rw[if_neg xq]at x ⊢;exact x.push o
def jft (t1 t2:ai) (us vs:Array ah):jV (cC.«zip.__new__» ⟨[.type "zip",.ref t1,.ref t2],[]⟩) (λ_ R s=>jo l1 s.heap t1 us/\jo l2 s.heap t2 vs /\
   R (.ok (.ret (.ref (zh4 s.heap l1 l2 t1 t2).objs.size))) { s with heap:=zh5 s.heap l1 l2 t1 t2 }) :=
 .of_wp λprog w A R s h=>by
  obtain⟨hp,g,d,tk,os⟩:=s;obtain⟨h1,h2,h⟩:=h;have hsub:=sub_zip;have e1:jo l1 (Shared.heap ⟨hp,g,d,tk,os⟩) t1 us:=h1;have e2:jo l2 (Shared.heap ⟨zh1 hp l1 t1,g,d,tk,os⟩) t2 vs:=h2.push _
  wp_walk using Yy e1,Yy e2
  exact⟨_,rfl,h⟩
end
def SqB(K:k9k)(lst:Bool)(H:Hp)(a:ai)(xs:List V):Prop:=if lst=ae then SqL K H a xs else SqT K H a xs
variable{us:List ah}
section
variable{X:Cx}{pins:k9m}{σ:St}{H:Hp}{s:aq}{a p:ai}{xs ys:List V}{lst:Bool}{ch:List ai}{h':aE}
def j0.seqB(e:j0 H H')(h:SqB K lst H a xs):SqB K lst H' a xs:=by
 unfold SqB at h ⊢;cases lst with
 |true=>rw[if_pos rfl]at h ⊢;exact e.seq h
 |false=>rw[if_neg xq]at h ⊢;exact e.seqT h
def Inv.side(I:Inv X pins σ H s)(h:SqB X.K lst H a xs):∃us:List ah,Vals xs us/\jo lst s.heap a us.toArray/\xs.length<=aw:=by
 unfold SqB at h;unfold jo;cases lst with
 |true=>rw[if_pos rfl]at h;obtain⟨its,r,q,l⟩:=I.list h;exact⟨its,r,by rw[if_pos rfl];exact q.isList,l⟩
 |false=>rw[if_neg xq]at h;obtain⟨its,r,q,l⟩:=I.tuple h;exact⟨its,r,by rw[if_neg xq];exact q,l⟩
def Inv.side_inj(I:Inv X pins σ H s)(h:SqB X.K lst H a xs)(h':SqB X.K lst H a ys):xs=ys:=by
 unfold SqB at h h';cases lst with
 |true=>rw[if_pos rfl]at h h';exact I.list_inj h h'
 |false=>rw[if_neg xq]at h h';exact I.tuple_inj h h'
def Inv.chg(I:Inv X pins σ H s)(hf:∀b∈ch,Qz X pins H b)(kp:∀c o,c∉ch->s.heap.get? c=a8 o->h'.get? c=a8 o):Inv X pins σ H { s with heap:=h' }:=by
 refine I.step (g':=s.gens) (t':=s.toks) (d':=s.drawn) (ch:=ch) (λb hb=>⟨(hf b hb).2.2.2.1,(hf b hb).2.1,(hf b hb).2.2.2.2.1,(hf b hb).2.2.2.2.2⟩) (λb o _ _ nc e _=>kp b o nc e) (λb o _ _ nc e _=>⟨o.slots,kp b o nc e⟩)
  (λb o _ _ n=>n) (λb o nc e=>⟨o,kp b o nc e⟩) (λb xs e=>e) (λb o u e=>e) (λb ps e=>⟨#[],by rw[e];simp⟩) (λm hm=>hm.at' λo e=>kp _ o (λz=>(hf _ z).2.1 rfl) e) (λc o e=>?_) I.bare
 have out:∀{b:ai}{u:HO},H b=a8 u->b∉ch:=λ{b u} q z=>by rw[(hf b z).1]at q;cases q
 refine jm.stay (I.hok c o e) (λb u hb q=>kp b u ?_ q) (λb q=>q) (λb xs q=>q) (λb _ _ q=>q);rcases hb with hb|hb
 .subst hb;exact out e
 .exact out hb
def Inv.chgT(I:Inv X pins σ H s)(hf:∀b∈ch,Qz X pins H b)(kp:∀c o,c∉ch->s.heap.get? c=a8 o->h'.get? c=a8 o)(rv:Vals xs us)(hl:xs.length<=aw)
  (hp:iz h' s.heap.objs.size us.toArray) (hq:Vh h' s.heap.objs.size):Inv X pins σ (upd H s.heap.objs.size (.tup xs)) { s with heap:=h' }:=by
 have hn:=I.fresh;have nz:∀{b:ai}{o:d7},s.heap.get? b=a8 o->b≠s.heap.objs.size:=λ{b o} e=>Xj (X4 e);have tr:∀{b:ai}{u:HO},H b=a8 u->upd H s.heap.objs.size (.tup xs) b=a8 u:=λ{b u} e=>by rw[jk (v9 e hn)];exact e
 refine I.step (g':=s.gens) (t':=s.toks) (d':=s.drawn) (ch:=ch) (λb hb=>⟨(hf b hb).2.2.2.1,(hf b hb).2.1,(hf b hb).2.2.2.2.1,(hf b hb).2.2.2.2.2⟩) (λb o _ _ nc e _=>kp b o nc e) (λb o _ _ nc e _=>⟨o.slots,kp b o nc e⟩)
  (λb o _ e n=>by rw[jk (nz e)];exact n) (λb o nc e=>⟨o,kp b o nc e⟩) (λb xs e=>tr e) (λb o u e=>tr e) (λb ps e=>⟨#[],by rw[tr e];simp⟩) (λm hm=>hm.at' λo e=>kp _ o (λz=>(hf _ z).2.1 rfl) e) (λc o e=>?_) I.bare
 have out:∀{b:ai}{u:HO},H b=a8 u->b∉ch:=λ{b u} q z=>by rw[(hf b z).1]at q;cases q
 by_cases z:c=s.heap.objs.size
 .subst z;rw[j8]at e;cases e;exact⟨hl,us,rv,hp,hq⟩
 .rw[jk z]at e;refine jm.stay (I.hok c o e) (λb u hb q=>kp b u ?_ q) (λb q=>tr q) (λb xs q=>tr q) (λb _ _ q=>tr q);rcases hb with hb|hb
  .subst hb;exact out e
  .exact out hb
end
noncomputable def Itz(K:k9k)(l1 l2:Bool)(t1 t2:ai):It :=
 ⟨λi H=>∃xs ys x y,SqB K l1 H t1 xs/\SqB K l2 H t2 ys/\xs[i]?=a8 x/\ys[i]?=a8 y,
 λi H v H'=>∃p x y,v=.ref p/\H p=af/\H'=upd H p (.tup [x,y])/\(∀xs,SqB K l1 H t1 xs->xs[i]?=a8 x)/\∀ys,SqB K l2 H t2 ys->ys[i]?=a8 y,
 λi H=>∃xs ys,SqB K l1 H t1 xs/\SqB K l2 H t2 ys/\(xs.length<=i\/ys.length<=i)⟩
def jbr{P:az}{w:aD}{es:List av}{l1 l2:Bool}{z TI TO i1 i2 t1 t2:ai}(D:iX z TI TO i1 i2 t1 t2) :
  Turn P w K (.Tuple es n pos) (Itz K l1 l2 t1 t2) [z,TI,TO,i1,i2] z (λi h=>eZ h z TI TO .none/\bW h TI (.ref i1) (.ref i2)/\(∃a b,bW h TO a b)/\jq l1 h i1 t1 i/\jq l2 h i2 t2 i) where
 mem:=by simp
 obj:=λi h ⟨hz,hTI,⟨a,b,hTO⟩,h1,h2⟩ c hc=>by
  simp at hc;rcases hc with rfl|rfl|rfl|rfl|rfl
  .exact⟨_,hz,λv e=>by cases e⟩
  .exact⟨_,hTI,λv e=>by cases e⟩
  .exact⟨_,hTO,λv e=>by cases e⟩
  .exact h1.obj
  .exact h2.obj
 keep:=λi h h' ⟨hz,hTI,⟨a,b,hTO⟩,h1,h2⟩ k=>⟨k z (by simp) _ hz,k TI (by simp) _ hTI,⟨a,b,k TO (by simp) _ hTO⟩,h1.stay λo e=>k i1 (by simp) o e,h2.stay λo e=>k i2 (by simp) o e⟩
 item:=by
  rintro X hP hw hK hc i pins s σ H E I hf ⟨hz,hTI,⟨a,b,hTO⟩,h1,h2⟩ ⟨xs,ys,x,y,sx,sy,hx,hy⟩;subst hP hw hK;obtain⟨us,ru,qu,_⟩:=I.side sx;obtain⟨vs,rv,qv,_⟩:=I.side sy;obtain⟨u,hu,rx⟩:=ru.get hx;obtain⟨v,hv,ry⟩:=rv.get hy;refine j4c D hz hTI hTO h1 h2 qu qv (by simpa using hu) (by simpa using hv) λh' z' o' j1 j2 p' sz kp=>⟨_,rfl,?_⟩
  refine wpAny_letOwnedTupleGo_zip (s:={ s with heap:=h' }) z' λh'' z'' sb=>?_;have zlt:z<s.heap.objs.size:=X4 hz;have kp':∀c o,c∉[z,TO,i1,i2]->s.heap.get? c=a8 o->h''.get? c=a8 o:=λc o nc e=>by simp at nc;exact sb.extBut _ _ nc.1 (kp c o nc.1 nc.2.1 nc.2.2.1 nc.2.2.2 e)
  have hf':∀c∈[z,TO,i1,i2],Qz X pins H c:=λc hc=>hf c (by simp at hc ⊢;rcases hc with h|h|h|h<;>simp[h]);have pt:iz h'' s.heap.objs.size [u,v].toArray:=⟨_,sb.extBut _ _ (Pr zlt) p',rfl,_,rfl⟩
  refine⟨.ref s.heap.objs.size,_,I.chgT hf' kp' (xs:=[x,y]) (.cons rx (.cons ry .nil)) (by show 2<=aw;decide) pt (Vh.of (sb.extBut _ _ (Pr zlt) p')),rfl,⟨_,x,y,rfl,I.fresh,rfl,λws hw=>by rw[I.side_inj hw sx];exact hx,λws hw=>by rw[I.side_inj hw sy];exact hy⟩,?_,λc hc=>?_⟩
  .refine⟨z'',?_,⟨u,v,sb.extBut _ _ D.TOz o'⟩,j1.ext sb.extBut D.i1z,j2.ext sb.extBut D.i2z⟩;exact sb.extBut _ _ D.TIz (kp TI _ D.TIz D.TITO D.TIi1 D.TIi2 hTI)
  .obtain⟨o,e,_⟩:∃o,s.heap.get? c=a8 o/\True:=by
    simp at hc;rcases hc with rfl|rfl|rfl|rfl|rfl
    .exact⟨_,hz,trivial⟩
    .exact⟨_,hTI,trivial⟩
    .exact⟨_,hTO,trivial⟩
    .obtain⟨o,e,_⟩:=h1.obj;exact⟨o,e,trivial⟩
    .obtain⟨o,e,_⟩:=h2.obj;exact⟨o,e,trivial⟩
   rw[jk (Xj (X4 e))];exact(hf c hc).1
 done:=by
  rintro X hP hw hK hc i pins s σ H E I hf ⟨hz,hTI,⟨a,b,hTO⟩,h1,h2⟩ ⟨xs,ys,sx,sy,hend⟩;subst hP hw hK;obtain⟨us,ru,qu,_⟩:=I.side sx;obtain⟨vs,rv,qv,_⟩:=I.side sy;have e1:=ru.length;have e2:=rv.length;have hf':∀c∈[z,TO,i1,i2],Qz X pins H c:=λc hc=>hf c (by simp at hc ⊢;rcases hc with h|h|h|h<;>simp[h]);refine j5y (I.ok.hd hc) D hz hTI hTO h1 h2 qu qv ?_ λh' kp=>⟨rfl,I.chg hf' λc o nc e=>?_⟩
  .rcases hend with h|h
   .left;simp;omega
   .right;simp;omega
  .simp at nc;exact kp c o nc.1 nc.2.1 nc.2.2.1 nc.2.2.2 e
 self:=λ_ _ _ _ _ st h=>mi st.1 h
section
variable{X:Cx}{ρ:Rho}{a b:av}{es:List av}{n:Nat}{pos p q1 q2:aP}{ds ds':List D}{l1 l2:Bool}
noncomputable def D.seq(lst:Bool)(ds:List D):D:=if lst=ae then .lst ds else .tup ds
def Zr{lst:Bool}(h:Enc K H (D.seq lst ds) v):∃t xs,v=.ref t/\SqB K lst H t xs/\j4 K H ds xs:=by
 unfold D.seq at h;unfold SqB;cases lst with
 |true=>rw[if_pos rfl]at h;obtain⟨t,xs,e,s,l⟩:=h;exact⟨t,xs,e,by rw[if_pos rfl];exact s,l⟩
 |false=>rw[if_neg xq]at h;obtain⟨t,xs,e,s,l⟩:=h;exact⟨t,xs,e,by rw[if_neg xq];exact s,l⟩
noncomputable def M4(ds ds':List D):List D:=(ds.zip ds').map λp=>D.tup [p.1,p.2]
def jd5{F:Hp}{t1 t2:ai}{ys:List V}(s1:SqB K l1 F t1 xs)(s2:SqB K l2 F t2 ys)(e1:j4 K F ds xs)(e2:j4 K F ds' ys):Ub K F (Itz K l1 l2 t1 t2) (M4 ds ds'):=λi H A g hA=>by
 have s1':SqB K l1 H t1 xs:=jw.seqB (g.seqB s1);have s2':SqB K l2 H t2 ys:=jw.seqB (g.seqB s2);have hl:(M4 ds ds').length=min ds.length ds'.length:=by unfold M4;rw[xg,List.length_zip]
 refine⟨λh=>?_,λh=>⟨xs,ys,s1',s2',?_⟩,λv H' ⟨p,x,y,ev,np,eH,hx,hy⟩=>?_⟩
 .rw[hl]at h;obtain⟨x,hx,_⟩:=e1.get (kh (show i<ds.length by omega));obtain⟨y,hy,_⟩:=e2.get (kh (show i<ds'.length by omega));exact⟨xs,ys,x,y,s1',s2',hx,hy⟩
 .rw[hl]at h;rw[e1.length,e2.length];omega
 .subst eH;refine⟨j6 np,λd hd=>?_⟩;unfold M4 at hd;rw[xm]at hd;cases z:(ds.zip ds')[i]? with
  |none=>rw[z]at hd;cases hd
  |some pr =>rw[z]at hd;cases hd;obtain⟨h1,h2⟩:=List.getElem?_zip_eq_some.mp z;obtain⟨x',hx',ex⟩:=e1.get h1;obtain⟨y',hy',ey⟩:=e2.get h2;have q1:=hx xs s1';have q2:=hy ys s2';rw[hx']at q1;cases q1;rw[hy']at q2;cases q2;have pA:p∉A:=λz=>hA p z np;have gg:j0 F (del (upd H p (.tup [x,y])) A):=g.trans (jg (j6 np));exact⟨p,[x,y],ev,.inl (.inl (by rw[j5 pA];exact j8)),x,[y],rfl,ex.mono gg,y,[],rfl,ey.mono gg,rfl⟩
theorem DI.zip (l1 l2:Bool) (ha:DE X ρ a (D.seq l1 ds)) (hb:DE X ρ b (D.seq l2 ds')) (hm:X.mg "zip" = af) (hg:Gl X "zip":=by rfl) (hs:aj [a,b] X.env=(a9,aC a X.env)::aj [b] X.env:=by rfl)
  (hs2:aj [b] X.env=(a9,aC b X.env)::aj [] X.env:=by rfl) (hpl:(aR pos (aj [b] X.env)).any (·.1)=a9:=by rfl):DI X ρ (.Tuple es n q1) (.Call (.Name "zip" p) [a,b] [] pos) (M4 ds ds'):=λσ H R r q pins s I=>by
 have args:Cw X [a,b] σ H (λvs H'=>∃v u,vs=[v,u]/\j0 H H'/\Enc X.K (del H' (owns ρ)) (D.seq l1 ds) v/\Enc X.K (del H' (owns ρ)) (D.seq l2 ds') u) :=
  (ji peS (ji peS qb hs2) hs).to (ha σ H _ r λv H1 g1 e1=>hb σ H1 _ (r.grow g1) λu H2 g2 e2=>⟨v,u,rfl,g1.trans g2,e1.mono (jg g2),e2⟩)
 refine Call_ (Jl I hg hm boot_zip (callWith_type1 (thn (args pos pins s I) λus s1 h1=>?_) hs hpl));obtain⟨vs,H1,I1,r1,v,u,ev,g1,e1,e2⟩:=h1;subst ev;obtain⟨t1,xs,et1,sq1,en1⟩:=Zr e1;obtain⟨t2,ys,et2,sq2,en2⟩:=Zr e2;subst et1 et2;obtain⟨u1,u2,eu,ru1,ru2⟩:=r1.two;subst eu;cases ru1;cases ru2;obtain⟨w1,rw1,qw1,_⟩:=I1.side (jw.seqB sq1);obtain⟨w2,rw2,qw2,_⟩:=I1.side (jw.seqB sq2);refine callType_new F.called_zip (by decide) (F.typeCall_zip_2 _ _) (F.newCall_zip_2 _ _) (λobj=>F.args_object_init_3 obj _ _) F.entry_zip_new (jft (l1:=l1) (l2:=l2) t1 t2 w1.toArray w2.toArray) ⟨qw1,qw2,?_⟩;have z1:(zh1 s1.heap l1 t1).objs.size=s1.heap.objs.size+1:=Pq ..;have z2:(zh2 s1.heap l1 l2 t1 t2).objs.size=s1.heap.objs.size+2:=by rw[Pq,z1]
 have z3:(zh3 s1.heap l1 l2 t1 t2).objs.size=s1.heap.objs.size+3:=by rw[Pq,z2]
 have z4:(zh4 s1.heap l1 l2 t1 t2).objs.size=s1.heap.objs.size+4:=by rw[Pq,z3]
 have z5:(zh5 s1.heap l1 l2 t1 t2).objs.size=s1.heap.objs.size+5:=by rw[Pq,z4]
 have b5:(zh5 s1.heap l1 l2 t1 t2).get? (zh4 s1.heap l1 l2 t1 t2).objs.size=a8 _:=X3 _ rfl;have b4:(zh5 s1.heap l1 l2 t1 t2).get? (zh3 s1.heap l1 l2 t1 t2).objs.size=a8 _:=xj _ (X3 _ rfl);have b3:(zh5 s1.heap l1 l2 t1 t2).get? (zh2 s1.heap l1 l2 t1 t2).objs.size=a8 _:=xj _ (xj _ (X3 _ rfl));have b2:(zh5 s1.heap l1 l2 t1 t2).get? (zh1 s1.heap l1 t1).objs.size=a8 _:=xj _ (xj _ (xj _ (X3 _ rfl)));have b1:(zh5 s1.heap l1 l2 t1 t2).get? s1.heap.objs.size=a8 _:=xj _ (xj _ (xj _ (xj _ (X3 _ rfl))));have kp:∀c o,s1.heap.get? c=a8 o->(zh5 s1.heap l1 l2 t1 t2).get? c=a8 o:=λc o e=>xj _ (xj _ (xj _ (xj _ (xj _ e))));show _/\_;rw[z2,z3,z4]at b5;rw[z1,z2]at b3;rw[z3]at b4;rw[z1]at b2;rw[z4];have I2:Inv X pins σ H1 { s1 with heap:=zh5 s1.heap l1 l2 t1 t2 }:=I1.kept (t':=s1.toks) kp;have lt1:t1<s1.heap.objs.size:=by
  unfold jo at qw1;cases l1 with
  |true=>rw[if_pos rfl]at qw1;obtain⟨_,e,_⟩:=qw1;exact X4 e
  |false=>rw[if_neg xq]at qw1;obtain⟨_,e,_⟩:=qw1;exact X4 e
 have lt2:t2<s1.heap.objs.size:=by
  unfold jo at qw2;cases l2 with
  |true=>rw[if_pos rfl]at qw2;obtain⟨_,e,_⟩:=qw2;exact X4 e
  |false=>rw[if_neg xq]at qw2;obtain⟨_,e,_⟩:=qw2;exact X4 e
 have side:∀{l:Bool}{j t:ai},(zh5 s1.heap l1 l2 t1 t2).get? j=a8 { cls:=.type (Cp l),data:=.fields #[.ref t,.int 0 0] }->jq l (zh5 s1.heap l1 l2 t1 t2) j t 0:=λ{l j t} e=>by
  unfold jq;cases l with
  |true=>rw[if_pos rfl];exact⟨_,e,rfl,rfl⟩
  |false=>rw[if_neg xq];exact⟨_,e,rfl,rfl⟩
 refine⟨⟨_,b5,rfl⟩,mi (s:={ s1 with heap:=zh5 s1.heap l1 l2 t1 t2 }) b5 ?_⟩;refine⟨_,_,_,Itz X.K l1 l2 t1 t2,H1,rfl,I2,jbr (zipApart_new lt1 lt2),⟨b5,b3,⟨_,_,b4⟩,side b1,side b2⟩,λc hc=>?_,q _ H1 g1 (jd5 sq1 sq2 en1 en2)⟩;have hc':c=s1.heap.objs.size+4\/c=s1.heap.objs.size+2\/c=s1.heap.objs.size+3\/c=s1.heap.objs.size\/c=s1.heap.objs.size+1:=by simpa using hc
 have hge:s1.heap.objs.size<=c:=by rcases hc' with e|e|e|e|e<;>rw[e]<;>first|exact X8 _|exact kN _ _
 obtain⟨f0,f1,f2,f3,f4,f5⟩:=I1.fpOk hge (I1.hok.fresh hge);exact⟨f0,f1,f2,f3,f4,f5⟩
def DG.pair{x y:au}(i j:Nat){d d':D}(hij:i≠j)(hN:X.N.Nodup)(hi:X.N[i]?=a8 x:=by rfl)(hj:X.N[j]?=a8 y:=by rfl)(hx:Loc X.env.scope x:=by first|exact bf rfl|exact bH rfl)(hy:Loc X.env.scope y:=by first|exact bf rfl|exact bH rfl)
  (fx:X.fn x=ae\/X.env.scope.names.lookup x=a8 .local:=by first|exact .inl rfl|exact .inr rfl) (fy:X.fn y=ae\/X.env.scope.names.lookup y=a8 .local:=by first|exact .inl rfl|exact .inr rfl) (hc:X.calm=ae:=by rfl)
  (hn:(bE [.Name x q1,.Name y q2] X.env).length=2:=by rfl) (hst:(bE [.Name x q1,.Name y q2] X.env).findIdx? (·.1)=af:=by rfl)
  (e1:(bE [.Name x q1,.Name y q2] X.env).map (·.2)=dk (.Name x q1) X.env::(bE [.Name y q2] X.env).map (·.2):=by rfl) (e2:(bE [.Name y q2] X.env).map (·.2)=dk (.Name y q2) X.env::(bE [] X.env).map (·.2):=by rfl) :
  DG X ρ (.Tuple [.Name x q1,.Name y q2] n pos) (.tup [d,d']) ((ρ.set i (.val d)).set j (.val d')):=by
 refine⟨λb hb=>(qe rfl).subset ((qe rfl).subset hb),λσ H v Q R en q=>?_⟩;obtain⟨t,xs,ev,sq,u,r,e,eu,u',r',e',eu',er⟩:=en;subst e e' ev er;refine(jk0 hc (j44 (Rq hN hi hx fx) (j44 (Rq hN hj hy fy) jh6 e2) e1) hn hst).to ⟨t,[u,u'],rfl,jw.seqT sq,rfl,u,[u'],rfl,u',[],rfl,rfl,?_⟩;refine q _ ?_;have R1:Rep X.K (ρ.set i (.val d)) (σ.set i (a8 u)) H:=R.set_val eu;exact R1.set_val (eu'.mono (Jh λb hb=>(qe rfl).subset hb))
end
noncomputable def D.ty:D->String
 |.non=>"NoneType"
 |.bl _=>"bool"
 |.int _=>"int"
 |.str _=>"str"
 |.tup _=>"tuple"
 |.lst _=>"list"
 |.dct _ _=>"dict"
 |.sct _=>"dict"
 |.fn _ _=>"function"
mutual
noncomputable def deq:D->D->Bool
 |.non,.non=>ae
 |.bl a,.bl b=>a==b
 |.bl a,.int b=>(if a then 1 else 0)==b
 |.int a,.bl b=>a==(if b then 1 else 0)
 |.int a,.int b=>a==b
 |.str a,.str b=>a==b
 |.tup xs,.tup ys=>z9 xs ys
 |.lst xs,.lst ys=>z9 xs ys
 |.dct k xs,.dct m ys=>decide (k=m)&&z9 xs ys
 |.sct k,.sct m=>decide (k=m)
 |_,_=>a9
noncomputable def z9:List D->List D->Bool
 |[],[]=>ae
 |x::xs,y::ys=>deq x y&&z9 xs ys
 |_,_=>a9
end
def jm5{a:Bool}:deq (.bl a) (.bl b)=(a==b):=(rfl)
def Ej{a b:Int}:deq (.int a) (.int b)=(a==b):=(rfl)
def j4z{a b:au}:deq (.str a) (.str b)=(a==b):=(rfl)
def Ei{a b:List D}:deq (.tup a) (.tup b)=z9 a b:=(rfl)
def j50{a b:List D}:deq (.lst a) (.lst b)=z9 a b:=(rfl)
def Zk:z9 [] []=ae:=(rfl)
def vh{x y:D}{xs ys:List D}:z9 (x::xs) (y::ys)=(deq x y&&z9 xs ys):=(rfl)
def Yi{y:D}{ys:List D}:z9 [] (y::ys)=a9:=(rfl)
def Yj{x:D}{xs:List D}:z9 (x::xs) []=a9:=(rfl)
mutual
noncomputable def D.dep:D->Nat
 |.tup xs=>D.depL xs+1
 |.lst xs=>D.depL xs+1
 |.dct _ _=>20000
 |.sct _=>20000
 |.fn _ _=>20000
 |_=>0
noncomputable def D.depL:List D->Nat
 |[]=>0
 |x::xs=>max x.dep (D.depL xs)
end
mutual
theorem Lz:∀d:D,d.dep<10000->deq d d=ae
 |.non,_=>rfl
 |.bl b,_=>by rw[jm5];simp
 |.int i,_=>by rw[Ej];simp
 |.str x,_=>by rw[j4z];simp
 |.tup xs,h=>by rw[Ei];exact Bt xs (by simp only[D.dep]at h;omega)
 |.lst xs,h=>by rw[j50];exact Bt xs (by simp only[D.dep]at h;omega)
 |.dct _ _,h=>by simp[D.dep]at h
 |.sct _,h=>by simp[D.dep]at h
 |.fn _ _,h=>by simp[D.dep]at h
theorem Bt:∀ds:List D,D.depL ds<10000->z9 ds ds=ae
 |[],_=>rfl
 |d::ds,h=>by rw[D.depL]at h;rw[vh,Lz d nofun,Bt ds nofun];rfl
end
theorem W5:∀{xs ys:List D},xs.length≠ys.length->z9 xs ys=a9
 |[],[],h=>absurd rfl h
 |[],_::_,_=>by simp[Zk,vh,Yi,Yj]
 |_::_,[],_=>by simp[Zk,vh,Yi,Yj]
 |x::xs,y::ys,h=>by have:=W5 (xs:=xs) (ys:=ys) (by simpa using h);simp[Zk,vh,Yi,Yj,this]
theorem Vv{f:Nat->Bool}:∀{xs ys:List D},xs.length=ys.length->(∀(j:Nat) x y,xs[j]?=a8 x->ys[j]?=a8 y->f j=deq x y)->(ao xs.length).all f=z9 xs ys
 |[],[],_,_=>by simp[Zk,vh,Yi,Yj]
 |[],_::_,h,_=>by simp at h
 |_::_,[],h,_=>by simp at h
 |x::xs,y::ys,h,hf=>by have ih:=Vv (f:=λj=>f (j+1)) (xs:=xs) (ys:=ys) (by simpa using h) (λj a b ha hb=>hf (j+1) a b (by simpa using ha) (by simpa using hb));rw[xx,Sd,cB,hf 0 x y rfl rfl,iN];simp only[vh];rw[<-ih];rfl
variable{a:ai}{xs:List V}
section
variable{X:Cx}{pins:k9m}{σ:St}{H:Hp}{s:aq}
def j49(I:Inv X pins σ H s){ys:List V}(h:SqT X.K H a xs)(h':SqL X.K H a ys):False:=by obtain⟨_,_,⟨o,h1,h2,_⟩,_⟩:=I.tuple h;obtain⟨_,_,⟨o',n,h1',h2',_⟩,_⟩:=I.list h';rw[h1]at h1';cases h1';rw[h2]at h2';injection h2' with e;exact absurd e (by decide)
noncomputable def D.atom:D->Option V
 |.non=>a8 .non
 |.bl b=>a8 (.bl b)
 |.int i=>a8 (.int i)
 |.str x=>a8 (.str x)
 |_=>af
def Enc.at_{d:D}(h:Enc K H d v)(e:d.atom=a8 u):v=u:=by
 cases d with
 |non=>cases e;exact(show v=.non from h)
 |bl b=>cases e;exact(show v=.bl b from h)
 |int i=>cases e;exact(show v=.int i from h)
 |str x=>cases e;exact(show v=.str x from h)
 |_=>cases e
theorem Enc.ref{K:k9k}{d:D}{v:V}(h:Enc K H d v)(e:d.atom=af):∃a,v=.ref a:=by
 cases d with
 |tup l=>obtain⟨a,_,e,_⟩:=h;exact⟨a,e⟩
 |lst l=>obtain⟨a,_,e,_⟩:=h;exact⟨a,e⟩
 |dct k l=>obtain⟨a,_,_,_,e,_⟩:=h;exact⟨a,e⟩
 |sct k=>obtain⟨a,e,_⟩:=h;exact⟨a,e⟩
 |fn x l=>obtain⟨a,_,_,_,_,e,_⟩:=h;exact⟨a,e⟩
 |_=>cases e
def jej{d d':D}(h:d.atom=a8 u)(h':d'.atom=a8 u):d=d':=by cases d<;>cases d'<;>first|(cases h;done)|(cases h';done)|(cases h;cases h';rfl)|(cases h;cases h')
def j5g{d:D}(h:d.atom=a8 (.ref a)):False:=by cases d<;>cases h
def jlc(I:Inv X pins σ H s){d d':D}(hd:d.dep<10000)(hd':d'.dep<10000)(h:Enc X.K H d v)(h':Enc X.K H d' v) :
  d=d'\/∃ds ds' xs,((d=.tup ds/\d'=.tup ds')\/(d=.lst ds/\d'=.lst ds'))/\j4 X.K H ds xs/\j4 X.K H ds' xs:=by
 cases e:d.atom with
 |some u =>
  have ev:=h.at_ e;subst ev;cases e':d'.atom with
  |some u'=>exact .inl (jej e ((h'.at_ e')▸e'))
  |none=>obtain⟨a,ea⟩:=h'.ref e';subst ea;exact(j5g e).elim
 |none =>
  cases e':d'.atom with
  |some u'=>have ev:=h'.at_ e';subst ev;obtain⟨a,ea⟩:=h.ref e;subst ea;exact(j5g e').elim
  |none =>
   cases d with
   |tup ds =>
    obtain⟨a,xs,ea,sq,l⟩:=h;cases d' with
    |tup ds' =>obtain⟨a',ys,eb,sq',l'⟩:=h';rw[ea]at eb;cases eb;rw[I.tuple_inj sq' sq]at l';exact .inr ⟨ds,ds',xs,.inl ⟨rfl,rfl⟩,l,l'⟩
    |lst ds'=>obtain⟨a',ys,eb,sq',l'⟩:=h';rw[ea]at eb;cases eb;exact(j49 I sq sq').elim
    |dct _ _=>simp[D.dep]at hd'
    |sct _=>simp[D.dep]at hd'
    |fn _ _=>simp[D.dep]at hd'
    |_=>cases e'
   |lst ds =>
    obtain⟨a,xs,ea,sq,l⟩:=h;cases d' with
    |lst ds' =>obtain⟨a',ys,eb,sq',l'⟩:=h';rw[ea]at eb;cases eb;rw[I.list_inj sq' sq]at l';exact .inr ⟨ds,ds',xs,.inr ⟨rfl,rfl⟩,l,l'⟩
    |tup ds'=>obtain⟨a',ys,eb,sq',l'⟩:=h';rw[ea]at eb;cases eb;exact(j49 I sq' sq).elim
    |dct _ _=>simp[D.dep]at hd'
    |sct _=>simp[D.dep]at hd'
    |fn _ _=>simp[D.dep]at hd'
    |_=>cases e'
   |dct _ _=>simp[D.dep]at hd
   |sct _=>simp[D.dep]at hd
   |fn _ _=>simp[D.dep]at hd
   |_=>cases e
theorem jdc{n:Nat}(ih:∀{d d':D}{v:V},d.dep<=n->d.dep<10000->d'.dep<10000->Enc X.K H d v->Enc X.K H d' v->d=d'):∀{ds ds':List D}{xs:List V},D.depL ds<=n->D.depL ds<10000->D.depL ds'<10000->j4 X.K H ds xs->j4 X.K H ds' xs->ds=ds'
 |[],[],_,_,_,_,_,_=>rfl
 |[],_::_,_,_,_,_,h,⟨x,r,e,_⟩=>by cases h;cases e
 |_::_,[],_,_,_,_,⟨x,r,e,_⟩,h=>by cases h;cases e
 |d::ds,d'::ds',_,m,n1,n2,⟨x,r,e,h,l⟩,⟨x',r',e',h',l'⟩=>by subst e;cases e';rw[D.depL]at m n1 n2;rw[ih nofun nofun nofun h h',jdc ih nofun nofun nofun l l']
theorem jdb(I:Inv X pins σ H s):∀(n:Nat){d d':D}{v:V},d.dep<=n->d.dep<10000->d'.dep<10000->Enc X.K H d v->Enc X.K H d' v->d=d'
 |0,d,d',v,hn,hd,hd',h,h'=>by
  rcases jlc I hd hd' h h' with e|⟨ds,ds',xs,⟨e,_⟩|⟨e,_⟩,_⟩
  .exact e
  .subst e;simp[D.dep]at hn
  .subst e;simp[D.dep]at hn
 |n+1,d,d',v,hn,hd,hd',h,h'=>by
  rcases jlc I hd hd' h h' with e|⟨ds,ds',xs,⟨e,e'⟩|⟨e,e'⟩,l,l'⟩
  .exact e
  .subst e e';simp only[D.dep]at hn hd hd';rw[jdc (λa b c=>jdb I n a b c) nofun nofun nofun l l']
  .subst e e';simp only[D.dep]at hn hd hd';rw[jdc (λa b c=>jdb I n a b c) nofun nofun nofun l l']
def Enc.inj(I:Inv X pins σ H s){d d':D}(hd:d.dep<10000)(hd':d'.dep<10000)(h:Enc X.K H d v)(h':Enc X.K H d' v):d=d':=jdb I d.dep (X8 _) hd hd' h h'
end
section
variable{X:Cx}{pins:k9m}{σ:St}{H:Hp}{s:aq}
theorem D.depL_le:∀{ds:List D}{j:Nat}{d:D},ds[j]?=a8 d->d.dep<=D.depL ds
 |[],_,_,h=>by simp at h
 |x::xs,0,d,h=>by simp at h;subst h;simp[D.depL];omega
 |x::xs,j+1,d,h=>by have:=D.depL_le (ds:=xs) (j:=j) (d:=d) (by simpa using h);simp[D.depL];omega
theorem Y5(I:Inv X pins σ H s):∀(n:Nat)(A:aF){d d':D}{v v':V}{u u':ah},d.dep<=n->A.units+n<aU->d'.dep<10000->Enc X.K H d v->RelV v u->Enc X.K H d' v'->RelV v' u' ->
  gW A s u u' (deq d d')/\cV A s u u' (deq d d')
 |0,A,d,d',v,v',u,u',hn,hu,nd,en,r,en',r'=>by
  have hu0:A.units<aU:=by omega
  cases d with
  |tup l=>simp[D.dep]at hn
  |lst l=>simp[D.dep]at hn
  |dct ks l=>simp[D.dep]at hn
  |sct k=>simp[D.dep]at hn
  |fn x l=>simp[D.dep]at hn
  |non =>
   cases(show v=.non from en);cases(show u=aY from r);cases d' with
   |dct ks' l'=>simp[D.dep]at nd
   |sct k'=>simp[D.dep]at nd
   |fn x' l'=>simp[D.dep]at nd
   |non=>cases(show v'=.non from en');cases(show u'=aY from r');exact⟨.none_none,.same _⟩
   |bl k=>cases(show v'=.bl k from en');cases(show u'=bT k from r');exact⟨.none_bool _,.none_bool _⟩
   |int k=>cases(show v'=.int k from en');obtain⟨t,q⟩:=(show ∃t,u'=bB k t from r');subst q;exact⟨.none_int _ _,.none_int _ _⟩
   |str k=>cases(show v'=.str k from en');obtain⟨t,q⟩:=(show ∃t,u'=bV k t from r');subst q;exact⟨.none_str _ _,.none_str _ _⟩
   |tup l=>obtain⟨a,xs,e,sq,_⟩:=en';subst e;cases(show u'=aI a from r');obtain⟨_,_,q,_⟩:=I.tuple sq;exact⟨.none_tuple q hu0,.none_tuple q hu0⟩
   |lst l=>obtain⟨a,xs,e,sq,_⟩:=en';subst e;cases(show u'=aI a from r');obtain⟨_,_,q,_⟩:=I.list sq;exact⟨.none_list q.isList hu0,.none_list q.isList hu0⟩
  |bl b =>
   cases(show v=.bl b from en);cases(show u=bT b from r);cases d' with
   |dct ks' l'=>simp[D.dep]at nd
   |sct k'=>simp[D.dep]at nd
   |fn x' l'=>simp[D.dep]at nd
   |non=>cases(show v'=.non from en');cases(show u'=aY from r');exact⟨.bool_none _,.bool_none _⟩
   |bl k=>cases(show v'=.bl k from en');cases(show u'=bT k from r');exact⟨.bool_bool _ _,.bool_bool _ _⟩
   |int k=>cases(show v'=.int k from en');obtain⟨t,q⟩:=(show ∃t,u'=bB k t from r');subst q;exact⟨.bool_int _ _ _,.bool_int _ _ _⟩
   |str k=>cases(show v'=.str k from en');obtain⟨t,q⟩:=(show ∃t,u'=bV k t from r');subst q;exact⟨.bool_str _ _ _,.bool_str _ _ _⟩
   |tup l=>obtain⟨a,xs,e,sq,_⟩:=en';subst e;cases(show u'=aI a from r');obtain⟨_,_,q,_⟩:=I.tuple sq;exact⟨.bool_tuple _ q hu0,.bool_tuple _ q hu0⟩
   |lst l=>obtain⟨a,xs,e,sq,_⟩:=en';subst e;cases(show u'=aI a from r');obtain⟨_,_,q,_⟩:=I.list sq;exact⟨.bool_list _ q.isList hu0,.bool_list _ q.isList hu0⟩
  |int b =>
   cases(show v=.int b from en);obtain⟨tk,q0⟩:=(show ∃t,u=bB b t from r);subst q0;cases d' with
   |dct ks' l'=>simp[D.dep]at nd
   |sct k'=>simp[D.dep]at nd
   |fn x' l'=>simp[D.dep]at nd
   |non=>cases(show v'=.non from en');cases(show u'=aY from r');exact⟨.int_none _ _,.int_none _ _⟩
   |bl k=>cases(show v'=.bl k from en');cases(show u'=bT k from r');exact⟨.int_bool _ _ _,.int_bool _ _ _⟩
   |int k=>cases(show v'=.int k from en');obtain⟨t,q⟩:=(show ∃t,u'=bB k t from r');subst q;exact⟨.int_int _ _ _ _,.int_int _ _ _ _⟩
   |str k=>cases(show v'=.str k from en');obtain⟨t,q⟩:=(show ∃t,u'=bV k t from r');subst q;exact⟨.int_str _ _ _ _,.int_str _ _ _ _⟩
   |tup l=>obtain⟨a,xs,e,sq,_⟩:=en';subst e;cases(show u'=aI a from r');obtain⟨_,_,q,_⟩:=I.tuple sq;exact⟨.int_tuple _ _ q hu0,.int_tuple _ _ q hu0⟩
   |lst l=>obtain⟨a,xs,e,sq,_⟩:=en';subst e;cases(show u'=aI a from r');obtain⟨_,_,q,_⟩:=I.list sq;exact⟨.int_list _ _ q.isList hu0,.int_list _ _ q.isList hu0⟩
  |str b =>
   cases(show v=.str b from en);obtain⟨tk,q0⟩:=(show ∃t,u=bV b t from r);subst q0;cases d' with
   |dct ks' l'=>simp[D.dep]at nd
   |sct k'=>simp[D.dep]at nd
   |fn x' l'=>simp[D.dep]at nd
   |non=>cases(show v'=.non from en');cases(show u'=aY from r');exact⟨.str_none _ _,.str_none _ _⟩
   |bl k=>cases(show v'=.bl k from en');cases(show u'=bT k from r');exact⟨.str_bool _ _ _,.str_bool _ _ _⟩
   |int k=>cases(show v'=.int k from en');obtain⟨t,q⟩:=(show ∃t,u'=bB k t from r');subst q;exact⟨.str_int _ _ _ _,.str_int _ _ _ _⟩
   |str k=>cases(show v'=.str k from en');obtain⟨t,q⟩:=(show ∃t,u'=bV k t from r');subst q;exact⟨.str_str _ _ _ _,.str_str _ _ _ _⟩
   |tup l=>obtain⟨a,xs,e,sq,_⟩:=en';subst e;cases(show u'=aI a from r');obtain⟨_,_,q,_⟩:=I.tuple sq;exact⟨.str_tuple _ _ q hu0,.str_tuple _ _ q hu0⟩
   |lst l=>obtain⟨a,xs,e,sq,_⟩:=en';subst e;cases(show u'=aI a from r');obtain⟨_,_,q,_⟩:=I.list sq;exact⟨.str_list _ _ q.isList hu0,.str_list _ _ q.isList hu0⟩
 |n+1,A,d,d',v,v',u,u',hn,hu,nd,en,r,en',r'=>by
  have hu0:A.units<aU:=by omega
  have hu1:A.in1.units+n<aU:=by show A.units+1+n<aU;omega
  have low:d.dep<=n->gW A s u u' (deq d d')/\cV A s u u' (deq d d'):=λh=>Y5 I n A h nofun nd en r en' r';cases d with
  |non=>exact low (by simp[D.dep])
  |bl b=>exact low (by simp[D.dep])
  |int b=>exact low (by simp[D.dep])
  |str b=>exact low (by simp[D.dep])
  |dct ks l=>exfalso;have:(9900:Nat)=aU:=rfl;simp only[D.dep]at hn;omega
  |sct k=>exfalso;have:(9900:Nat)=aU:=rfl;simp only[D.dep]at hn;omega
  |fn x l=>exfalso;have:(9900:Nat)=aU:=rfl;simp only[D.dep]at hn;omega
  |tup ds =>
   have hd:D.depL ds<=n:=by simp[D.dep]at hn;omega
   obtain⟨a,xs,e,sq,l⟩:=id en;subst e;cases(show u=aI a from r);obtain⟨us,rv,q,_⟩:=I.tuple sq;cases d' with
   |dct ks' l'=>simp[D.dep]at nd
   |sct k'=>simp[D.dep]at nd
   |fn x' l'=>simp[D.dep]at nd
   |non=>cases(show v'=.non from en');cases(show u'=aY from r');exact⟨.tuple_none q hu0,.tuple_none q hu0⟩
   |bl k=>cases(show v'=.bl k from en');cases(show u'=bT k from r');exact⟨.tuple_bool _ q hu0,.tuple_bool _ q hu0⟩
   |int k=>cases(show v'=.int k from en');obtain⟨t,q'⟩:=(show ∃t,u'=bB k t from r');subst q';exact⟨.tuple_int _ _ q hu0,.tuple_int _ _ q hu0⟩
   |str k=>cases(show v'=.str k from en');obtain⟨t,q'⟩:=(show ∃t,u'=bV k t from r');subst q';exact⟨.tuple_str _ _ q hu0,.tuple_str _ _ q hu0⟩
   |lst ds'=>obtain⟨a',ys,e,sq',_⟩:=en';subst e;cases(show u'=aI a' from r');obtain⟨_,_,q',_⟩:=I.list sq';exact⟨.tuple_list q q'.isList hu0,.tuple_list q q'.isList hu0⟩
   |tup ds' =>
    obtain⟨a',ys,e,sq',l'⟩:=id en';subst e;cases(show u'=aI a' from r');obtain⟨us',rv',q',_⟩:=I.tuple sq';have e1:us.length=ds.length:=by rw[<-rv.length,l.length]
    have e2:us'.length=ds'.length:=by rw[<-rv'.length,l'.length]
    have main:gW A s (.ref a) (.ref a') (deq (.tup ds) (.tup ds')):=by
     have item:∀(j:Nat)(h1:j<us.toArray.size)(h2:j<us'.toArray.size),cV A.in1 s us.toArray[j] us'.toArray[j] (deq (ds.getD j .non) (ds'.getD j .non)):=λj h1 h2=>by
      have k1:j<ds.length:=by rw[<-e1];simpa using h1
      have k2:j<ds'.length:=by rw[<-e2];simpa using h2
      obtain⟨x,hx,ex⟩:=l.get (kh k1);obtain⟨y,hy,ey⟩:=l'.get (kh k2);obtain⟨w1,hw1,rw1⟩:=rv.get hx;obtain⟨w2,hw2,rw2⟩:=rv'.get hy;have g1:us.toArray[j]=w1:=by simp at h1 ⊢;rw[kh (by simpa using h1)]at hw1;exact ax hw1
      have g2:us'.toArray[j]=w2:=by simp at h2 ⊢;rw[kh (by simpa using h2)]at hw2;exact ax hw2
      rw[g1,g2,xf,xf,kh k1,kh k2];exact(Y5 I n A.in1 (Xn (D.depL_le (kh k1)) hd) hu1 (cG (D.depL_le (kh k2)) (by simp only[D.dep]at nd;omega)) ex rw1 ey rw2).2
     have z:=SeqAt.RcAt.tuples (A:=A) (s:=s) q q' hu0 (e:=λj=>deq (ds.getD j .non) (ds'.getD j .non)) item;have ev:((ao (min us.toArray.size us'.toArray.size)).all (λj=>deq (ds.getD j .non) (ds'.getD j .non))&&us.toArray.size==us'.toArray.size)=deq (.tup ds) (.tup ds'):=by
      simp only[Ei,Xd,e1,e2];by_cases hl:ds.length=ds'.length
      .rw[hl,my,beq_self_eq_true,iB,<-hl];exact Vv hl λj x y hx hy=>by rw[xf,xf,hx,hy];rfl
      .rw[W5 hl,beq_false_of_ne hl,i7]
     rw[ev]at z;exact z
    refine⟨main,?_⟩;by_cases ea:a=a'
    .subst ea;have e9:(9900:Nat)=aU:=rfl;rw[Enc.inj I nofun nd en en',Lz _ nd];exact .same _
    .exact .of_refs ea main
  |lst ds =>
   have hd:D.depL ds<=n:=by simp[D.dep]at hn;omega
   obtain⟨a,xs,e,sq,l⟩:=id en;subst e;cases(show u=aI a from r);obtain⟨us,rv,q0,_⟩:=I.list sq;have q:=q0.isList;cases d' with
   |dct ks' l'=>simp[D.dep]at nd
   |sct k'=>simp[D.dep]at nd
   |fn x' l'=>simp[D.dep]at nd
   |non=>cases(show v'=.non from en');cases(show u'=aY from r');exact⟨.list_none q hu0,.list_none q hu0⟩
   |bl k=>cases(show v'=.bl k from en');cases(show u'=bT k from r');exact⟨.list_bool _ q hu0,.list_bool _ q hu0⟩
   |int k=>cases(show v'=.int k from en');obtain⟨t,q'⟩:=(show ∃t,u'=bB k t from r');subst q';exact⟨.list_int _ _ q hu0,.list_int _ _ q hu0⟩
   |str k=>cases(show v'=.str k from en');obtain⟨t,q'⟩:=(show ∃t,u'=bV k t from r');subst q';exact⟨.list_str _ _ q hu0,.list_str _ _ q hu0⟩
   |tup ds'=>obtain⟨a',ys,e,sq',_⟩:=en';subst e;cases(show u'=aI a' from r');obtain⟨_,_,q',_⟩:=I.tuple sq';exact⟨.list_tuple q q' hu0,.list_tuple q q' hu0⟩
   |lst ds' =>
    obtain⟨a',ys,e,sq',l'⟩:=id en';subst e;cases(show u'=aI a' from r');obtain⟨us',rv',q0',_⟩:=I.list sq';have q':=q0'.isList;have e1:us.length=ds.length:=by rw[<-rv.length,l.length]
    have e2:us'.length=ds'.length:=by rw[<-rv'.length,l'.length]
    have main:gW A s (.ref a) (.ref a') (deq (.lst ds) (.lst ds')):=by
     have item:∀(j:Nat)(h1:j<us.toArray.size)(h2:j<us'.toArray.size),cV A.in1 s us.toArray[j] us'.toArray[j] (deq (ds.getD j .non) (ds'.getD j .non)):=λj h1 h2=>by
      have k1:j<ds.length:=by rw[<-e1];simpa using h1
      have k2:j<ds'.length:=by rw[<-e2];simpa using h2
      obtain⟨x,hx,ex⟩:=l.get (kh k1);obtain⟨y,hy,ey⟩:=l'.get (kh k2);obtain⟨w1,hw1,rw1⟩:=rv.get hx;obtain⟨w2,hw2,rw2⟩:=rv'.get hy;have g1:us.toArray[j]=w1:=by simp at h1 ⊢;rw[kh (by simpa using h1)]at hw1;exact ax hw1
      have g2:us'.toArray[j]=w2:=by simp at h2 ⊢;rw[kh (by simpa using h2)]at hw2;exact ax hw2
      rw[g1,g2,xf,xf,kh k1,kh k2];exact(Y5 I n A.in1 (Xn (D.depL_le (kh k1)) hd) hu1 (cG (D.depL_le (kh k2)) (by simp only[D.dep]at nd;omega)) ex rw1 ey rw2).2
     simp only[j50];by_cases hl:ds.length=ds'.length
     .have z:=SeqAt.RcAt.lists (A:=A) (s:=s) q q' (by simp[e1,e2,hl]) hu0 (e:=λj=>deq (ds.getD j .non) (ds'.getD j .non)) item;have ev:(ao us.toArray.size).all (λj=>deq (ds.getD j .non) (ds'.getD j .non))=z9 ds ds':=by rw[Xd,e1];exact Vv hl λj x y hx hy=>by rw[xf,xf,hx,hy];rfl
      rw[ev]at z;exact z
     .rw[W5 hl];exact .lists_lengths q q' (by simp[e1,e2,hl]) hu0
    refine⟨main,?_⟩;by_cases ea:a=a'
    .subst ea;have e9:(9900:Nat)=aU:=rfl;rw[Enc.inj I nofun nd en en',Lz _ nd];exact .same _
    .exact .of_refs ea main
end
section
variable{X:Cx}{pins:k9m}{σ:St}{H:Hp}{s:aq}{A:aF}
def jd8(I:Inv X pins σ H s){ds':List D}{ys:List V}{us':List ah}(l:j4 X.K H ds xs)(rv:Vals xs us)(l':j4 X.K H ds' ys)(rv':Vals ys us')(hd:D.depL ds<=n)(hu:A.units+1+n<aU)(nd:D.depL ds'<10000) :
  ∀(j:Nat)(h1:j<us.toArray.size)(h2:j<us'.toArray.size),cV A.in1 s us.toArray[j] us'.toArray[j] (deq (ds.getD j .non) (ds'.getD j .non)):=λj h1 h2=>by
 have k1:j<ds.length:=by rw[<-l.length,rv.length];simpa using h1
 have k2:j<ds'.length:=by rw[<-l'.length,rv'.length];simpa using h2
 obtain⟨x,hx,ex⟩:=l.get (kh k1);obtain⟨y,hy,ey⟩:=l'.get (kh k2);obtain⟨w1,hw1,rw1⟩:=rv.get hx;obtain⟨w2,hw2,rw2⟩:=rv'.get hy;have g1:us.toArray[j]=w1:=by simp at h1 ⊢;rw[kh (by simpa using h1)]at hw1;exact ax hw1
 have g2:us'.toArray[j]=w2:=by simp at h2 ⊢;rw[kh (by simpa using h2)]at hw2;exact ax hw2
 rw[g1,g2,xf,xf,kh k1,kh k2];exact(Y5 I n A.in1 (Xn (D.depL_le (kh k1)) hd) hu (cG (D.depL_le (kh k2)) nd) ex rw1 ey rw2).2
def j9x(hu:X.A.units+100<aU):OpR X (aZ .Eq) (λx y H Q=>∃d d',Enc X.K H d x/\Enc X.K H d' y/\d.dep<=100/\d'.dep<10000/\Q (.bl (deq d d')) H):=by rintro pins s σ H x y v u Q I rx ry ⟨d,d',en,en',hd,nd,q⟩;exact(Y5 I 100 X.A hd hu nd en rx en' ry).1 X.prog X.w X.xe _ ⟨.bl (deq d d'),H,I,rfl,q⟩
def j9v(hu:X.A.units+100<aU):OpR X (aZ .NotEq) (λx y H Q=>∃ds ds' k,Enc X.K H (D.seq k ds) x/\Enc X.K H (D.seq k ds') y/\D.depL ds<=98/\D.depL ds'<10000/\Q (.bl (!z9 ds ds')) H):=by
 rintro pins s σ H x y v u Q I rx ry ⟨ds,ds',k,en,en',hd,nd,q⟩;have h0:X.A.units<aU:=by omega
 obtain⟨t,xs,e,sq,l⟩:=Zr en;obtain⟨t',ys,e',sq',l'⟩:=Zr en';subst e e';cases rx;cases ry;obtain⟨us,rv,qs,_⟩:=I.side sq;obtain⟨us',rv',qs',_⟩:=I.side sq';have e1:us.length=ds.length:=by rw[<-rv.length,l.length]
 have e2:us'.length=ds'.length:=by rw[<-rv'.length,l'.length]
 have item:=jd8 (A:=X.A) I l rv l' rv' hd nofun nd;unfold jo at qs qs';cases k with
 |true =>
  rw[if_pos rfl]at qs qs';by_cases hl:ds.length=ds'.length
  .have z:=SeqAt.RcNeAt.lists (A:=X.A) (s:=s) qs qs' (by simp[e1,e2,hl]) h0 (e:=λj=>deq (ds.getD j .non) (ds'.getD j .non)) item;have ev:(ao us.toArray.size).all (λj=>deq (ds.getD j .non) (ds'.getD j .non))=z9 ds ds':=by rw[Xd,e1];exact Vv hl λj x y hx hy=>by rw[xf,xf,hx,hy];rfl
   rw[ev]at z;exact z X.prog X.w X.xe _ ⟨.bl (!z9 ds ds'),H,I,rfl,q⟩
  .have z:=SeqAt.RcNeAt.lists_lengths (A:=X.A) (s:=s) qs qs' (by simp[e1,e2,hl]) h0;rw[W5 hl]at q;exact z X.prog X.w X.xe _ ⟨.bl ae,H,I,rfl,q⟩
 |false =>
  rw[if_neg xq]at qs qs';have z:=SeqAt.RcNeAt.tuples (A:=X.A) (s:=s) qs qs' h0 (e:=λj=>deq (ds.getD j .non) (ds'.getD j .non)) item;have ev:((ao (min us.toArray.size us'.toArray.size)).all (λj=>deq (ds.getD j .non) (ds'.getD j .non))&&us.toArray.size==us'.toArray.size)=z9 ds ds':=by
   simp only[Xd,e1,e2];by_cases hl:ds.length=ds'.length
   .rw[hl,my,beq_self_eq_true,iB,<-hl];exact Vv hl λj x y hx hy=>by rw[xf,xf,hx,hy];rfl
   .rw[W5 hl,beq_false_of_ne hl,i7]
  rw[ev]at z;exact z X.prog X.w X.xe _ ⟨.bl (!z9 ds ds'),H,I,rfl,q⟩
noncomputable def eqW(X:Cx)(H:Hp)(d:D)(y:ah):Bool:=@decide (∃e v,e.dep<10000/\Enc X.K H e v/\RelV v y/\deq e d=ae) (dJ _)
def Bq(I:Inv X pins σ H s){d e:D}{y:ah}(he:e.dep<10000)(en:Enc X.K H e v)(r:RelV v y):eqW X H d y=deq e d:=by
 unfold eqW;cases h:deq e d with
 |true=>exact @decide_eq_true _ (dJ _) ⟨e,v,he,en,r,h⟩
 |false =>refine @decide_eq_false _ (dJ _) λ⟨e',v',he',en',r',h'⟩=>?_;rw[r'.inj r]at en';rw[Enc.inj I he' he en' en,h]at h';cases h'
theorem j1g(I:Inv X pins σ H s){d:D}:∀{ds:List D}{xs:List V}{us:List ah},D.depL ds<10000->j4 X.K H ds xs->Vals xs us->us.any (eqW X H d)=ds.any λe=>deq e d
 |[],_,_,_,h,r=>by cases h;cases r;rfl
 |e::ds,_,_,hd,⟨x,r,eq,h,l⟩,rv=>by
  subst eq;rw[D.depL]at hd;cases rv with
  |cons a b=>rw[d6,d6,j1g I nofun l b,Bq I nofun h a]
theorem O2(I:Inv X pins σ H s){d:D}:∀{ds:List D}{xs:List V}{us:List ah},D.depL ds<10000->j4 X.K H ds xs->Vals xs us->us.countP (eqW X H d)=ds.countP λe=>deq e d
 |[],_,_,_,h,r=>by cases h;cases r;rfl
 |e::ds,_,_,hd,⟨x,r,eq,h,l⟩,rv=>by
  subst eq;rw[D.depL]at hd;cases rv with
  |cons a b=>rw[S8,S8,O2 I nofun l b,Bq I nofun h a]
theorem Y8(I:Inv X pins σ H s){d:D}{v:V}{u:ah}(en:Enc X.K H d v)(r:RelV v u)(nd:d.dep<10000){n:Nat}(hu:A.units+n<aU):∀{ds:List D}{xs:List V}{us:List ah},D.depL ds<=n->j4 X.K H ds xs->Vals xs us->∀y∈us,cV A s y u (eqW X H d y)
 |[],_,_,_,h,rv,y,hy=>by cases h;cases rv;cases hy
 |e::ds,_,_,hd,⟨x,r',eq,h,l⟩,rv,y,hy=>by
  subst eq;have hd':e.dep<=n/\D.depL ds<=n:=by simp[D.depL]at hd;omega
  cases rv with
  |cons a b =>
   rcases Xb.mp hy with rfl|hy
   .have e9:(9900:Nat)=aU:=rfl;rw[Bq I nofun h a];exact(Y5 I n A hd'.1 hu nd h a en r).2
   .exact Y8 I en r nd hu hd'.2 l b y hy
def j9w(hu:X.A.units+100<aU):OpR X (aZ .In) (λx y H Q=>∃d ds k,Enc X.K H d x/\Enc X.K H (D.seq k ds) y/\D.depL ds<=98/\d.dep<10000/\Q (.bl (ds.any λe=>deq e d)) H):=by
 rintro pins s σ H x y v u Q I rx ry ⟨d,ds,k,en,en',hd,nd,q⟩;obtain⟨t,xs,e,sq,l⟩:=Zr en';subst e;cases ry;obtain⟨us,rv,qs,_⟩:=I.side sq;have me:=λy (hy:y∈us.toArray)=>Y8 (A:=X.A.in1) I en rx nd (n:=98) (by show X.A.units+1+98<aU;omega) hd l rv y (by simpa using hy);have ev:us.toArray.any (eqW X H d)=ds.any λe=>deq e d:=by rw[kE];exact j1g I nofun l rv
 unfold jo at qs;cases k with
 |true=>rw[if_pos rfl]at qs;exact SeqAt.in_listAt (eqW X H d) qs me (by rw[ev];exact⟨.bl _,H,I,rfl,q⟩)
 |false=>rw[if_neg xq]at qs;exact SeqAt.in_tupleAt (eqW X H d) qs me (by rw[ev];exact⟨.bl _,H,I,rfl,q⟩)
def j1u(hu:X.A.units+100<aU):OpR X (aZ .NotIn) (λx y H Q=>∃d ds k,Enc X.K H d x/\Enc X.K H (D.seq k ds) y/\D.depL ds<=98/\d.dep<10000/\Q (.bl (!ds.any λe=>deq e d)) H):=by
 rintro pins s σ H x y v u Q I rx ry ⟨d,ds,k,en,en',hd,nd,q⟩;obtain⟨t,xs,e,sq,l⟩:=Zr en';subst e;cases ry;obtain⟨us,rv,qs,_⟩:=I.side sq;have me:=λy (hy:y∈us.toArray)=>Y8 (A:=X.A.in1) I en rx nd (n:=98) (by show X.A.units+1+98<aU;omega) hd l rv y (by simpa using hy);have ev:us.toArray.any (eqW X H d)=ds.any λe=>deq e d:=by rw[kE];exact j1g I nofun l rv
 unfold jo at qs;cases k with
 |true=>rw[if_pos rfl]at qs;exact SeqAt.notIn_listAt (eqW X H d) qs me (by rw[ev];exact⟨.bl _,H,I,rfl,q⟩)
 |false=>rw[if_neg xq]at qs;exact SeqAt.notIn_tupleAt (eqW X H d) qs me (by rw[ev];exact⟨.bl _,H,I,rfl,q⟩)
def ja6 (hu:X.A.units+100<aU):MtR X "tuple.count" (λx vs H Q=>∃t xs ds d y,x=.ref t/\vs=[y]/\SqT X.K H t xs/\j4 X.K H ds xs/\Enc X.K H d y/\D.depL ds<=97/\d.dep<10000/\Q (.int (ds.countP λe=>deq e d)) H):=by
 rintro pins s σ H x vs v us Q I rx rv ⟨t,xs,ds,d,y,e,e',sq,l,en,hd,nd,q⟩;subst e e';cases rx;obtain⟨u,eu,ru⟩:=rv.one;subst eu;obtain⟨its,ri,⟨⟨cl,dd,da,sl⟩,h1,h2,n,h3⟩,_⟩:=I.tuple sq;have h2:cl=.type "tuple":=h2;have h3:da=.seq its.toArray n:=h3;subst h2 h3;refine bD iQ ⟨_,h1,rfl⟩ F.entry_tuple_count (F.args_tuple_count_2 _ _) (SeqAt.tuple_countAt t its.toArray n dd sl u (eqW X H d)) ⟨h1,λy hy=>Y8 (n:=97) I en ru nd (by show X.A.units+1+97<aU;omega) hd l ri y (by simpa using hy),?_⟩;have ev:(its.toArray.toList.countP (eqW X H d):Nat)=ds.countP λe=>deq e d:=by rw[fB];exact O2 I nofun l ri
 rw[ev];exact⟨.int _,H,I.tok _,⟨_,rfl⟩,q⟩
def jcr:OpR X (bh .Add) (λx y H Q=>∃a b xs ys,x=.ref a/\y=.ref b/\SqT X.K H a xs/\SqT X.K H b ys/\xs.length+ys.length<=aw /\
  (xs=[]->Q (.ref b) H)/\(xs≠[]->ys=[]->Q (.ref a) H)/\(xs≠[]->ys≠[]->∀p,H p=af->Q (.ref p) (upd H p (.tup (xs++ys))))):=by
 rintro pins s σ H x y v u Q I rx ry ⟨a,b,xs,ys,e,e',sa,sb,hz,q1,q2,q3⟩;by_cases hx:xs=[]
 .subst e e' hx;cases rx;cases ry;obtain⟨us,ru,⟨⟨c1,d1,f1,g1⟩,h1,k1,n1,m1⟩,_⟩:=I.tuple sa;obtain⟨vs,rv,⟨⟨c2,d2,f2,g2⟩,h2,k2,n2,m2⟩,_⟩:=I.tuple sb;cases ru;have k1:c1=.type "tuple":=k1;have m1:f1=.seq ([]:List ah).toArray n1:=m1;have k2:c2=.type "tuple":=k2;have m2:f2=.seq vs.toArray n2:=m2;subst k1 m1 k2 m2;exact hZ ⟨_,h1,rfl⟩ ⟨_,h2,rfl⟩ ie jI dX dN (dF _ _)
   (tuple_addW0 a b ([]:List ah).toArray vs.toArray n1 n2 d1 d2 g1 g2 (by simp)) ⟨h1,h2,⟨.ref b,H,I,rfl,q1 rfl⟩⟩
 .exact jha pins s σ H x y v u Q I rx ry ⟨a,b,xs,ys,e,e',sa,sb,hx,hz,q2 hx,q3 hx⟩
theorem all_range:∀bs:List Bool,(ao bs.length).all (λi=>(bs[i]?).getD ae)=bs.all id
 |[]=>rfl
 |b::bs=>by rw[xx,Sd,cB,iN,cB,<-all_range bs];rfl
def j62 (hc:X.calm=ae):Z0 X (.builtin "all") (λxs H Q=>∃(l:ai)(bs:List Bool),xs=[.ref l]/\SqL X.K H l (bs.map V.bl)/\Q (.bl (bs.all id)) H):=by
 rintro pins s σ H xs us Q I r ⟨l,bs,e,sq,q⟩;subst e;obtain⟨u,eu,ru⟩:=vals1 r;subst eu;cases ru;obtain⟨its,rv,pl,_⟩:=I.list sq;have hlt:l<s.heap.objs.size:=by obtain⟨_,_,e,_⟩:=pl;exact X4 e
 have hl:its.length=bs.length:=by rw[<-rv.length,xg]
 refine call_all_walk (bJ pl.isList ⟨s.heap.objs.size,[s.heap.objs.size,l],[s.heap.objs.size],its.toArray.size,_,_,λi=>(bs[i]?).getD ae,rfl,Walks.list (A:=X.A.in1) (I.ok.hd hc) _ _ (Xj hlt) its.toArray,⟨⟨_,X3 _ rfl,rfl,rfl⟩,pl.isList.push _⟩,?_,λh' tk kp=>?_⟩)
 .intro i v s' Q' E' hv hq;have hi:i<its.length:=by have:=Array.getElem?_eq_some_iff.mp hv;obtain⟨h,_⟩:=this;simpa using h
  have hb:i<bs.length:=by omega
  obtain⟨w1,hw,rw1⟩:=rv.get (x:=.bl bs[i]) (i:=i) (by rw[xm,kh hb];rfl);have:its.toArray[i]?=a8 w1:=by simpa using hw
  rw[this]at hv;cases hv;cases rw1;simp only[kh hb,dW]at hq;exact bI hq
 .have ev:(ao its.toArray.size).all (λi=>(bs[i]?).getD ae)=bs.all id:=by rw[Xd,hl];exact all_range bs
  rw[ev];refine⟨.bl _,H,I.kept (t':=tk) λb o e=>kp b o ?_ (xj _ e),rfl,q⟩;intro z;rw[xu.mp z]at e;exact Py _ (X4 e)
end
section
variable{X:Cx}{ρ:Rho}{a b e:av}{d d':D}{ds ds':List D}{i j:Int}{pos p p1 p2:aP}{k:Nat}{x:au}{P:Po}
def DE.eqD(hu:X.A.units+100<aU)(ha:DT X ρ a d)(hb:DT X ρ b d')(hd:d.dep<=100)(nd:d'.dep<10000):DE X ρ (.Compare a [.Eq] [b] pos) (.bl (deq d d')):=λσ H Q R q =>(Q6 (j9x hu) peS peS (zc _)).to (ha σ H _ R λv H1 g1 e1=>hb σ H1 _ (R.grow g1) λu H2 g2 e2=>⟨d,d',e1.mono g2,e2,hd,nd,q _ H2 (g1.trans g2) rfl⟩)
def DB.eqD(hu:X.A.units+100<aU)(ha:DT X ρ a d)(hb:DT X ρ b d')(hd:d.dep<=100)(nd:d'.dep<10000):DB X ρ (.Compare a [.Eq] [b] pos) (deq d d'):=λσ H Q R q =>(Z3 (j9x hu) peS peS (zc _)).to (ha σ H _ R λv H1 g1 e1=>hb σ H1 _ (R.grow g1) λu H2 g2 e2=>⟨d,d',e1.mono g2,e2,hd,nd,_,rfl,q H2 (g1.trans g2)⟩)
def DB.neD(s:Bool)(hu:X.A.units+100<aU)(ha:DT X ρ a (D.seq s ds))(hb:DT X ρ b (D.seq s ds'))(hd:D.depL ds<=98)(nd:D.depL ds'<10000):DB X ρ (.Compare a [.NotEq] [b] pos) (!z9 ds ds'):=λσ H Q R q =>(Z3 (j9v hu) peS peS (zc _)).to (ha σ H _ R λv H1 g1 e1=>hb σ H1 _ (R.grow g1) λu H2 g2 e2=>⟨ds,ds',s,e1.mono g2,e2,hd,nd,_,rfl,q H2 (g1.trans g2)⟩)
def DB.notIn(s:Bool)(hu:X.A.units+100<aU)(ha:DT X ρ a d)(hb:DT X ρ b (D.seq s ds))(hd:D.depL ds<=98)(nd:d.dep<10000)(hm:aO .NotIn b=a9:=by with_unfolding_all rfl):DB X ρ (.Compare a [.NotIn] [b] pos) (!ds.any λe=>deq e d):=λσ H Q R q =>(Z3 (j1u hu) peS peS hm).to (ha σ H _ R λv H1 g1 e1=>hb σ H1 _ (R.grow g1) λu H2 g2 e2=>⟨d,ds,s,e1.mono g2,e2,hd,nd,_,rfl,q H2 (g1.trans g2)⟩)
def DB.in(s:Bool)(hu:X.A.units+100<aU)(ha:DT X ρ a d)(hb:DT X ρ b (D.seq s ds))(hd:D.depL ds<=98)(nd:d.dep<10000)(hm:aO .In b=a9:=by with_unfolding_all rfl):DB X ρ (.Compare a [.In] [b] pos) (ds.any λe=>deq e d):=λσ H Q R q =>(Z3 (j9w hu) peS peS hm).to (ha σ H _ R λv H1 g1 e1=>hb σ H1 _ (R.grow g1) λu H2 g2 e2=>⟨d,ds,s,e1.mono g2,e2,hd,nd,_,rfl,q H2 (g1.trans g2)⟩)
def DE.countT (hu:X.A.units+100<aU) (ha:DT X ρ a (.tup ds)) (hb:DT X ρ b d) (hd:D.depL ds<=97) (nd:d.dep<10000) (hbase:aL a "count" X.env (aC a X.env)=aC a X.env:=by rfl)
  (hfew:((aR p2 (aj [b] X.env)).all (λx=>!x.1)&&(br p2 (aV [] X.env)).all (λx=>x.1.isSome)
   && decide (([b]:List av).length+([]:List aS).length+(if ([]:List aS).isEmpty then 0 else 1)<30))=ae:=by rfl) (hline:(p1.endLine==p2.line)=ae:=by rfl)
  (hs:aj [b] X.env=(a9,aC b X.env)::aj [] X.env:=by rfl):DE X ρ (.Call (.Attribute a "count" p1) [b] [] p2) (.int (ds.countP λe=>deq e d)):=λσ H Q R q =>
 (Ud gY iQ PySem.F.type_tuple_count (ja6 hu) peS (ji peS qb hs) hbase hfew hline hs rfl).to (ha σ H _ R λv H1 g1 ⟨t,xs,e,sq,l⟩=>⟨by rw[e];exact .inr (.inl ⟨rfl,xs,sq⟩),hb σ H1 _ (R.grow g1) λu H2 g2 e2 =>
  ⟨t,xs,ds,d,u,e,rfl,g2.seqT sq,l.mono g2,e2,hd,nd,q _ H2 (g1.trans g2) rfl⟩⟩)
theorem DE.min (ha:DT X ρ a (.int i)) (hb:DT X ρ b (.int j)) (hm:X.mg "min" = af) (hc:X.calm=ae:=by rfl) (hg:Gl X "min":=by rfl) (hs:aj [a,b] X.env=(a9,aC a X.env)::aj [b] X.env:=by rfl) (hs2:aj [b] X.env=(a9,aC b X.env)::aj [] X.env:=by rfl)
  (hpl:(aR pos (aj [b] X.env)).any (·.1)=a9:=by rfl):DE X ρ (.Call (.Name "min" p) [a,b] [] pos) (.int (if j<i then j else i)):=λσ H Q R q =>
 (Jx (jb7 hc) hg hm kM (ji peS (ji peS qb hs2) hs) (by decide) (by decide) hs hpl).to (ha σ H _ R λv H1 g1 e1=>hb σ H1 _ (R.grow g1) λu H2 g2 e2=>⟨i,j,by rw[show v=.int i from e1,show u=.int j from e2],q _ H2 (g1.trans g2) rfl⟩)
theorem Ly{K:k9k}{H:Hp}:∀{bs:List Bool}{xs:List V},j4 K H (bs.map D.bl) xs->xs=bs.map V.bl
 |[],_,h=>h
 |b::bs,_,⟨x,r,e,h,l⟩=>by subst e;cases(show x=.bl b from h);rw[Ly l];rfl
theorem DE.all {bs:List Bool} (ha:DT X ρ a (.lst (bs.map D.bl))) (hm:X.mg "all" = af) (hc:X.calm=ae:=by rfl) (hg:Gl X "all":=by rfl) (hs:aj [a] X.env=[(a9,aC a X.env)]:=by rfl):DE X ρ (.Call (.Name "all" p) [a] [] pos) (.bl (bs.all id)):=λσ H Q R q =>(Jx (j62 hc) hg hm boot_all (ji peS qb hs) (by decide) (by decide) hs).to (ha σ H _ R λv H1 g1 ⟨l,xs,e,sq,en⟩=>⟨l,bs,by rw[e],by rw[Ly en]at sq;exact sq,q _ H1 g1 rfl⟩)
def jjd(X:Cx)(e:Option av):TO:=λσ H Q=>∀pins s,Inv X pins σ H s->ay (aB X.prog X.w) X.A (evalPart e X.env) (λu s'=>∃o H',Inv X pins σ H' s'/\fW u o/\Q o H') X.xe s
def poS{e:Option av}:PO X e (jjd X e):=λpins s σ H Q I h=>h pins s I
def DP(X:Cx)(ρ:Rho)(e:Option av)(o:Option Int):Prop:=∀σ H Q,Rep X.K ρ σ H->(∀H',j0 H H'->Q o H')->jjd X e σ H Q
def DP.none:DP X ρ af af:=λσ H Q R q pins s I=>jh4 pins s σ H Q I (q H (j0.refl H))
def DP.some(h:DT X ρ e (.int i)):DP X ρ (a8 e) (a8 i):=λσ H Q R q pins s I=>jh3 peS pins s σ H Q I (h σ H _ R λv H1 g1 e1=>⟨i,e1,q H1 g1⟩)
variable{lo hi:Option av}{l u:Option Int}
theorem DS.setItem(m:Nat){t:ai}{n:Nat}(hk:ρ[m]?=a8 (.own t ds))(he:DE X ρ e d)(hi:DT X ρ a (.int i))(hx:ixN ds.length i=a8 n)(h:P.nx (ρ.set m (.own t (ds.set n d))))
  (hN:X.N[m]?=a8 x:=by rfl) (hv:Vis X.env.scope x:=by first|exact bf rfl|exact bH (bf rfl)|exact bH (bH rfl)) (hd:(x==k9o)=a9:=by decide) (hcd:(x==k9p)=a9:=by decide)
  (ha:∀v,dk (.Subscript (.Name x p) a p1) X.env v=(do
   let ov <-cN [v] (aC (.Name x p) X.env)
   let iv <-cN [v,ov] (aC a X.env)
   hU p1
   cN [v,ov,iv] (setItem ov iv v)
   release [v,ov,iv] []):=by intro _;rfl)
  (hs:eL [.Subscript (.Name x p) a p1] e pos.line X.env=pure a9:=by rfl) (hw:eM [.Subscript (.Name x p) a p1] e X.env=pure af:=by rfl)
  (h1:(bE [.Subscript (.Name x p) a p1] X.env).map (·.2)=[dk (.Subscript (.Name x p) a p1) X.env]:=by rfl):DS X ρ (.Assign [.Subscript (.Name x p) a p1] e pos) P:=λσ H E R q=>by
 refine(j9e peS (jk1 (vz hN hv hd hcd) peS set_list ha) hs hw h1).to (he σ H _ R λv H1 g1 e1=>?_);obtain⟨hσ,xs,mm,en⟩:=(R.grow g1).own m t ds hk;refine⟨_,hσ,hi σ H1 _ (R.grow g1) λu H2 g2 e2=>⟨t,xs,i,n,rfl,e2,g2 _ _ mm,by rw[en.length];exact hx,?_⟩⟩;exact q.nx _ σ _ h ((R.grow (g1.trans g2)).upd_own hk ((en.mono (jg g2)).set (e1.mono (jg g2)))) (Bh (σ:=σ) hk (g1.trans g2))
end
def Fz(o:Option HO):Prop:=(∃xs,o=a8 (.lst xs))\/∃oc v,o=a8 (.frz oc (.own 0))/\oc.data=.cell v
def jai{P:az}{w:aD}{mg:k9n}{base:aE}{A0:aF}{outer:List dR}(e0:Env0 P w K mg base A0 outer s H)(hA:∀a∈A,Fz (H a)) :
  Env0 P w K mg base A0 outer s (del H A)/\∀(Q:VK)(E E':XK)(r:fh)(s':aq),CR CX0 outer P w (del H A) s (λv F=>(∀a∈A,F a=af)->Q v (mrg A H F)) E r s'->CR CX0 outer P w H s Q E' r s':=by
 have nd:∀{b:ai},H b=af->del H A b=af:=λ{b} q=>by
  by_cases z:b∈A
  .exact qy z
  .rw[j5 z];exact q
 have out:∀{b:ai}{o:HO},H b=a8 o->(∀ys,o≠.lst ys)->(∀oc v,o=.frz oc (.own 0)->oc.data≠.cell v)->b∉A:=λ{b o} q z z2 y=>by
  rcases hA b y with ⟨ys,e'⟩|⟨oc,v,e',d⟩
  .rw[q]at e';cases e';exact z ys rfl
  .rw[q]at e';cases e';exact z2 _ _ rfl d
 have e1:Env0 P w K mg base A0 outer s (del H A):=⟨e0.frames,e0.mod,λb o q=>⟨(e0.bs b o q).1,nd (e0.bs b o q).2⟩,e0.bsz,e0.funs,λb hb=>nd (e0.frf b hb),
  λa o q=>by
   obtain⟨_,q⟩:=of_del q
   exact jm.stay (e0.hok a o q) (λb u _ z=>z) (λb z=>by rw[j5 (out z (λ_ y=>by cases y) λ_ _ y=>by cases y)];exact z) (λb xs z=>by rw[j5 (out z (λ_ y=>by cases y) λ_ _ y=>by cases y)];exact z)
    (λb o ⟨vs,d⟩ z=>by rw[j5 (out z (λ_ y=>by cases y) λ_ _ y d'=>by cases y;rw[d]at d';cases d')];exact z),e0.bare⟩
 refine⟨e1,λQ E E' r s' hq=>?_⟩;cases r with
 |error e=>exact(show False from hq).elim
 |ok fl =>
  cases fl with
  |next=>exact(show False from hq).elim
  |brk=>exact(show False from hq).elim
  |cont=>exact(show False from hq).elim
  |ret u =>
   obtain⟨v,H',os,bare,un,hok',rel,q⟩:=(show CE outer P w (del H A) s _ u s' from hq)
   have kept:∀a∈A,∃o,s.heap.get? a=a8 o/\s'.heap.get? a=a8 o/\H' a=af:=λa ha=>by
    have nf:a∉frs outer:=λy=>by have z:=e0.frf a y;rcases hA a ha with ⟨xs,e⟩|⟨oc,v,e,_⟩<;>(rw[z]at e;cases e)
    have ob:∃o,s.heap.get? a=a8 o:=by
     rcases hA a ha with ⟨xs,e⟩|⟨oc,v,e,_⟩
     .obtain⟨_,its,n,_,z⟩:=(show jm P w H s.heap a (.lst xs)from e0.hok _ _ e);exact⟨_,z⟩
     .exact⟨_,(show jm P w H s.heap a (.frz oc (.own 0))from e0.hok _ _ e).1⟩
    obtain⟨o,z⟩:=ob;exact⟨_,z,un.keep a _ z (qy ha) nf (by simp),un.free a _ z (qy ha) (by simp)⟩
   have hF:∀a∈A,H' a=af:=λa ha=>let ⟨_,_,_,z⟩:=kept a ha;z;have outF:∀{b:ai}{o:HO},H' b=a8 o->b∉A:=λ{b o} e z=>by rw[hF b z]at e;cases e
   refine⟨v,mrg A H H',os,bare,?_,λa o e=>?_,rel,q hF⟩
   .exact{
     keep:=λb o e n=>un.keep b o e (nd n)
     slot:=λb o e n=>un.slot b o e (nd n)
     free:=λb o e n hx=>by
      by_cases z:b∈A
      .rw[Jj z];exact n
      .rw[jr z];exact un.free b o e (nd n) hx
     there:=un.there
     tups:=λb xs e=>by
      have z:=un.tups b xs (by rw[j5 (out e (λ_ y=>by cases y) λ_ _ y=>by cases y)];exact e)
      rw[jr (outF z)];exact z
     frzs:=λb o u e=>by
      by_cases y:b∈A
      .rw[Jj y];exact e
      .have z:=un.frzs b o u (by rw[j5 y];exact e)
       rw[jr y];exact z
     tbls:=λb ps e=>by
      obtain⟨more,z⟩:=un.tbls b ps (by rw[j5 (out e (λ_ y=>by cases y) λ_ _ y=>by cases y)];exact e)
      exact⟨more,by rw[jr (outF z)];exact z⟩ }
   .by_cases z:a∈A
    .rw[Jj z]at e;obtain⟨o',q1,q2,_⟩:=kept a z;rcases hA a z with ⟨xs,e'⟩|⟨oc,v,e',_⟩
     .rw[e']at e;cases e;obtain⟨hl,its,n,r,y⟩:=(show jm P w H s.heap a (.lst xs)from e0.hok _ _ e')
      rw[y]at q1;cases q1;exact⟨hl,its,n,r,q2⟩
     .rw[e']at e;cases e;have y:=(show jm P w H s.heap a (.frz oc (.own 0))from e0.hok _ _ e').1;rw[y]at q1;cases q1;exact⟨q2,_,q2⟩
    .rw[jr z]at e;refine jm.stay (hok' a o e) (λb u _ q=>q) (λb q=>?_) (λb xs q=>?_) (λb _ _ q=>?_)
     .rw[jr (outF q)];exact q
     .rw[jr (outF q)];exact q
     .rw[jr (outF q)];exact q
structure LamScope(N ps:List au)(sc:be):Prop where
 kind:sc.kind=.function
 co:sc.isCoroutine=a9
 gen:sc.isGenerator=a9
 nd:N.Nodup
 nm:N=v6 sc++ps
 lfr:∀x∈v6 sc,sc.names.lookup x=a8 .free
 lps:∀x∈ps,sc.names.lookup x=a8 .local
 nocell:∀y∈sc.names,y.2≠.cell
 cov:∀x,sc.names.lookup x=a8 .free->x∈v6 sc
noncomputable def Wm(P:az)(w:aD)(K:k9k)(mg:k9n)(base:aE)(N:List au)(qual:au)(scope:be)(a:ai)(cd:ah)(cl:List (au×ai))(A:aF)(outer:List dR)(s:aq)(H:Hp):Cx where
 prog:=P
 w:=w
 K:=K
 mg:=mg
 base:=base
 A:=A.deeper (W.envX qual scope s.heap.objs.size a cd cl)
 N:=N
 s₀:=s
 H₀:=H
 env:=W.envX qual scope s.heap.objs.size a cd cl
 outer:=outer
 stack:=W.envX qual scope s.heap.objs.size a cd cl::outer
 ex:=[]
 calm:=ae
 fn:=λ_=>a9
 pn:=[]
 xe:=λ_ _=>False
def Qg(h:aE):List ai->List V->Prop
 |[],vs=>vs=[]
 |c::cs,vs=>∃v r u,vs=v::r/\h.IsCell c (a8 u)/\RelV v u/\Qg h cs r
theorem Qg.get{h:aE}:∀{cs:List ai}{vs:List V}{i:Nat}{v:V},Qg h cs vs->vs[i]?=a8 v->∃c u,cs[i]?=a8 c/\h.IsCell c (a8 u)/\RelV v u
 |[],_,i,v,e,q=>by cases e;simp at q
 |c::cs,_,0,v,⟨x,r,u,e,h1,h2,_⟩,q=>by subst e;simp at q;subst q;exact⟨c,u,rfl,h1,h2⟩
 |c::cs,_,i+1,v,⟨x,r,u,e,_,_,l⟩,q=>by subst e;obtain⟨c',u',z1,z2⟩:=Qg.get l (i:=i) (by simpa using q);exact⟨c',u',by simpa using z1,z2⟩
theorem Qg.length{h:aE}:∀{cs:List ai}{vs:List V},Qg h cs vs->vs.length=cs.length
 |[],_,e=>by cases e;rfl
 |c::cs,_,⟨x,r,u,e,_,_,l⟩=>by subst e;simp[l.length]
theorem Qg.all{h:aE}:∀{cs:List ai}{vs:List V},Qg h cs vs->∀c∈cs,∃v,h.IsCell c v
 |c::cs,_,⟨x,r,u,e,h1,_,l⟩,b,hb=>(Xb.mp hb).elim (λz=>z▸⟨_,h1⟩) (l.all b)
theorem lookup_at{α:Type}:∀{l:List (au×α)} {i:Nat} {p:au×α},(l.map (·.1)).Nodup->l[i]?=a8 p->l.lookup p.1=a8 p.2
 |[],i,p,_,h=>by simp at h
 |q::l,0,p,_,h=>by simp at h;subst h;rw[Xw,beq_self_eq_true]
 |q::l,i+1,p,nd,h=>by rw[X7]at nd;rw[S6]at h;have ne:(p.1==q.1)=a9:=beq_eq_false_iff_ne.mpr λz=>(Xv.mp nd).1 (z▸fC (Xp h));rw[Xw,ne];exact lookup_at (Xv.mp nd).2 h
def j7y{ps:List au}{p:au}{u:ah}(nd:ps.Nodup)(hl:us.length=ps.length)(h1:ps[i]?=a8 p)(h2:us[i]?=a8 u):(ps.zip us).reverse.lookup p=a8 u:=by
 have hm:(p,u)∈(ps.zip us).reverse:=List.mem_reverse.mpr (Xp (i:=i) (by rw[List.getElem?_zip_eq_some];exact⟨h1,h2⟩));have e:((ps.zip us).reverse.map (·.1))=ps.reverse:=by rw[List.map_reverse,List.map_fst_zip nofun]
 obtain⟨j,hj⟩:=List.mem_iff_getElem?.mp hm;exact lookup_at (by rw[e];exact(List.reverse_perm ps).nodup_iff.mpr nd) hj
section
variable{P:az}{w:aD}{K:k9k}{mg:k9n}{base:aE}{A:aF}{outer:List dR}{s:aq}{H:Hp}{x:au}{a c:ai}{tx:Tx}{cl:List (au×ai)}{pm ctv:ah}{cvs vs:List V}{us:List ah}{N ps:List au}{k:Nat}{Q:VK}{E:XK}
def jht{h1:aE}{tk:Nat}(hh:A.handled=af)(e0:Env0 P w K mg base A outer s H)(S:LamScope N ps tx.2.2)(hn:cl.map (·.1)=v6 tx.2.2)(nd:(cl.map (·.2)).Nodup)(hc:Qg s.heap (cl.map (·.2)) cvs)(hf:∀q∈cl.map (·.2),H q=af)(rv:Vals vs us)(hl:vs.length=ps.length)
  (ns:h1.Ns s.heap.objs.size λy=>(ps.zip us).reverse.lookup y) (kp:∀b o,s.heap.get? b=a8 o->h1.get? b=a8 o) :
  Inv (Wm P w K mg base N (qg x) tx.2.2 a (.ref c) cl A outer s H) [] (start N (cvs++vs)) H { s with heap:=h1,toks:=tk }:=by
 have ndN:(v6 tx.2.2).Nodup:=by have:=S.nd;rw[S.nm]at this;exact(List.nodup_append.mp this).1
 have ndP:ps.Nodup:=by have:=S.nd;rw[S.nm]at this;exact(List.nodup_append.mp this).2.1
 have ndC:(cl.map (·.1)).Nodup:=by rw[hn];exact ndN
 have lenC:cvs.length=(v6 tx.2.2).length:=by rw[hc.length,<-hn,xg,xg]
 have lenN:N.length=(cvs++vs).length:=by rw[S.nm,Xh,Xh,lenC,hl]
 have noA:∀b:ai,b∉(Wm P w K mg base N (qg x) tx.2.2 a (.ref c) cl A outer s H).ex:=λb z=>absurd (show b∈([]:List ai)from z) (by simp);have mem2:∀{y:au}{q:ai},cl.lookup y=a8 q->q∈cl.map (·.2):=λ{y q} h=>xr.mpr ⟨(y,q),t7 h,rfl⟩;have inj:∀(l:List (au×ai)),(l.map (·.2)).Nodup->∀y z q,(y,q)∈l->(z,q)∈l->y=z:=λl=>by
  induction l with
  |nil=>intro _ y z q h;cases h
  |cons p r ih =>
   intro nd y z q h1 h2;rw[X7]at nd;obtain⟨n1,n2⟩:=Xv.mp nd;rcases Xb.mp h1 with e1|h1<;>rcases Xb.mp h2 with e2|h2
   .rw[<-e1]at e2;cases e2;rfl
   .exact absurd (xr.mpr ⟨(z,q),h2,by rw[<-e1]⟩) n1
   .exact absurd (xr.mpr ⟨(y,q),h1,by rw[<-e2]⟩) n1
   .exact ih n2 y z q h1 h2
 refine⟨⟨e0.mod,S.kind,rfl,rfl,X8 _,λy z q h1 h2=>inj cl nd y z q (t7 h1) (t7 h2),λy hy=>?_,λy q h=>(by cases h),λ_=>hh,Around.frames_deeper e0.frames,.inr ⟨rfl,rfl⟩,λb z=>absurd z (noA b),e0.bs,e0.bsz,λb _ _=>noA b,λb z=>absurd z (noA b),e0.funs,e0.frf⟩,
  rfl,e0.bare,Un.kept kp,⟨_,ns,λi y v h1 h2 h3=>?_⟩,λy q h=>?_,e0.hok.fresh (X8 _),λy q h=>hf q (mem2 h),λp hp=>absurd (show p∈([]:k9m)from hp) (by simp),e0.hok.kept kp,?_⟩
 .have hy:tx.2.2.names.lookup y=a8 .cell\/tx.2.2.names.lookup y=a8 .free:=hy;rcases hy with hy|hy
  .exact absurd rfl (S.nocell _ (t7 hy))
  .have m:=S.cov y hy;rw[<-hn]at m;obtain⟨p,hp,e⟩:=xr.mp m;obtain⟨i,hi⟩:=List.mem_iff_getElem?.mp hp;exact⟨p.2,by have:=lookup_at ndC hi;rw[e]at this;exact this⟩
 .have h1:N[i]?=a8 y:=h1;have hi:i<(cvs++vs).length:=by rw[<-lenN];exact(Xe.mp h1).1
  have ha:(cvs++vs)[i]?=a8 v:=by
   unfold start at h2;rw[Tf (by simpa using hi),xm]at h2;cases e:(cvs++vs)[i]? with
   |none=>rw[e]at h2;cases h2
   |some a=>rw[e]at h2;cases h2;rfl
  rw[S.nm]at h1;by_cases z:i<cvs.length
  .rw[Tf z]at ha;rw[Tf nofun]at h1;obtain⟨q,u,e1,e2,r⟩:=hc.get ha;refine⟨u,r,.inr ⟨.inr (S.lfr y (Xp h1)),q,?_,e2.keeps kp⟩⟩;rw[<-hn,xm]at h1;rw[xm]at e1;obtain⟨p,hp,ep⟩:=Pb.mp h1;rw[hp]at e1;have:=lookup_at ndC hp;rw[ep]at this;show cl.lookup y=a8 q;rw[this];exact e1
  .rw[dB nofun]at ha h1;rw[<-lenC]at h1;obtain⟨u,hu,r⟩:=rv.get ha;exact⟨u,r,.inl ⟨S.lps y (Xp h1),j7y ndP (by rw[<-rv.length,hl]) h1 hu⟩⟩
 .obtain⟨v,z⟩:=hc.all q (mem2 h);exact⟨v,z.keeps kp⟩
 .unfold start;show _=N.length;rw[Xh,xg,Pg];omega
def jd3 (hr:Room (k+1) A) (e0:Env0 P w K mg base A outer s H) (ho:s.heap.get? a=a8 (W.kla_obj "<lambda>" (qg x) tx.1 tx.2.1 tx.2.2 cl pm c ctv)) (hcd:s.heap.CodeRec (.ref c) (qg x))
  (S:LamScope N ps tx.2.2) (hn:cl.map (·.1)=v6 tx.2.2) (nd:(cl.map (·.2)).Nodup) (hc:Qg s.heap (cl.map (·.2)) cvs) (hf:∀q∈cl.map (·.2),H q=af)
  (hb:fU (W.kla_fn "<lambda>" (qg x) tx.1 tx.2.1 tx.2.2 cl pm (.ref c) ctv) ⟨us,[]⟩=pure (ps.zip us)) (rv:Vals vs us) (hl:vs.length=ps.length)
  (body:Room k (Wm P w K mg base N (qg x) tx.2.2 a (.ref c) cl A outer s H).A->Jw (Wm P w K mg base N (qg x) tx.2.2 a (.ref c) cl A outer s H) tx.2.1 (start N (cvs++vs)) H Q) :
  bZ (aB P w) A (.call (.ref a) ⟨us,[]⟩) (CR CX0 outer P w H s Q E) s:=by
 have lim:s.heap.NoLimit:=e0.mod.nolimit.keeps λb o e=>(e0.bs b o e).1;refine W.kla_callFunE (by have:=hr.dp;omega) ho rfl S.co S.gen rfl hcd ?_;rw[hb];refine ar (wpAny_newFunctionEnv S.nocell (λy hy=>S.lps y.1 (eP (a:=y.1) (b:=y.2) hy).1) (λh1 ns sb=>⟨lim.fresh _ sb,?_⟩) S.kind);show bZ _ _ (.expr tx.2.1 (W.envX (qg x) tx.2.2 s.heap.objs.size a (.ref c) cl)) _ _;have kp:∀b o,s.heap.get? b=a8 o->h1.get? b=a8 o:=λb o e=>sb.extBut b o (Xj (X4 e)) (xj _ e);have I:=jht (x:=x) (a:=a) (c:=c) (tk:=s.toks+(ps.zip us).length) hr.hd e0 S hn nd hc hf rv hl ns kp;refine W.kla_codeExpr (bC (body (hr.deeper _) [] _ I) (λu s' ⟨v,H',J,r,q⟩=>?_) λ_ _ z=>z.elim);exact⟨v,H',J.os,J.bare,J.base,J.hok,r,q⟩
end
mutual
noncomputable def noFn:D->Bool
 |.fn _ _=>a9
 |.tup ds=>J2 ds
 |.lst ds=>J2 ds
 |.dct _ ds=>J2 ds
 |_=>ae
noncomputable def J2:List D->Bool
 |[]=>ae
 |d::ds=>noFn d&&J2 ds
end
variable{b:ai}
section
variable{K:k9k}{H:Hp}{A:List ai}
def Cel(H:Hp)(A:List ai):Prop:=∀a∈A,∃oc v,H a=a8 (.frz oc (.own 0))/\oc.data=.cell v
def Cel.out(hA:Cel H A)(q:H b=a8 o)(h:∀oc,o≠.frz oc (.own 0)):del H A b=a8 o:=by rw[j5];exact q;intro y;obtain⟨oc,v,e,_⟩:=hA b y;rw[q]at e;exact h oc (ax e)
def Cel.seqT(hA:Cel H A)(h:SqT K H a xs):SqT K (del H A) a xs:=by
 rcases h with (h|⟨o,h⟩)|h
 .exact .inl (.inl (hA.out h λ_ z=>by cases z))
 .exact .inl (.inr ⟨o,hA.out h λ_ z=>by cases z⟩)
 .exact .inr h
def Cel.seq(hA:Cel H A)(h:SqL K H a xs):SqL K (del H A) a xs:=by
 rcases h with (h|⟨o,h⟩)|h
 .exact .inl (.inl (hA.out h λ_ z=>by cases z))
 .exact .inl (.inr ⟨o,hA.out h λ_ z=>by cases z⟩)
 .exact .inr h
mutual
theorem Enc.noc(hA:Cel H A):∀{d:D}{v:V},noFn d=ae->Enc K H d v->Enc K (del H A) d v
 |.non,_,_,h=>h
 |.bl _,_,_,h=>h
 |.int _,_,_,h=>h
 |.str _,_,_,h=>h
 |.tup _,_,n,⟨a,xs,e,q,l⟩=>⟨a,xs,e,hA.seqT q,j4.noc hA (by simpa [noFn]using n) l⟩
 |.lst _,_,n,⟨a,xs,e,q,l⟩=>⟨a,xs,e,hA.seq q,j4.noc hA (by simpa [noFn]using n) l⟩
 |.dct _ _,_,n,⟨a,xs,ep,vs,e,q,ek,kt,rv,l⟩=>⟨a,xs,ep,vs,e,hA.out q (λ_ z=>by cases z),ek,λx hx=>hA.seqT (kt x hx),rv,j4.noc hA (by simpa [noFn]using n) l⟩
 |.sct _,_,_,⟨a,e,q⟩=>⟨a,e,hA.out q λ_ z=>by cases z⟩
 |.fn _ _,_,n,_=>by cases n
theorem j4.noc(hA:Cel H A):∀{ds:List D}{xs:List V},J2 ds=ae->j4 K H ds xs->j4 K (del H A) ds xs
 |[],_,_,h=>h
 |d::ds,_,n,⟨x,r,e,h,l⟩=>by rw[J2,Xl]at n;exact⟨x,r,e,Enc.noc hA n.1 h,j4.noc hA n.2 l⟩
end
theorem vy.cel:∀{cs:List ai}{vs:List V},vy H cs vs->Cel H cs
 |[],_,_=>λ_ h=>nomatch h
 |c::cs,_,⟨v,r,o,u,e,h,d,rv,l⟩=>λa ha=>(Xb.mp ha).elim (λz=>⟨o,_,z▸h,d⟩) (l.cel a)
theorem vy.inn{P:az}{w:aD}{h:aE}(ok:HOk P w H h):∀{cs:List ai}{vs:List V},vy H cs vs->Qg h cs vs
 |[],_,e=>e
 |c::cs,_,⟨v,r,o,u,e,q,d,rv,l⟩=>⟨v,r,u,e,⟨o,(show jm P w H h c (.frz o (.own 0))from ok _ _ q).1,d⟩,rv,l.inn ok⟩
def vy.of_del{B:List ai}:∀{cs:List ai}{vs:List V},vy (del H B) cs vs->vy H cs vs:=λh=>h.mono jw
def TabOk.fz(h:TabOk K H)(hA:∀a∈A,Fz (H a)):TabOk K (L2.del H A):=λx hx c P z=>by have q:=h x hx c P z;rw[j5];exact q;intro y;rcases hA _ y with ⟨xs,e⟩|⟨oc,v,e,_⟩<;>(rw[q]at e;cases e)
end
def j3d(P:az)(w:aD)(K:k9k)(mg:k9n)(base:aE)(k:Nat)(x:au)(S:List D->D->Prop):Prop :=
 ∀(A:aF)(outer:List dR)(s:aq)(H:Hp)(a:ai)(B:List ai)(cs ds:List D) (d:D) (vs:List V) (us:List ah) (Q:VK) (E:XK),Room k A->Env0 P w K mg base A outer s H->TabOk K H->(∀b∈B,∃xs,H b=a8 (.lst xs)) ->
  Enc K (del H B) (.fn x cs) (.ref a)->j4 K (del H B) ds vs->J2 ds=ae->S (cs++ds) d->Vals vs us->(∀v H',j0 H H'->Enc K (del H' B) d v->Q v H')->bZ (aB P w) A (.call (.ref a) ⟨us,[]⟩) (CR CX0 outer P w H s Q E) s
section
variable{P:az}{w:aD}{K:k9k}{mg:k9n}{base:aE}{k:Nat}{x:au}{S:List D->D->Prop}{tx:Tx}{N ps:List au}
def jkx(ht:Qn K x=a8 tx)(Sc:LamScope N ps tx.2.2)(hl:∀ds d,S ds d->ds.length=N.length)
  (hb:∀(cl:List (au×ai)) (pm:ah) (c:ai) (ctv:ah) (us:List ah),us.length=ps.length->fU (W.kla_fn "<lambda>" (qg x) tx.1 tx.2.1 tx.2.2 cl pm (.ref c) ctv) ⟨us,[]⟩=pure (ps.zip us))
  (hbody:∀(a c:ai)(cl:List (au×ai)) (A:aF) (outer:List dR) (s:aq) (H:Hp),cl.map (·.1)=v6 tx.2.2->Room k (Wm P w K mg base N (qg x) tx.2.2 a (.ref c) cl A outer s H).A->∀ds d,S ds d->DT (Wm P w K mg base N (qg x) tx.2.2 a (.ref c) cl A outer s H) (zb N ds) tx.2.1 d):j3d P w K mg base (k+1) x S:=by
 intro A outer s H a B cs ds d vs us Q E hr e0 tb hB en ea nf hS rv q;obtain⟨a',c,tx',cl,cvs,e,L,l⟩:=en;cases e;have et:tx'=tx:=ax (L.tx.symm.trans ht);subst et;have cs_at:vy H (cl.map (·.2)) cvs:=L.cs.of_del;have hA:∀b∈B++cl.map (·.2),Fz (H b):=λb hb=>(P0.mp hb).elim (λz=>.inl (hB b z)) λz=>.inr (cs_at.cel b z);obtain⟨e1,back⟩:=jai e0 hA;obtain⟨pm,ctv,hfo⟩:=L.fo;obtain⟨oc,hco,vs0,t0,hd0,hv0⟩:=L.co;have ho:=(show jm P w H s.heap a (.frz _ (.own 0))from e0.hok _ _ (of_del hfo).2).1;have hcd:s.heap.CodeRec (.ref c) (qg x):=⟨c,oc,vs0,t0,rfl,(show jm P w H s.heap c (.frz oc (.own 0))from e0.hok _ _ (of_del hco).2).1,hd0,hv0⟩
 have ll:=l.length;have la:=ea.length;have hlen:=hl _ _ hS;have lenC:(cl.map (·.2)).length=(v6 tx'.2.2).length:=by rw[<-L.nm,xg,xg]
 have lcv:=(cs_at.inn e0.hok).length;have hlv:vs.length=ps.length:=by rw[Sc.nm,Xh,Xh]at hlen;omega
 have celB:Cel (del H B) (cl.map (·.2)):=L.cs.cel;have ea1:j4 K (del H (B++cl.map (·.2))) ds vs:=by rw[<-Zt];exact ea.noc celB nf
 have l1:j4 K (del H (B++cl.map (·.2))) cs cvs:=by rw[<-Zt];exact l
 refine bK (jd3 (E:=E) (Q:=λv F=>(∀a∈B++cl.map (·.2),F a=af)->Q v (mrg (B++cl.map (·.2)) H F)) hr e1 ho hcd Sc L.nm L.nd (cs_at.inn e0.hok) (λb hb=>qy (Xo _ hb)) (hb cl pm c ctv us (by rw[<-rv.length];exact hlv)) rv hlv λhrm=>?_) λr s' h=>back Q E E r s' h;refine hbody a c cl A outer s _ L.nm hrm (cs++ds) d hS _ _ _ (Ou (tb.fz hA) (l1.append ea1)) λv F g en' hF=>q v _ (Cy g) (en'.mono λb o z=>?_);have nb:b∉B++cl.map (·.2):=λy=>by rw[hF b y]at z;cases z
 rw[j5 (λy=>nb (Tj _ y)),jr nb];exact z
end
section
variable{X:Cx}{ρ:Rho}{e:av}{es:List av}{d:D}{cs ds:List D}{pos p:aP}{x y:au}{i k:Nat}
def DE.callV {S:List D->D->Prop} (c:j3d X.prog X.w X.K X.mg X.base k x S) (hr:Room k X.A) (hi:ρ[i]?=a8 (.val (.fn x cs))) (ha:DA X ρ (e::es) ds) (nf:J2 ds=ae) (hS:S (cs++ds) d) (hN:X.N[i]?=a8 y) (hv:Vis X.env.scope y) (hd:(y==k9o)=a9) (hcd:(y==k9p)=a9)
  (he:aj (e::es) X.env=(a9,aC e X.env)::aj es X.env) (hpl:(aR pos (aj es X.env)).any (·.1)=a9):DE X ρ (.Call (.Name y p) (e::es) [] pos) d:=λσ H Q R q pins s I=>by
 obtain⟨v,hσ,en⟩:=R.val i _ hi;obtain⟨a,c0,tx,cl,cvs,ev,L,l⟩:=id en;subst ev;refine aM (thn (vz hN hv hd hcd pins s σ H (λv' H'=>v'=.ref a/\H'=H) I ⟨_,hσ,rfl,rfl⟩) λu s1 ⟨v',H',I1,r1,e1,e2⟩=>?_);subst e1 e2;cases(show u=aI a from r1);obtain⟨pm,ctv,hfo⟩:=L.fo;have fnAt:∀{H2:Hp}{s2:aq},Inv X pins σ H2 s2->j0 H' H2->PySem.W.FnAt a s2.heap:=λ{H2 s2} I2 g=>⟨_,_,_,_,(show jm X.prog X.w H2 s2.heap a (.frz _ (.own 0))from I2.hok _ _ (g _ _ (of_del hfo).2)).1⟩
 refine W.callWith_F (fnAt I1 (j0.refl _)) (thn (ha σ H' (λvs H2=>j0 H' H2/\j4 X.K (del H2 (owns ρ)) ds vs) R (λvs H2 g z=>⟨g,z⟩) pos pins s1 I1) λus s2 ⟨vs,H2,I2,rv,g,ea⟩=>⟨fnAt I2 g,?_⟩) he hpl;refine iU (bK (c X.A X.stack s2 H2 a (owns ρ) cs ds d vs us Q E0 hr I2.env0 (R.tb.mono g) (R.grow g).owned (en.mono (jg g)) ea nf hS rv λv H3 g3 z=>q v H3 (g.trans g3) z) λr s' hq=>?_);cases r with
 |error e=>exact(show False from hq).elim
 |ok fl =>
  cases fl with
  |ret u=>exact I2.after hq
  |next=>exact(show False from hq).elim
  |brk=>exact(show False from hq).elim
  |cont=>exact(show False from hq).elim
end
theorem Ez{pos:aP}{c cv:ah}{a b:Int}:∀(l:List ah),TriplesOk l->g0 pos (l++[cQ a,cQ b,c])=a8 cv->g0 pos l=a8 cv\/cv=c
 |[],_,h=>by
  simp only[gb,cQ,g0]at h;split at h
  .exact .inr (ax h).symm
  .cases h
 |.int i t::.int j u::x::r,ht,h=>by
  simp only[Tw,g0]at h ⊢;split at h
  .rename_i z;rw[if_pos z];exact .inl h
  .rename_i z;rw[if_neg z];exact Ez r ht h
variable{cs:List ai}{cl:List (au×ai)}
section
variable{X:Cx}{pins:k9m}{σ:St}{H:Hp}{s:aq}
def Inv.madeL{q:au}{P:ai}{h2:aE}{tk:Nat}{H2:Hp}(I:Inv X pins σ H s)(hP:H P=a8 (.cod q))(g:j0 H H2)(kp:∀b o,b≠P->s.heap.get? b=a8 o->h2.get? b=a8 o)
  (new:∀b o,H2 b=a8 o->H b=a8 o\/(s.heap.objs.size<=b/\jm X.prog X.w H2 h2 b o)) (okP:jm X.prog X.w H2 h2 P (.cod q)):Inv X pins σ H2 { s with heap:=h2,toks:=tk }:=by
 have nP:∀{b:ai},H b=af->b≠P:=λ{b} n z=>by rw[z,hP]at n;cases n
 have nO:∀{b:ai}{u:HO},H b=a8 u->(∀q,u≠.cod q)->b≠P:=λ{b u} e n z=>by rw[z,hP]at e;cases e;exact n _ rfl
 refine I.un (H':=H2) (h':=h2) (t':=tk) ⟨λb o e n _ _=>kp b o (nP n) e,λb o e n _ _=>⟨o.slots,kp b o (nP n) e⟩,λb o e n _=>?_,λb o e _=>?_,λb xs e=>g _ _ e,λb o u e=>g _ _ e,λb ps e=>⟨#[],by rw[g _ _ e];simp⟩⟩ λb o e=>?_
 .cases z:H2 b with
  |none=>rfl
  |some u =>
   rcases new b u z with y|⟨y,_⟩
   .rw[n]at y;cases y
   .exact absurd (Xr (X4 e) y) (Py _)
 .by_cases z:b=P
  .obtain⟨ps,y,_⟩:=okP;exact⟨_,by rw[z];exact y⟩
  .exact⟨o,kp b o z e⟩
 .rcases new b o e with y|⟨_,y⟩
  .by_cases z:b=P
   .subst z;rw[hP]at y;cases y;exact okP
   .exact(I.hok b o y).stay (λc u hc r=>kp c u (hc.elim (λe=>e▸z) λe=>nO e λ_ z=>by cases z) r) (λ_ r=>g _ _ r) (λ_ _ r=>g _ _ r) λ_ _ _ r=>g _ _ r
  .exact y
structure LMk(X:Cx)(x:au):Prop where
 mem:x∈Vn
 qual:X.env.qual=x ++ ".<locals>."
 code:∃c P,X.env.code=.ref c/\W.codeHdIn X.K c P=ae/\W.tabIn X.K x=a8 (c,P)
def jpx(X:Cx)(x:au)(params:dS)(body:av)(scope:be)(cl:List (au×ai)):TE:=λ_ H Q=>TabOk X.K H/\∀(f c:ai)(oc:d7)(pm ctv:ah)(H2:Hp),j0 H H2->H f=af->H2 f=a8 (.frz (W.kla_obj "<lambda>" (qg x) params body scope cl pm c ctv) (.own 0)) ->
 H2 c=a8 (.frz oc (.own 0))->Dg oc (qg x)->Q (.ref f) H2
def j9s{x:au}{params:dS}{body:av}(M:LMk X x)(hdef:gJ params X.env=([],[]))(hcl:dZ scope X.env=pure cl):PE X (.Lambda params body scope pos) (jpx X x params body scope cl):=by
 rintro pins s σ H Q I ⟨tb,h⟩;obtain⟨c,P,hc,hd,ht⟩:=M.code;have hP:=tb x M.mem c P ht;have C:k6 s.heap c P:=W.codeHd_of_K I.kIn hd;obtain⟨ps,hps,htr,hcod⟩:=(show jm X.prog X.w H s.heap P (.cod (qg x))from I.hok _ _ hP)
 have hns:=I.mod.glob.keeps I.bk;have hgP:aA≠P:=λz=>by obtain⟨o,es,ep,e,d,_⟩:=hns;rw[z,hps]at e;cases e;cases d
 have hbP:s.heap.BuiltinsAt X.mg P:=by
  obtain⟨bm,ob,b1,b2,b3,b4,b5,b6⟩:=I.mod.bm;have b3':=I.bk _ _ b3;refine⟨bm,ob,b1,b2,λz=>?_,λz=>?_,b3',b4,b5,b6⟩
  .obtain⟨o,es,ep,e,d,_⟩:=hns;rw[z,e]at b3';cases b3';rw[d]at b6;cases b6
  .rw[z,hps]at b3';cases b3';cases b4
 have hq:X.env.qual ++ "<lambda>" = qg x:=by rw[M.qual];rfl
 refine W.kla_eval hdef ?_;rw[hq];cases e:g0 pos ps.toList with
 |none =>
  refine W.kla_makeFunction hcl I.ok.glob hns hc C hps htr e hgP hbP λc' ctv h' tk hx hge hlt hrec htb=>?_;obtain⟨c2,oc,vs,t,ec,hoc,hdt,hv⟩:=hrec;cases ec;have hsz:s.heap.objs.size<=h'.objs.size:=dw (cG hge hlt);have n1:H c'=af:=I.hok.fresh hge;have n2:H h'.objs.size=af:=I.hok.fresh hsz;have ne:c'≠h'.objs.size:=Xj hlt;have hne:∀{b:ai}{u:HO},H b=a8 u->b≠c'/\b≠h'.objs.size:=λz=>⟨v9 z n1,v9 z n2⟩
  have g:∀fo:HO,j0 H (upd (upd H c' (.frz oc (.own 0))) h'.objs.size fo):=λfo b u z=>by rw[jk (hne z).2,jk (hne z).1];exact z
  have h2c:∀fo:HO,upd (upd H c' (.frz oc (.own 0))) h'.objs.size fo c'=a8 (.frz oc (.own 0)):=λfo=>by rw[jk ne,j8]
  refine⟨.ref h'.objs.size,_,I.madeL (P:=P) (q:=qg x) (H2:=upd (upd H c' (.frz oc (.own 0))) h'.objs.size (.frz (W.kla_obj "<lambda>" (qg x) params body scope cl ((X.mg "__name__").getD .none) c' ctv) (.own 0))) hP (g _)
   (λb o nb z=>xj _ (hx b o nb z)) (λb o z=>?_) ?_,rfl,h _ c' oc _ ctv _ (g _) n2 j8 (h2c _) ⟨vs,t,hdt,hv⟩⟩
  .by_cases z1:b=h'.objs.size
   .subst z1;rw[j8]at z;cases z;exact .inr ⟨hsz,X3 _ rfl,_,X3 _ rfl⟩
   .rw[jk z1]at z;by_cases z2:b=c'
    .subst z2;rw[j8]at z;cases z;exact .inr ⟨hge,xj _ hoc,_,xj _ hoc⟩
    .rw[jk z2]at z;exact .inl z
  .refine⟨_,xj _ htb,by rw[fm];exact TriplesOk_snoc _ _ _ _ htr,λpos' cv z=>?_⟩;rw[fm]at z;rcases Ez ps.toList htr z with z|z
   .obtain⟨c3,oc3,e1,e2,e3⟩:=hcod pos' cv z;exact⟨c3,oc3,e1,g _ _ _ e2,e3⟩
   .exact⟨c',oc,z,h2c _,vs,t,hdt,hv⟩
 |some cv =>
  obtain⟨c',oc,ec,h1,h2⟩:=hcod pos cv e;subst ec;refine W.kla_makeFunctionHit hcl I.ok.glob hns hc C hps htr e hbP λctv h' tk hk hsz=>?_;have n2:H h'.objs.size=af:=I.hok.fresh hsz;have g:∀fo:HO,j0 H (upd H h'.objs.size fo):=λfo=>j6 n2;refine⟨.ref h'.objs.size,_,I.madeL (P:=P) (q:=qg x) (H2:=upd H h'.objs.size (.frz (W.kla_obj "<lambda>" (qg x) params body scope cl ((X.mg "__name__").getD .none) c' ctv) (.own 0))) hP (g _)
   (λb o _ z=>xj _ (hk b o z)) (λb o z=>?_) ?_,rfl,h _ c' oc _ ctv _ (g _) n2 j8 (g _ _ _ h1) h2⟩
  .by_cases z1:b=h'.objs.size
   .subst z1;rw[j8]at z;cases z;exact .inr ⟨hsz,X3 _ rfl,_,X3 _ rfl⟩
   .rw[jk z1]at z;exact .inl z
  .refine⟨ps,xj _ (hk _ _ hps),htr,λpos' cv z=>?_⟩;obtain⟨c3,oc3,e1,e2,e3⟩:=hcod pos' cv z;exact⟨c3,oc3,e1,g _ _ _ e2,e3⟩
noncomputable def plus(H:Hp)(h:aE)(cs:List ai):Hp:=λb=>if b∈cs then(h.get? b).map λo=>.frz o (.own 0)else H b
def Nt{h:aE}{o:d7}(hb:b∈cs)(e:h.get? b=a8 o):plus H h cs b=a8 (.frz o (.own 0)):=by unfold plus;rw[if_pos hb,e];rfl
def Qk{h:aE}(hb:b∉cs):plus H h cs b=H b:=if_neg hb
def Own(X:Cx)(cs:List ai):Prop:=∀c∈cs,∃y,X.env.cells.lookup y=a8 c/\X.fn y=ae
def Own.obj(I:Inv X pins σ H s)(hc:Own X cs){c:ai}(h:c∈cs):∃o v,s.heap.get? c=a8 o/\o.data=.cell v/\H c=af/\X.s₀.heap.objs.size<=c/\c≠X.env.locals:=by obtain⟨y,e,f⟩:=hc c h;obtain⟨v,o,e1,e2⟩:=I.cell y c e;exact⟨o,v,e1,e2,I.freeC y c e,I.ok.cab y c f e,I.cne y c e⟩
def Wf(I:Inv X pins σ H s)(hc:Own X cs):j0 H (plus H s.heap cs):=λb o e=>by rw[Qk];exact e;intro z;obtain⟨_,_,_,_,n,_⟩:=hc.obj I z;rw[n]at e;cases e
theorem Inv.plus{cs:List ai}(I:Inv X pins σ H s)(hc:Own X cs) :
  Env0 X.prog X.w X.K X.mg X.base X.A X.stack s (plus H s.heap cs)/\∀(Q:VK)(u:ah)(s':aq),CE X.stack X.prog X.w (L2.plus H s.heap cs) s (λv H'=>Cel H' cs->Q v (del H' cs)) u s'->EP X pins σ Q u s':=by
 have e0:=I.env0;have nb:∀{b:ai}{u:HO},H b=a8 u->b∉cs:=λ{b u} e z=>by obtain⟨_,_,_,_,n,_⟩:=hc.obj I z;rw[n]at e;cases e
 have nf:∀b∈frs X.stack,b∉cs:=λb hb z=>by
  obtain⟨o,v,e1,e2,n,hge,hl⟩:=hc.obj I z;rcases Xb.mp (I.stkSub b hb)with y|y
  .exact hl y
  .obtain⟨_,o',ho,_⟩:=I.ok.funs.mem y;exact absurd (Xr (X4 ho) hge) (Py _)
 have g:=Wf I hc;refine⟨⟨e0.frames,e0.mod,λb o e=>⟨(e0.bs b o e).1,?_⟩,e0.bsz,e0.funs,λb hb=>by rw[Qk (nf b hb)];exact e0.frf b hb,λb o e=>?_,e0.bare⟩,λQ u s' hq=>?_⟩
 .rw[Qk];exact(e0.bs b o e).2;intro z;obtain⟨_,_,_,_,_,hge,_⟩:=hc.obj I z;exact absurd (Xr (X4 e) (Xn I.ok.bsz hge)) (Py _)
 .by_cases z:b∈cs
  .obtain⟨oc,v,e1,_⟩:=hc.obj I z;rw[Nt z e1]at e;cases e;exact⟨e1,_,e1⟩
  .rw[Qk z]at e;exact(I.hok b o e).stay (λ_ _ _ r=>r) (λ_ r=>g _ _ r) (λ_ _ r=>g _ _ r) λ_ _ _ r=>g _ _ r
 .obtain⟨v,H',os,bare,un,hok',rel,q⟩:=hq;have cel:∀c∈cs,∃o v,s.heap.get? c=a8 o/\o.data=.cell v/\H' c=a8 (.frz o (.own 0))/\s'.heap.get? c=a8 o:=λc hcs=>by obtain⟨o,v,e1,e2,_⟩:=hc.obj I hcs;have z:=un.frzs c o _ (Nt hcs e1);exact⟨o,v,e1,e2,z,(show jm X.prog X.w H' s'.heap c (.frz o (.own 0))from hok' _ _ z).1⟩
  have hC:Cel H' cs:=λc hcs=>let ⟨o,v,_,e2,e3,_⟩:=cel c hcs;⟨o,v,e3,e2⟩;have nb':∀{b:ai}{u:HO},H' b=a8 u->(∀oc v,u=.frz oc (.own 0)->oc.data≠.cell v)->del H' cs b=a8 u:=λ{b u} e n=>by rw[j5];exact e;intro z;obtain⟨o,v,_,e2,e3,_⟩:=cel b z;rw[e]at e3;cases e3;exact n _ _ rfl e2
  refine⟨v,del H' cs,I.call' (ch:=[]) os ⟨λb o e n hb hx=>?_,λb o e n hb hx=>?_,λb o e n hx=>?_,un.there,λb xs e=>?_,λb o u e=>?_,λb ps e=>?_⟩ (λb o e=>?_) bare (λb z=>absurd z (by simp)),rel,q hC⟩
  .by_cases z:b∈cs
   .obtain⟨o',v',e1,_,_,e4⟩:=cel b z;rw[e]at e1;cases e1;exact e4
   .exact un.keep b o e (by rw[Qk z];exact n) hb hx
  .exact un.slot b o e (by rw[Qk (nf b hb)];exact n) hb hx
  .by_cases z:b∈cs
   .exact qy z
   .rw[j5 z];exact un.free b o e (by rw[Qk z];exact n) hx
  .have z:=un.tups b xs (g _ _ e);exact nb' z λ_ _ y=>by cases y
  .have z:=un.frzs b o u (g _ _ e);rw[j5 (nb e)];exact z
  .obtain⟨m,z⟩:=un.tbls b ps (g _ _ e);exact⟨m,nb' z λ_ _ y=>by cases y⟩
  .obtain⟨n,e⟩:=of_del e;exact(hok' b o e).stay (λ_ _ _ r=>r) (λ_ r=>nb' r λ_ _ y=>by cases y) (λ_ _ r=>nb' r λ_ _ y=>by cases y) λ_ _ ⟨vs,d⟩ r=>nb' r λ_ _ y d'=>by cases y;rw[d]at d';cases d'
end
def Vi(X:Cx)(ρ:Rho):List (au×ai)->List D->Prop
 |[],ds=>ds=[]
 |p::cl,ds=>∃(d:D)(r:List D)(i:Nat),ds=d::r/\X.N[i]?=a8 p.1/\X.env.scope.names.lookup p.1=a8 .cell/\X.env.cells.lookup p.1=a8 p.2/\X.fn p.1=ae/\ρ[i]?=a8 (.val d)/\Vi X ρ cl r
section
variable{X:Cx}{pins:k9m}{σ:St}{H H2:Hp}{s s2:aq}{ρ:Rho}
theorem Vi.own:∀{cl:List (au×ai)} {ds:List D},Vi X ρ cl ds->Own X (cl.map (·.2))
 |[],_,_=>λ_ h=>nomatch h
 |p::cl,_,⟨d,r,i,e,h1,h2,h3,h4,h5,l⟩=>λc hc=>(Xb.mp hc).elim (λz=>⟨p.1,by rw[z];exact h3,h4⟩) (Vi.own l c)
theorem Vi.look:∀{cl:List (au×ai)} {ds:List D},Vi X ρ cl ds->∀p∈cl,X.env.cells.lookup p.1=a8 p.2
 |p::cl,_,⟨d,r,i,e,h1,h2,h3,h4,h5,l⟩,q,hq=>(Xb.mp hq).elim (λz=>z▸h3) (Vi.look l q)
theorem Vi.cells(I2:Inv X pins σ H2 s2)(R:Rep X.K ρ σ H){cs:List ai}(hg:j0 (del H (owns ρ)) (del (plus H2 s2.heap cs) cs)):∀{cl:List (au×ai)} {ds:List D},Vi X ρ cl ds->(∀c∈cl.map (·.2),c∈cs) ->
  ∃vs,vy (plus H2 s2.heap cs) (cl.map (·.2)) vs/\j4 X.K (del (plus H2 s2.heap cs) cs) ds vs
 |[],_,h,_=>by cases h;exact⟨[],rfl,rfl⟩
 |p::cl,_,⟨d,r,i,e,h1,h2,h3,h4,h5,l⟩,hm=>by
  subst e;obtain⟨vs,q1,q2⟩:=Vi.cells I2 R hg l λc hc=>hm c (xn _ hc);obtain⟨v,hv,en⟩:=R.val i d h5;obtain⟨m,hn,hl⟩:=I2.loc;obtain⟨u,r,lk⟩:=hl i p.1 v h1 hv (.inr (.inl h2));rcases lk with ⟨k,_⟩|⟨_,c,e,o,ho,hd⟩
  .have k:X.env.scope.names.lookup p.1=a8 .local:=k;rw[h2]at k;cases k
  .rw[h3]at e;cases e;exact⟨v::vs,⟨v,vs,o,u,rfl,Nt (hm _ (X6 ..)) ho,hd,r,q1⟩,v,vs,rfl,en.mono hg,q2⟩
def j5x(ok:X.Ok)(h:Vi X ρ cl ds)(nd:(cl.map (·.1)).Nodup):(cl.map (·.2)).Nodup:=by
 have lk:=h.look;clear h;induction cl with
 |nil=>exact dz
 |cons p r ih =>rw[X7]at nd ⊢;obtain⟨n1,n2⟩:=Xv.mp nd;refine Xv.mpr ⟨λz=>?_,ih n2 λq hq=>lk q (xn _ hq)⟩;obtain⟨q,hq,e⟩:=xr.mp z;have:=ok.inj p.1 q.1 p.2 (lk p (X6 ..)) (by rw[<-e];exact lk q (xn _ hq));exact n1 (this▸fC hq)
def jaj{x:au}{tx:Tx}{c:ai}{oc:d7}{pm ctv:ah}(ht:Qn X.K x=a8 tx)(hn:cl.map (·.1)=v6 tx.2.2)(nd:(v6 tx.2.2).Nodup)(hc:Vi X ρ cl ds)(I2:Inv X pins σ H2 s2)(R:Rep X.K ρ σ H)(g:j0 H H2)
  (hf:H2 f=a8 (.frz (W.kla_obj "<lambda>" (qg x) tx.1 tx.2.1 tx.2.2 cl pm c ctv) (.own 0))) (ho:H2 c=a8 (.frz oc (.own 0))) (hq:Dg oc (qg x)):Enc X.K (plus H2 s2.heap (cl.map (·.2))) (.fn x ds) (.ref f):=by
 have pg:=Wf I2 hc.own;have hg:j0 (del H (owns ρ)) (del (plus H2 s2.heap (cl.map (·.2))) (cl.map (·.2))):=λb o e=>by
  have e2:=g _ _ (of_del e).2;have nb:b∉cl.map (·.2):=λz=>by obtain⟨_,_,_,_,n,_⟩:=hc.own.obj I2 z;rw[n]at e2;cases e2
  rw[j5 nb,Qk nb];exact e2
 obtain⟨vs,q1,q2⟩:=hc.cells I2 R hg λ_ z=>z;exact⟨f,c,tx,cl,vs,rfl,⟨ht,⟨pm,ctv,pg _ _ hf⟩,⟨oc,pg _ _ ho,hq⟩,hn,j5x I2.ok hc (by rw[hn];exact nd),q1⟩,q2⟩
end
section
variable{X:Cx}{ρ:Rho}{P:Po}{x:au}{params:dS}{body:av}{scope:be}{cl:List (au×ai)}{ds:List D}{pos p1 p2:aP}
def DS.retLam(M:LMk X x)(hdef:gJ params X.env=([],[]))(hcl:dZ scope X.env=pure cl)(ht:Qn X.K x=a8 (params,body,scope))(hn:cl.map (·.1)=v6 scope)(nd:(v6 scope).Nodup)(hc:Vi X ρ cl ds)(h:P.rt (.val (.fn x ds))) :
  DS X ρ (.Return (a8 (.Lambda params body scope p1)) pos) P:=λσ H E R q pins s I=>by
 refine lM (thn (j9s M hdef hcl pins s σ H (λv H2=>∃(f c:ai)(oc:d7)(pm ctv:ah),v=.ref f/\j0 H H2/\H2 f=a8 (.frz (W.kla_obj "<lambda>" (qg x) params body scope cl pm c ctv) (.own 0))/\H2 c=a8 (.frz oc (.own 0))/\Dg oc (qg x)) I
  ⟨R.tb,λf c oc pm ctv H2 g _ h1 h2 h3=>⟨f,c,oc,pm,ctv,rfl,g,h1,h2,h3⟩⟩) λu s2 ⟨v,H2,I2,r,f,c,oc,pm,ctv,ev,g,h1,h2,h3⟩=>?_)
 subst ev;refine⟨_,σ,H2,plus H2 s2.heap (cl.map (·.2)),I2,r,λb=>?_,q.rt _ _ _ h ⟨λb o e=>Wf I2 hc.own _ _ (g _ _ (of_del e).2),jaj (tx:=(params,body,scope)) ht hn nd hc I2 R g h1 h2 h3⟩⟩;by_cases z:b∈cl.map (·.2)
 .obtain⟨o,v,e1,e2,_⟩:=hc.own.obj I2 z;obtain⟨y,e,fy⟩:=hc.own b z;exact .inr ⟨y,o,v,e,fy,Nt z e1,e1,e2⟩
 .exact .inl (Qk z)
def DT.callL{S:List D->D->Prop}{g:au}{e1 e2:av}{d1 d2 d:D}(c:Cal X g (spP X.K S))(M:LMk X x)(hdef:gJ params X.env=([],[]))(hcl:dZ scope X.env=pure cl)(ht:Qn X.K x=a8 (params,body,scope))(hn:cl.map (·.1)=v6 scope)(nd:(v6 scope).Nodup)(hc:Vi X ρ cl ds)
  (h1:DT X ρ e1 d1) (h2:DT X ρ e2 d2) (nf:noFn d=ae) (hS:S [d1,d2,.fn x ds] d) (hg:Gl X g) (hdb:(g==k9o)=a9)
  (hs1:aj [e1,e2,.Lambda params body scope p1] X.env=(a9,aC e1 X.env)::aj [e2,.Lambda params body scope p1] X.env) (hs2:aj [e2,.Lambda params body scope p1] X.env=(a9,aC e2 X.env)::aj [.Lambda params body scope p1] X.env)
  (hs3:aj [.Lambda params body scope p1] X.env=(a9,aC (.Lambda params body scope p1) X.env)::aj [] X.env) (hpl:(aR pos (aj [e2,.Lambda params body scope p1] X.env)).any (·.1)=a9) :
  DT X ρ (.Call (.Name g p2) [e1,e2,.Lambda params body scope p1] [] pos) d:=λσ H Q R q pins s I=>by
 obtain⟨k,f,fd,ps,F,hr,hm,hk,hb,_⟩:=c.ex;refine aM (j0x I hg hm ?_ hdb);refine W.callWith_K (h₀:=X.base) I.ok.mod.kin hk (thn ((ji peS (ji peS (ji (j9s M hdef hcl) qb hs3) hs2) hs1) pos pins s σ H (λvs H2=>∃(v1 v2:V)(f c:ai)(oc:d7)(pm ctv:ah),vs=[v1,v2,.ref f]/\j0 H H2/\Enc X.K H2 d1 v1/\Enc X.K H2 d2 v2 /\
   H2 f=a8 (.frz (W.kla_obj "<lambda>" (qg x) params body scope cl pm c ctv) (.own 0))/\H2 c=a8 (.frz oc (.own 0))/\Dg oc (qg x)) I
  (h1 σ H _ R λv1 H1 g1 q1=>h2 σ H1 _ (R.grow g1) λv2 H2 g2 q2=>⟨R.tb.mono (g1.trans g2),λf c oc pm ctv H3 g3 _ z1 z2 z3=>⟨v1,v2,f,c,oc,pm,ctv,rfl,(g1.trans g2).trans g3,q1.mono (g2.trans g3),q2.mono g3,z1,z2,z3⟩⟩)) λus s2 ⟨vs,H2,I2,rv,v1,v2,fa,ca,oc,pm,ctv,ev,g,q1,q2,z1,z2,z3⟩=>⟨I2.kIn,?_⟩) hs1 hpl
 subst ev;have pg:=Wf I2 hc.own;have ef:=jaj (tx:=(params,body,scope)) ht hn nd hc I2 R g z1 z2 z3;obtain⟨e0,back⟩:=I2.plus hc.own;have sp:spP X.K S [v1,v2,.ref fa] (plus H2 s2.heap (cl.map (·.2))) (λv H'=>Cel H' (cl.map (·.2))->Q v (del H' (cl.map (·.2)))) E0 :=
  ⟨[],[d1,d2,.fn x ds],d,(R.tb.mono g).mono pg,(λa h=>nomatch h),by rw[Qd];exact⟨_,_,rfl,q1.mono pg,_,_,rfl,q2.mono pg,_,_,rfl,ef,rfl⟩,hS,λv H' g' en hC=>by
   rw[Qd]at en
   refine q v _ (λb o e=>?_) (en.noc hC nf)
   have e2:=g _ _ e
   have nb:b∉cl.map (·.2):=λz=>by obtain⟨_,_,_,_,n,_⟩:=hc.own.obj I2 z;rw[n]at e2;cases e2
   rw[j5 nb];exact g' _ _ (pg _ _ e2)⟩
 have hl:us.length=ps.length:=by rw[<-rv.length];exact F.len _ _ _ _ sp
 have hb':=hb s2 us I2.kIn (by rw[Pa];exact hl);rw[Pa]at hb';refine iU (bK (F.run X.A X.stack s2 _ ⟨us,[]⟩ us _ _ _ (hr.mono nofun) e0 hb' rv sp) λr s' hq=>?_);cases r with
 |error e=>exact(show False from hq).elim
 |ok fl =>
  cases fl with
  |ret u=>exact back Q u s' hq
  |next=>exact(show False from hq).elim
  |brk=>exact(show False from hq).elim
  |cont=>exact(show False from hq).elim
end
section
variable{X:Cx}{ρ:Rho}{e a b c:av}{es:List av}{st:aX}{rest sa sb body:List aX}{P:Po}{d:D}{ds ds':List D}{pos p p1 p2 p3:aP}{x:au}{i:Nat}
def Cal.comp{sp:Sp}(h:Cal X x sp):Cal (cCx X scope C s H fp pn) x sp:=⟨h.ex⟩
end
def jf(lo:Int)(n:Nat):(upto lo n).length=n:=by unfold upto;rw[xg,Xg]
def Qh{lo:Int}{j:Nat}{d:D}(h:(upto lo n)[j]?=a8 d):j<n/\d=.int (lo+j):=by
 unfold upto at h;rw[xm]at h;cases z:(ao n)[j]? with
 |none=>rw[z]at h;cases h
 |some k =>rw[z]at h;have hl:=(Xe.mp z).1;rw[Xg]at hl;have:=Xm (n:=n) (i:=j) hl;rw[this]at z;cases z;cases h;exact⟨hl,rfl⟩
theorem D.depL_of{n:Nat}:∀{ds:List D},(∀d∈ds,d.dep<=n)->D.depL ds<=n
 |[],_=>by simp only[D.depL];omega
 |x::xs,h=>by simp only[D.depL];have h1:=h x (X6 ..);have h2:=D.depL_of (ds:=xs) λd m=>h d (xn _ m);omega
end L2
namespace L2
noncomputable def j7(b:Int):Nat->Int->zo
 |0,_=>[]
 |i+1,n=>(n/b^i%b)::j7 b i n
theorem jt(b:Int):∀(m:Nat)(n:Int),(j7 b m n).length=m
 |0,_=>rfl
 |m+1,n=>by rw[j7,xx,jt b m n]
theorem Zj(b:Int):∀{m k:Nat}{n:Int},k<m->(j7 b m n)[k]?=a8 (n/b^(m-k-1)%b)
 |m+1,0,n,_=>by rw[j7];rfl
 |m+1,k+1,n,h=>by
  rw[j7,S6,Zj b nofun];have:m-k-1=m+1-(k+1)-1:=by omega
  rw[this]
def j4x(n b:Int)(hb:0<b)(i:Nat):n/b^i/b=n/b^(i+1):=by rw[Int.ediv_ediv_of_nonneg (ja (T8 hb)),cS]
end L2
end
section
namespace L2
open PySem PySem.Spec PyProof.Rows
section
variable{X:Cx}{pins pins':k9m}{σ:St}{H:Hp}{s:aq}{xe:k9l}{e:ai}
noncomputable abbrev Cx.hnd(X:Cx)(e:ai):Cx:={ X with A:=X.A.mark (a8 (.ref e)),calm:=a9,xe:=λ_ _=>False }
end
section
variable{X:Cx}
def jq7:V->Option Int->Option Int->Hp->VK->Prop:=λx lo hi H Q=>∃z,x=.str z/\z.length<=aw/\Q (.str (bR z lo hi)) H
def part_of{v:ah}{o:Option Int}(h:fW v o):∃l:Option (Int×iy),v=partValue l/\l.map (·.1)=o:=by
 cases h with
 |none=>exact⟨af,rfl,rfl⟩
 |int i t=>exact⟨a8 (i,t),rfl,rfl⟩
def jjb:SlR X jq7:=by intro pins s σ H x v vl vu lo hi sl Q I rx hs pl pu h;obtain⟨z,ex,hz,q⟩:=h;subst ex;obtain⟨t,ev⟩:=rx;subst ev;obtain⟨l,el,ml⟩:=part_of pl;obtain⟨u,eu,mu⟩:=part_of pu;subst el eu ml mu;obtain⟨o,h1,h2,h3⟩:=hs;refine⟨"str",_,PySem.F.slot_str_getitem.lookup,iV s z t,wpAny_getItem_str_slice (l:=l) (u:=u) (st:=af) ⟨o,h1,h2,h3⟩ rfl ?_⟩;exact post_val_or_str ⟨Xn (Txt.slice_le z _ _) hz,λt' k=>⟨.str _,H,I.tok k,⟨_,rfl⟩,q⟩⟩
theorem j6b:∀{ts:List au}{us:List ah},Vals (ts.map V.str) us->∃l:List (au×iy),us=strValues l/\l.map (·.1)=ts
 |[],_,r=>by cases r;exact⟨[],rfl,rfl⟩
 |t::ts,_,r=>by
  cases r with
  |cons a b =>obtain⟨k,e⟩:=a;obtain⟨l,e1,e2⟩:=j6b b;subst e e1 e2;exact⟨(t,k)::l,rfl,rfl⟩
def jhe:MtR X "str.join" (λx vs H Q=>∃(sep:au)(l:ai)(ts:List au),x=.str sep/\vs=[.ref l]/\SqL X.K H l (ts.map V.str)/\fV sep ts=ae/\Q (.str (fb sep ts)) H):=by rintro pins s σ H x vs v us Q I rx rv ⟨sep,l,ts,e,e',sq,hok,q⟩;subst e e';obtain⟨t,ev⟩:=rx;subst ev;obtain⟨u,eu,ru⟩:=rv.one;subst eu;cases ru;obtain⟨its,ri,pl,_⟩:=I.list sq;obtain⟨ps,e1,e2⟩:=j6b ri;subst e1 e2;unfold fV at hok;rw[ku]at hok;exact bD jN (iV _ _ _) F.entry_str_join (F.args_str_join_2 _ _) (meets_str_join_list sep t l ps hok) ⟨pl.isList,post_join ps ⟨joinFit_length hok,λt' k=>⟨.str _,H,I.tok k,⟨_,rfl⟩,q⟩⟩⟩
def jb4 (hc:X.calm=ae):Z0 X (.builtin "sum") (λxs H Q=>∃(lst:Bool)(l:ai)(ns:zo),xs=[.ref l]/\SqB X.K lst H l (ns.map V.int)/\Q (.int ns.sum) H):=by
 rintro pins s σ H xs us Q I r ⟨lst,l,ns,e,sq,q⟩;subst e;obtain⟨u,eu,ru⟩:=vals1 r;subst eu;cases ru;obtain⟨its,rv,pl,_⟩:=I.side sq;have hl:its.length=ns.length:=by rw[<-rv.length,xg]
 have val:∀i v,its.toArray[i]?=a8 v->∃t,v=bB (ns.getD i 0) t:=by
  intro i v hv;have hi:i<its.length:=by obtain⟨h,_⟩:=Array.getElem?_eq_some_iff.mp hv;simpa using h
  have hi':i<ns.length:=by omega
  obtain⟨w1,hw,rw1⟩:=rv.get (x:=.int (ns.getD i 0)) (i:=i) (by rw[xm,kh hi',xf,kh hi'];rfl);have:its.toArray[i]?=a8 w1:=by simpa using hw
  rw[this]at hv;cases hv;exact rw1
 have tot:preSum (λi=>ns.getD i 0) its.toArray.size=ns.sum:=by rw[preSum_getD,T9 (by rw[Xd];omega)]
 have fin:∀(o:d7)(s':aq)(t':iy),Moved [s.heap.objs.size] (λa b=>b=a) { s with heap:=s.heap.push o } s'->EP X pins σ Q (.int (preSum (λi=>ns.getD i 0) its.toArray.size) t') s':=λo s' t' mv=>by obtain⟨hh,gg,dd,tt,oo⟩:=s';obtain⟨m1,m2,m3,m4,m5⟩:=mv;cases m2;cases m3;cases m4;rw[tot];refine⟨.int _,H,I.kept (t':=tt) λb o e=>m1 b o ?_ (xj _ e),⟨_,rfl⟩,q⟩;intro z;rw[xu.mp z]at e;exact Py _ (X4 e)
 unfold jo at pl;cases lst with
 |true =>
  rw[if_pos rfl]at pl;have hlt:l<s.heap.objs.size:=by obtain⟨_,e,_⟩:=pl;exact X4 e
  refine lQ (bJ pl ⟨s.heap.objs.size,[s.heap.objs.size,l],[s.heap.objs.size],_,its.toArray.size,_,_,λi=>ns.getD i 0,rfl,(Walks.list (A:=X.A.in1) (I.ok.hd hc) _ _ (Xj hlt) its.toArray).toS,⟨⟨_,X3 _ rfl,rfl,rfl⟩,pl.push _⟩,?_,val,λs' t' mv=>fin _ s' t' mv⟩);intro b hb;show b<(s.heap.push _).objs.size;rw[Pq];rcases Xb.mp hb with z|z
  .rw[z];exact d5 _
  .rw[xu.mp z];exact gm hlt
 |false =>
  rw[if_neg xq]at pl;have hlt:l<s.heap.objs.size:=by obtain⟨_,e,_⟩:=pl;exact X4 e
  refine lQ (gE pl ⟨s.heap.objs.size,[s.heap.objs.size,l],[s.heap.objs.size],_,its.toArray.size,_,_,λi=>ns.getD i 0,rfl,(Walks.tuple (A:=X.A.in1) (I.ok.hd hc) _ _ (Xj hlt) its.toArray).toS,⟨⟨_,X3 _ rfl,rfl,rfl⟩,pl.push _⟩,?_,val,λs' t' mv=>fin _ s' t' mv⟩);intro b hb;show b<(s.heap.push _).objs.size;rw[Pq];rcases Xb.mp hb with z|z
  .rw[z];exact d5 _
  .rw[xu.mp z];exact gm hlt
end
section
variable{X:Cx}{ρ:Rho}{a b e:av}{ds:List D}{i j:Int}{pos p p1 p2:aP}{y z:au}{lo hi:Option av}{l u:Option Int}
theorem Yz{K:k9k}{H:Hp}:∀{ts:List au}{xs:List V},j4 K H (ts.map D.str) xs->xs=ts.map V.str
 |[],_,h=>h
 |t::ts,_,⟨x,r,e,h,l⟩=>by subst e;cases(show x=.str t from h);rw[Yz l];rfl
theorem zg{K:k9k}{H:Hp}:∀{ts:zo}{xs:List V},j4 K H (ts.map D.int) xs->xs=ts.map V.int
 |[],_,h=>h
 |t::ts,_,⟨x,r,e,h,l⟩=>by subst e;cases(show x=.int t from h);rw[zg l];rfl
def DE.lenS (ha:DT X ρ a (.str y)) (hy:y.length<=aw) (hm:X.mg "len" = af) (hg:Gl X "len") (hs:aj [a] X.env=[(a9,aC a X.env)]):DE X ρ (.Call (.Name "len" p) [a] [] pos) (.int y.length):=λσ H Q R q =>(Jx j5b hg hm du (ji peS qb hs) (by decide) (by decide) hs).to (ha σ H _ R λv H1 g1 e1=>⟨y,by rw[show v=.str y from e1],hy,q _ H1 g1 rfl⟩)
def DE.catS(ha:DT X ρ a (.str y))(hb:DT X ρ b (.str z))(hl:y.length+z.length<=aw):DE X ρ (.BinOp a .Add b pos) (.str (y++z)):=λσ H Q R q =>(Wg j7s peS peS).to (ha σ H _ R λv H1 g1 e1=>hb σ H1 _ (R.grow g1) λu H2 g2 e2=>⟨y,z,e1,e2,hl,q _ H2 (g1.trans g2) rfl⟩)
def DE.ixC{c:Nat}(ha:DT X ρ a (.str y))(hb:DT X ρ b (.int i))(hy:y.length<=aw)(h:L2.atI y.cps.toList i=a8 c)(hs:Ut b):DE X ρ (.Subscript a b pos) (.str ⟨#[c]⟩):=λσ H Q R q =>(j35 jl4 peS peS hs).to (ha σ H _ R λv H1 g1 e1=>hb σ H1 _ (R.grow g1) λu H2 g2 e2=>⟨y,i,c,e1,e2,hy,h,q _ H2 (g1.trans g2) rfl⟩)
def DE.sliceS(ha:DT X ρ a (.str y))(hl:DP X ρ lo l)(hu:DP X ρ hi u)(hy:y.length<=aw):DE X ρ (.Subscript a (.Slice lo hi af p2) pos) (.str (bR y l u)):=λσ H Q R q =>(Lh jjb peS poS poS).to (ha σ H _ R λv H1 g1 e1=>hl σ H1 _ (R.grow g1) λH2 g2=>hu σ H2 _ (R.grow (g1.trans g2)) λH3 g3=>⟨y,e1,hy,q _ H3 (g1.trans (g2.trans g3)) rfl⟩)
def DE.int1 {k:Bool} (ha:DT X ρ a (.bl k)) (hm:X.mg "int" = af) (hg:Gl X "int") (hs:aj [a] X.env=[(a9,aC a X.env)]):DE X ρ (.Call (.Name "int" p) [a] [] pos) (.int (if k then 1 else 0)):=λσ H Q R q =>(Wh jba hg hm boot_int (ji peS qb hs) (by decide) (by decide) hs).to (ha σ H _ R λv H1 g1 e1=>.inr ⟨k,by rw[show v=.bl k from e1],q _ H1 g1 rfl⟩)
theorem DE.sum (lst:Bool) {ns:zo} (ha:DT X ρ a (D.seq lst (ns.map D.int))) (hm:X.mg "sum" = af) (hc:X.calm=ae) (hg:Gl X "sum") (hs:aj [a] X.env=[(a9,aC a X.env)]):DE X ρ (.Call (.Name "sum" p) [a] [] pos) (.int ns.sum):=λσ H Q R q =>
 (Jx (jb4 hc) hg hm boot_sum (ji peS qb hs) (by decide) (by decide) hs).to (ha σ H _ R λv H1 g1 e1=>by
  obtain⟨t,xs,ev,sq,en⟩:=Zr e1
  subst ev
  rw[zg en]at sq
  exact⟨lst,t,ns,rfl,sq,q _ H1 g1 rfl⟩)
theorem DE.join{sep:au}{ts:List au}{n:Nat}{p0:aP}(ha:DT X ρ a (.lst (ts.map D.str)))(hok:fV sep ts=ae)
  (hfew:((aR p2 (aj [a] X.env)).all (λx=>!x.1)&&(br p2 (aV [] X.env)).all (λx=>x.1.isSome)&&decide (([a]:List av).length+([]:List aS).length+(if ([]:List aS).isEmpty then 0 else 1)<30))=ae)
  (hbase:aL (.Constant (.str sep) n p0) "join" X.env (aC (.Constant (.str sep) n p0) X.env)=aC (.Constant (.str sep) n p0) X.env)
  (hline:(p1.endLine==p2.line)=ae) (hs:aj [a] X.env=(a9,aC a X.env)::aj [] X.env):DE X ρ (.Call (.Attribute (.Constant (.str sep) n p0) "join" p1) [a] [] p2) (.str (fb sep ts)):=λσ H Q R q =>
 (Ud PySem.F.plainAttrs_str jN PySem.F.type_str_join jhe j9q (ji peS qb hs) hbase hfew hline hs rfl).to ⟨rfl,ha σ H _ R λv H1 g1 ⟨t,xs,e,sq,en⟩=>⟨sep,t,ts,rfl,by rw[e],by rw[Yz en]at sq;exact sq,hok,q _ H1 g1 rfl⟩⟩
end
section
variable{prog:az}{w:aD}{A:aF}{lst:Bool}{j t:ai}{its:Array ah}
def j83(hh:A.handled=af)(hne:t≠j):Draws prog w A j [j,t] its.size (λi v=>its[i]?=a8 v) (λi h=>jq lst h j t i/\jo lst h t its) where
 live:=λ_ _ st=>by obtain⟨o,e,_⟩:=st.1.obj;exact⟨o,e⟩
 frame:=λ_ h h' st hk=>⟨st.1.stay λo e=>hk j (by simp) o e,by
  have q:=st.2
  unfold jo at q ⊢
  cases lst with
  |true=>rw[if_pos rfl]at q ⊢;exact q.at λo e=>hk t (by simp) o e
  |false=>rw[if_neg xq]at q ⊢;exact q.at λo e=>hk t (by simp) o e⟩
 item:=λi s Q E hi st hQ=>Wc st.1 st.2 (y:=its[i]) (by simp[hi]) λh' hit' hs'=>hQ _ h' s.toks (by simp[hi]) ⟨hit',st.2.ext hs'.extBut hne⟩ hs'
 done:=λs Q E st hE=>Ma hh st.1 st.2 (by simp) hE
def jak{n:Nat}(hh:A.handled=af)(hne:t≠j)(hn:its[n]?=af):Draws prog w A j [j,t] n (λi v=>its[i]?=a8 v) (λi h=>i=n/\jq lst h j t i/\jo lst h t its) where
 live:=λ_ _ st=>by obtain⟨o,e,_⟩:=st.2.1.obj;exact⟨o,e⟩
 frame:=λ_ h h' st hk=>⟨st.1,st.2.1.stay λo e=>hk j (by simp) o e,by
  have q:=st.2.2
  unfold jo at q ⊢
  cases lst with
  |true=>rw[if_pos rfl]at q ⊢;exact q.at λo e=>hk t (by simp) o e
  |false=>rw[if_neg xq]at q ⊢;exact q.at λo e=>hk t (by simp) o e⟩
 item:=λi s Q E hi st hQ=>absurd st.1 (Xj hi)
 done:=λs Q E st hE=>Ma hh st.2.1 st.2.2 hn hE
end
noncomputable abbrev eh2(h:aE)(lst:Bool)(t:ai):aE:=(zh1 h lst t).push { cls:=.type "enumerate",data:=.fields #[.none,.bool a9,.ref h.objs.size,cQ 0,.none,.none] }
def jdq {lst:Bool} (t:ai) (its:Array ah):jV (cC.«enumerate.__new__» ⟨[.type "enumerate",.ref t],[]⟩) (λ_ R s=>jo lst s.heap t its/\R (.ok (.ret (.ref (zh1 s.heap lst t).objs.size))) { s with heap:=eh2 s.heap lst t }) :=
 .of_wp λprog w A R s h=>by
  obtain⟨hp,g,d,tk,os⟩:=s;obtain⟨h1,h⟩:=h;have hsub:=sub_enumerate;have e1:jo lst (Shared.heap ⟨hp,g,d,tk,os⟩) t its:=h1;have ld:∃o:d7,hp.get? t=a8 o:=by
   unfold jo at e1;cases lst with
   |true=>rw[if_pos rfl]at e1;obtain⟨o,e,_⟩:=e1;exact⟨o,e⟩
   |false=>rw[if_neg xq]at e1;obtain⟨o,e,_⟩:=e1;exact⟨o,e⟩
  obtain⟨o,ho⟩:=ld
  wp_walk using bY ho
  refine wpAny_stack_any λstk=>?_;refine ar ?_;split
  .rename_i cl _ _ _ _ _;cases(cl==eE "enumerate")
   .wp_walk using bY ho,Yy e1
    exact⟨_,rfl,h⟩
   .wp_walk using bY ho,Yy e1
    exact⟨_,rfl,h⟩
  .wp_walk using bY ho,Yy e1
   exact⟨_,rfl,h⟩
noncomputable def Ite(K:k9k)(lst:Bool)(t:ai):It :=
 ⟨λi H=>∃xs x,SqB K lst H t xs/\xs[i]?=a8 x,
 λi H v H'=>∃p x,v=.ref p/\H p=af/\H'=upd H p (.tup [.int (i:Int),x])/\∀xs,SqB K lst H t xs->xs[i]?=a8 x,
 λi H=>∃xs,SqB K lst H t xs/\xs.length<=i⟩
variable{K:k9k}{t:ai}
def j8t{P:az}{w:aD}{es:List av}{n:Nat}{pos:aP}{lst:Bool}{z j:ai}(hzj:z≠j)(hzt:z≠t)(htj:t≠j) :
  Turn P w K (.Tuple es n pos) (Ite K lst t) [z,j] z (λi h=>(∃old,IsEnum h z j (i:Nat) old)/\jq lst h j t i) where
 mem:=by simp
 obj:=λi h ⟨⟨old,hz⟩,h1⟩ c hc=>by
  simp at hc;rcases hc with rfl|rfl
  .exact⟨_,hz,λv e=>by cases e⟩
  .exact h1.obj
 keep:=λi h h' ⟨⟨old,hz⟩,h1⟩ k=>⟨⟨old,k z (by simp) _ hz⟩,h1.stay λo e=>k j (by simp) o e⟩
 item:=by
  rintro X hP hw hK hc i pins s σ H E I hf ⟨⟨old,hz⟩,h1⟩ ⟨xs,x,sx,hx⟩;subst hP hw hK;obtain⟨us,ru,qu,_⟩:=I.side sx;obtain⟨u,hu,rx⟩:=ru.get hx;have hlt:i<us.toArray.size:=by obtain⟨h,_⟩:=Xe.mp hu;simpa using h
  refine wpAny_pyNext_enum_itemD (j83 (A:=X.A.in1) (I.ok.hd hc) htj) hz ⟨h1,qu⟩ hlt hzj (by simp[hzj,hzt]) λv h' tk hv ho st ht sz kp=>⟨_,rfl,?_⟩
  have ev:u=v:=by
   have:us.toArray[i]?=a8 u:=by simpa using hu
   rw[this]at hv;exact ax hv
  subst ev;refine wpAny_letOwnedTupleGo_enum (s:={ s with heap:=h',toks:=tk+1 }) ho λh'' z'' sb=>?_
  replace sb:cM z h' h'':=sb
  have zlt:z<s.heap.objs.size:=X4 hz;have kp':∀c o,c∉[z,j]->s.heap.get? c=a8 o->h''.get? c=a8 o:=λc o nc e=>by simp at nc;exact sb.extBut _ _ nc.1 (kp c o nc.1 nc.2 e)
  have pt:iz h'' s.heap.objs.size [.int i tk,u].toArray:=⟨_,sb.extBut _ _ (Pr zlt) ht,rfl,_,rfl⟩
  have I2:=(I.chgT hf kp' (xs:=[.int (i:Int),x]) (.cons ⟨tk,rfl⟩ (.cons rx .nil)) (by show 2<=aw;decide) pt (Vh.of (sb.extBut _ _ (Pr zlt) ht))).tok (tk+1);refine⟨.ref s.heap.objs.size,_,I2,rfl,⟨_,x,rfl,I.fresh,rfl,λws hw=>by rw[I.side_inj hw sx];exact hx⟩,⟨⟨u,?_⟩,st.1.ext sb.extBut (bu hzj)⟩,λc hc=>?_⟩
  .have e:((i+1:Nat):Int)=(i:Int)+1:=by push_cast;rfl
   rw[e];exact z''
  .obtain⟨o,e⟩:∃o,s.heap.get? c=a8 o:=by
    simp at hc;rcases hc with rfl|rfl
    .exact⟨_,hz⟩
    .obtain⟨o,e,_⟩:=h1.obj;exact⟨o,e⟩
   rw[jk (Xj (X4 e))];exact(hf c hc).1
 done:=by
  rintro X hP hw hK hc i pins s σ H E I hf ⟨⟨old,hz⟩,h1⟩ ⟨xs,sx,hend⟩;subst hP hw hK;obtain⟨us,ru,qu,_⟩:=I.side sx;have e1:=ru.length;have hn:us.toArray[i]?=af:=by simp;omega
  refine wpAny_pyNext_enum_endD (jak (A:=X.A.in1) (I.ok.hd hc) htj hn) hz ⟨rfl,h1,qu⟩ λh' kp=>⟨rfl,I.chg hf λc o nc e=>?_⟩
  simp at nc;exact kp c o nc.2 e
 self:=λ_ _ _ _ _ ⟨⟨old,hz⟩,_⟩ h=>lK hz h
variable{i:Nat}
section
variable{X:Cx}{ρ:Rho}{a b:av}{es:List av}{n:Nat}{pos p q1 q2:aP}{ds ds':List D}{lst:Bool}
noncomputable def vf(ds:List D):List D:=ds.zipIdx.map λp=>D.tup [.int (p.2:Int),p.1]
def Wl:(vf ds)[i]?=(ds[i]?).map λd=>D.tup [.int (i:Int),d]:=by unfold vf;rw[xm,List.getElem?_zipIdx];cases ds[i]?<;>simp
def jaf{F:Hp}{xs:List V}(s1:SqB K lst F t xs)(e1:j4 K F ds xs):Ub K F (Ite K lst t) (vf ds):=λi H A g hA=>by
 have s1':SqB K lst H t xs:=jw.seqB (g.seqB s1);have hl:(vf ds).length=ds.length:=by unfold vf;rw[xg,cE]
 refine⟨λh=>?_,λh=>⟨xs,s1',?_⟩,λv H' ⟨p,x,ev,np,eH,hx⟩=>?_⟩
 .rw[hl]at h;obtain⟨x,hx,_⟩:=e1.get (kh h);exact⟨xs,x,s1',hx⟩
 .rw[hl]at h;rw[e1.length];exact h
 .subst eH;refine⟨j6 np,λd hd=>?_⟩;rw[Wl]at hd;cases z:ds[i]? with
  |none=>rw[z]at hd;cases hd
  |some d1 =>rw[z]at hd;cases hd;obtain⟨x',hx',ex⟩:=e1.get z;have q1:=hx xs s1';rw[hx']at q1;have q1:=ax q1;subst q1;have pA:p∉A:=λz=>hA p z np;have gg:j0 F (del (upd H p (.tup [.int (i:Int),x'])) A):=g.trans (jg (j6 np));exact⟨p,[.int (i:Int),x'],ev,.inl (.inl (by rw[j5 pA];exact j8)),.int (i:Int),[x'],rfl,rfl,x',[],rfl,ex.mono gg,rfl⟩
def DI.enum (lst:Bool) (ha:DE X ρ a (D.seq lst ds)) (hm:X.mg "enumerate" = af) (hg:Gl X "enumerate") (hs:aj [a] X.env=[(a9,aC a X.env)]):DI X ρ (.Tuple es n q1) (.Call (.Name "enumerate" p) [a] [] pos) (vf ds):=λσ H R r q pins s I=>by
 have args:Cw X [a] σ H (λvs H'=>∃v,vs=[v]/\j0 H H'/\Enc X.K (del H' (owns ρ)) (D.seq lst ds) v) :=
  (ji peS qb hs).to (ha σ H _ r λv H1 g1 e1=>⟨v,rfl,g1,e1⟩)
 refine Call_ (Jl I hg hm boot_enumerate (callWith_type1 (thn (args pos pins s I) λus s1 h1=>?_) hs rfl));obtain⟨vs,H1,I1,r1,v,ev,g1,e1⟩:=h1;subst ev;obtain⟨t,xs,et,sq,en⟩:=Zr e1;subst et;obtain⟨u1,eu,ru1⟩:=r1.one;subst eu;cases ru1;obtain⟨w1,rw1,qw1,_⟩:=I1.side (jw.seqB sq);refine callType_new F.called_enumerate (by decide) (F.typeCall_enumerate_1 _) (F.newCall_enumerate_1 _) (λobj=>k8 obj _) F.entry_enumerate_new (jdq (lst:=lst) t w1.toArray) ⟨qw1,?_⟩;have z1:(zh1 s1.heap lst t).objs.size=s1.heap.objs.size+1:=Pq ..;have b2:(eh2 s1.heap lst t).get? (zh1 s1.heap lst t).objs.size=a8 _:=X3 _ rfl;have b1:(eh2 s1.heap lst t).get? s1.heap.objs.size=a8 _:=xj _ (X3 _ rfl);have kp:∀c o,s1.heap.get? c=a8 o->(eh2 s1.heap lst t).get? c=a8 o:=λc o e=>xj _ (xj _ e);show _/\_;rw[z1]at b2 ⊢;have I2:Inv X pins σ H1 { s1 with heap:=eh2 s1.heap lst t }:=I1.kept (t':=s1.toks) kp;have lt1:t<s1.heap.objs.size:=by
  unfold jo at qw1;cases lst with
  |true=>rw[if_pos rfl]at qw1;obtain⟨_,e,_⟩:=qw1;exact X4 e
  |false=>rw[if_neg xq]at qw1;obtain⟨_,e,_⟩:=qw1;exact X4 e
 have side:jq lst (eh2 s1.heap lst t) s1.heap.objs.size t 0:=by
  unfold jq;cases lst with
  |true=>rw[if_pos rfl];exact⟨_,b1,rfl,rfl⟩
  |false=>rw[if_neg xq];exact⟨_,b1,rfl,rfl⟩
 refine⟨⟨_,b2,rfl⟩,lK (s:={ s1 with heap:=eh2 s1.heap lst t }) b2 ?_⟩;refine⟨_,_,_,Ite X.K lst t,H1,rfl,I2,j8t (j:=s1.heap.objs.size) (Nat.succ_ne_self _) (Pr (gm lt1)) (Xj lt1),⟨⟨_,b2⟩,side⟩,λc hc=>?_,q _ H1 g1 (jaf sq en)⟩;have hc':c=s1.heap.objs.size+1\/c=s1.heap.objs.size:=by simpa using hc
 have hge:s1.heap.objs.size<=c:=by rcases hc' with e|e<;>rw[e]<;>first|exact X8 _|exact kN _ _
 obtain⟨f0,f1,f2,f3,f4,f5⟩:=I1.fpOk hge (I1.hok.fresh hge);exact⟨f0,f1,f2,f3,f4,f5⟩
end
section
variable{X:Cx}
def jcq:OpR X (bh .FloorDiv) (rI (λ_ j=>0<j/\j<18446744073709551616) λi j=>.int (i/j)):=opI λi j _ _ _ _ _ hc q=>by
 have e:i/j=i.fdiv j:=by rw[ik _ nofun]
 refine floordiv_int nofun (by rw[<-e];exact q) (.inl (PyProof.noPylong_of_log2 ?_))
 have h2:(2:Nat)^64=18446744073709551616:=by decide
 have:=(Nat.log2_lt (n:=j.natAbs) (k:=64) nofun).mpr (by rw[h2];omega);omega
def ja7 (hu:X.A.units+100<aU):MtR X "list.count" (λx vs H Q=>∃t xs ds d y,x=.ref t/\vs=[y]/\SqL X.K H t xs/\j4 X.K H ds xs/\Enc X.K H d y/\D.depL ds<=97/\d.dep<10000/\Q (.int (ds.countP λe=>deq e d)) H):=by
 rintro pins s σ H x vs v us Q I rx rv ⟨t,xs,ds,d,y,e,e',sq,l,en,hd,nd,q⟩;subst e e';cases rx;obtain⟨u,eu,ru⟩:=rv.one;subst eu;obtain⟨its,ri,⟨⟨cl,dd,da,sl⟩,n,h1,h2,h4,h3⟩,_⟩:=I.list sq;have h2:cl=.type "list":=h2;have h3:da=.seq its.toArray n:=h3;subst h2 h3;refine bD jB ⟨_,h1,rfl⟩ F.entry_list_count (F.args_list_count_2 _ _) (SeqAt.list_countAt t its.toArray n dd sl u (eqW X H d)) ⟨h1,λy hy=>Y8 (n:=97) I en ru nd (by show X.A.units+1+97<aU;omega) hd l ri y (by simpa using hy),?_⟩;have ev:(its.toArray.toList.countP (eqW X H d):Nat)=ds.countP λe=>deq e d:=by rw[fB];exact O2 I nofun l ri
 rw[ev];exact⟨.int _,H,I.tok _,⟨_,rfl⟩,q⟩
end
section
variable{X:Cx}{ρ:Rho}{a b e:av}{d d':D}{ds:List D}{i j:Int}{pos p p1 p2:aP}{P:Po}
def DE.fdivB(ha:DT X ρ a (.int i))(hb:DT X ρ b (.int j))(h:0<j/\j<18446744073709551616):DE X ρ (.BinOp a .FloorDiv b pos) (.int (i/j)):=DE.arI (g:=λi j=>i/j) jcq ha hb h
def DE.countL (hu:X.A.units+100<aU) (ha:DT X ρ a (.lst ds)) (hb:DT X ρ b d) (hd:D.depL ds<=97) (nd:d.dep<10000) (hbase:aL a "count" X.env (aC a X.env)=aC a X.env)
  (hfew:((aR p2 (aj [b] X.env)).all (λx=>!x.1)&&(br p2 (aV [] X.env)).all (λx=>x.1.isSome)
   && decide (([b]:List av).length+([]:List aS).length+(if ([]:List aS).isEmpty then 0 else 1)<30))=ae) (hline:(p1.endLine==p2.line)=ae)
  (hs:aj [b] X.env=(a9,aC b X.env)::aj [] X.env):DE X ρ (.Call (.Attribute a "count" p1) [b] [] p2) (.int (ds.countP λe=>deq e d)):=λσ H Q R q =>
 (Ud Tn jB PySem.F.type_list_count (ja7 hu) peS (ji peS qb hs) hbase hfew hline hs rfl).to (ha σ H _ R λv H1 g1 ⟨t,xs,e,sq,l⟩=>⟨by rw[e];exact .inl ⟨rfl,xs,sq⟩,hb σ H1 _ (R.grow g1) λu H2 g2 e2 =>
  ⟨t,xs,ds,d,u,e,rfl,g2.seq sq,l.mono g2,e2,hd,nd,q _ H2 (g1.trans g2) rfl⟩⟩)
end
noncomputable def ddS(acc:List au)(v:au):List au:=if acc.any (· == v)=ae then acc else acc++[v]
noncomputable def dd(ts:List au):List au:=ts.foldl ddS []
def ji8(ts:List au)(v:au):dd (ts++[v])=ddS (dd ts) v:=by simp[dd]
theorem Ek:∀(ts acc:List au),(ts.foldl ddS acc).length<=acc.length+ts.length
 |[],acc=>by simp
 |v::ts,acc=>by
  have h:=Ek ts (ddS acc v);have h2:(ddS acc v).length<=acc.length+1:=by unfold ddS;split<;>simp
  rw[Tp,xx];omega
def V4(P:az)(w:aD)(h:aE)(S:ai)(ts:List au):Prop:=h.SetOf (dO P w) S (λk=>(dd ts).any (· == k)) (dd ts).length
section
variable{P:az}{w:aD}{A:aF}{I S:ai}{fp wr:List ai}{Gn:Array fX->Array fX->Prop}{Pv:Nat->ah->Prop}{St:Nat->aq->Prop}{ts:List au}
def V4.stay{h h':aE}(x:V4 P w h S ts)(k:∀o,h.get? S=a8 o->h'.get? S=a8 o):V4 P w h' S ts:=by obtain⟨o,es,ep,t,ho,r⟩:=x;exact⟨o,es,ep,t,k o ho,r⟩
def V4.more{h:aE}{v:au}(x:h.SetOf (dO P w) S (λk=>(dd ts).any (· == k) || decide (k=v)) (if (dd ts).any (· == v)=ae then(dd ts).length else(dd ts).length+1)):V4 P w h S (ts++[v]):=by
 unfold V4;rw[ji8];have e1:(λk=>(ddS (dd ts) v).any (· == k))=λk=>(dd ts).any (· == k) || decide (k=v):=by
  funext k
  unfold ddS;by_cases h1:(dd ts).any (· == v)=ae
  .rw[if_pos h1];by_cases h2:k=v
   .subst h2;rw[h1];rfl
   .rw[decide_eq_false h2,lE]
  .rw[if_neg h1,List.any_append];congr 1;by_cases h2:k=v
   .subst h2;simp
   .have:¬v=k:=λz=>h2 z.symm;simp[h2,this]
 have e2:(ddS (dd ts) v).length=if (dd ts).any (· == v)=ae then(dd ts).length else(dd ts).length+1:=by unfold ddS;split<;>simp
 rw[e1,e2];exact x
def fill{R:fh->aq->Prop}(W:WalksS P w A.in1 I fp wr Gn ts.length Pv St)(out:S∉fp)(hv:∀i v,Pv i v->∃x t,ts[i]?=a8 x/\v=.str x t)(room:ts.length+1<ic):∀(r i:Nat)(q:aq),i+r=ts.length->St i q->V4 P w q.heap S (ts.take i) ->
  (∀q',Moved (S::wr) Gn q q'->V4 P w q'.heap S ts->R (.ok (.ret .none)) q')->bZ (aB P w) A (.builtin "set.update.loop" ⟨[.ref S,.ref I],[]⟩) R q:=by
 have outw:S∉wr:=λz=>out (W.sub S z);have wider:∀b∈wr,b∈S::wr:=λb z=>xn S z;intro r;induction r with
 |zero =>intro i q hi st fu fin;have e:i=ts.length:=hi;subst e;refine b8 dU ?_;rw[T5 bO _];refine aa (m:=cZ (.ref I)) (W.done q _ _ st λq' mv=>?_);refine ar (fin q' (mv.mono wider) ?_);rw[S7]at fu;exact fu.stay λo z=>mv.heap S o outw z
 |succ r ih =>
  intro i q hi st fu fin;have lt:i<ts.length:=by omega
  refine b8 dU ?_;rw[T5 bO _];refine aa (m:=cZ (.ref I)) (W.item i q _ _ lt st λv q' pv st' mv=>?_);obtain⟨x,t,hx,ev⟩:=hv i v pv;subst ev;have fu':V4 P w q'.heap S (ts.take i):=fu.stay λo z=>mv.heap S o outw z;refine aa (m:=cN [bV x t] (setAdd S (.str x t))) (bA ?_);unfold setAdd;refine bA (aa ((dO P w).pyHash (k:=x) (strKind_is P w x t) ?_));have small:(dd (ts.take i)).length+1<ic:=by
   have:=Ek (ts.take i) [];have e:(dd (ts.take i)).length<=i:=by
    have:([]:List au).length+(ts.take i).length<=i:=by rw[pq,Tg];omega
    exact Xn (Ek (ts.take i) []) this
   omega
  refine wpAny_setAddHashed_of (knd:=dO P w) (strKind_is P w x t) rfl fu' small λh' sb full2=>?_;have next:V4 P w h' S (ts.take (i+1)):=by rw[Te,hx];exact V4.more full2
  refine ar ⟨cL bO _,ih (i+1) _ nofun (W.frame _ q' _ _ st' (de _) λb hb o e=>?_) next λq2 mv2 full3=>?_⟩
  .have ne:b≠S:=λz=>out (z▸hb);rw[sb.2 b ne];exact e
  .refine fin q2 (Moved.trans W.gtrans ((mv.mono wider).then_heap (de _) λb o hb e=>?_) mv2) full3;have ne:b≠S:=λz=>hb (by rw[z];exact X6 ..);rw[sb.2 b ne];exact e
end
variable{l:ai}{ts:List au}{Q:k9l}
section
variable{P:az}{w:aD}{A:aF}{E:k9l}{s:aq}
noncomputable abbrev Q8(led:Bool):d7:={ cls:=.type "set",dict:=af,data:=.set #[] 0 (.fresh 0 0 led) }
def jdd{led:Bool}{its:Array ah}{X:mW->aq->Prop}{Y:k9l}(hh:A.handled=af)(hl:s.heap.IsList l its)(hts:∀(i:Nat)(v:ah),its[i]?=a8 v->∃x t,ts[i]?=a8 x/\v=.str x t)(hn:its.size=ts.length)(room:ts.length+1<ic)
  (q:∀h' tk,V4 P w h' s.heap.objs.size ts->(∀b o,b<s.heap.objs.size->s.heap.get? b=a8 o->h'.get? b=a8 o)->X (.done (.ret .none)) { s with heap:=h',toks:=tk }) :
  ay (aB P w) A.in1 (cC.«set.__init__» ⟨[.ref s.heap.objs.size,.ref l],[]⟩) X Y { s with heap:=s.heap.push (Q8 led) }:=by
 obtain⟨⟨oc,od,oda,os⟩,e1,e2,n,e3⟩:=hl;have e2:oc=.type "list":=e2;have e3:oda=.seq its n:=e3;subst e2 e3;have here:(s.heap.push (Q8 led)).get? s.heap.objs.size=a8 (Q8 led):=X3 _ rfl;have lst:(s.heap.push (Q8 led)).get? l=a8 { cls:=.type "list",dict:=od,data:=.seq its n,slots:=os }:=xj _ e1;have ne1:=PySem.F.sub_list_set;have ne2:=PySem.F.sub_list_frozenset;have ne3:(eE "list" == eE "dict")=a9:=by decide
 have isl:(s.heap.push (Q8 led)).IsList l its:=⟨_,lst,rfl,n,rfl⟩
 unfold cC.«set.__init__» noKeywords Builtin.Frozenset.updateFrom;generalize keep:iW=PI
 wp_walk
 subst keep;refine bJ isl (aa (iT ?_));have lt:l<s.heap.objs.size:=X4 e1;have sz:(s.heap.push (Q8 led)).objs.size=s.heap.objs.size+1:=Pq ..;have walk:=(Walks.list (prog:=P) (w:=w) (A:=A.in1.in1) (by simp[hh]) (s.heap.push (Q8 led)).objs.size l (by rw[sz];exact Xj (gm lt)) its).toS;rw[hn]at walk;refine fill (ts:=ts) (S:=s.heap.objs.size) walk (λz=>?_) hts room ts.length 0 { s with heap:=(s.heap.push (Q8 led)).push { cls:=.type "list_iterator",data:=.fields #[.ref l,.int 0 0] } } nofun ⟨⟨_,X3 _ rfl,rfl,rfl⟩,isl.push _⟩ ?_ λq' mv full=>?_
 .rw[sz]at z;rcases Xb.mp z with z|z
  .exact Xj (d5 _) z
  .exact Pr lt (xu.mp z)
 .have z:V4 P w (s.heap.push (Q8 led)) s.heap.objs.size []:=(setObjOf_fresh (knd:=dO P w) led).setOf here (by unfold ic;omega);exact z.stay λo e=>xj _ e
 .obtain⟨h',g',d',tk',os'⟩:=q';obtain⟨m1,m2,m3,m4,m5⟩:=mv;cases m2;cases m3;cases m4;refine ar (ar (q h' tk' full λb o hb e=>m1 b o ?_ (xj _ (xj _ e))));intro z;rw[sz]at z;rcases Xb.mp z with z|z
  .exact Xj hb z
  .exact Xj (gm hb) (xu.mp z)
def jb5{its:Array ah}(hh:A.handled=af)(hl:s.heap.IsList l its)(hts:∀(i:Nat)(v:ah),its[i]?=a8 v->∃x t,ts[i]?=a8 x/\v=.str x t)(hn:its.size=ts.length)(room:ts.length+1<ic)
  (q:∀h' tk,V4 P w h' s.heap.objs.size ts->(∀b o,b<s.heap.objs.size->s.heap.get? b=a8 o->h'.get? b=a8 o)->Q (.ref s.heap.objs.size) { s with heap:=h',toks:=tk }):ay (aB P w) A (call (.type "set") [.ref l]) Q E s:=by
 have cs:=PySem.F.called_set;obtain⟨c0,tl0,hm0⟩:=cs.mro;have m1:=cs.made;have m2:=cs.sub;have m3:=cs.notType;have m4:=cs.canCreate;have m5:=PySem.F.typeCall_set_1 (.ref l);refine iU (mV (?_:ay _ _ (callAny (.type "set") _) _ _ _));refine ar ⟨Code.quiet_builtin _ (by decide +kernel),b8 PySem.F.entry_type_call ?_⟩;rw[Around.under_plain (weight_type_call_type "set" [.ref l] []) rfl]
 repeat (any_goals (first|assumption|wp_step))
 refine bK (PySem.code_set_new_1 (.ref l) (E:=E) (Q₁:=λo q1=>∃led:Bool,o=.ref s.heap.objs.size/\q1={ s with heap:=s.heap.push (Q8 led) }) λled=>⟨led,rfl,rfl⟩) λr q1 hr=>?_;cases r with
 |error e=>exact hr
 |ok fl =>
  cases fl with
  |ret o =>
   obtain⟨led,eo,eq1⟩:=hr;subst eo eq1;have ty:Shared.TypeIs { s with heap:=s.heap.push (Q8 led) } (.ref s.heap.objs.size) "set":=⟨_,X3 _ rfl,rfl⟩
   have m6:=cs.init.lookup;have m7:=cs.init.bind (.ref s.heap.objs.size)
   repeat (any_goals (first|assumption|wp_step))
   refine bK (codeAny_call_builtin (R:=wants (λr q2=>r=.none/\∃h' tk,q2={ s with heap:=h',toks:=tk }/\V4 P w h' s.heap.objs.size ts/\∀b o,b<s.heap.objs.size->s.heap.get? b=a8 o->h'.get? b=a8 o) E) cs.init.plain PySem.F.entry_set_init (PySem.check_set_init_1 ty ?_)) λr2 q2 hr2=>?_
   .exact jdd (led:=led) (by simp[hh]) hl hts hn room λh' tk full old=>⟨rfl,h',tk,rfl,full,old⟩
   .cases r2 with
    |error e=>exact hr2
    |ok fl2 =>
     cases fl2 with
     |ret r3 =>
      obtain⟨e3,h',tk,e4,full,old⟩:=hr2;subst e3 e4
      repeat (any_goals (first|assumption|wp_step))
      exact q _ _ full old
     |_=>exact hr2.elim
  |_=>exact hr.elim
end
section
variable{X:Cx}{ρ:Rho}{a:av}{p p1 p2 pos:aP}
def DE.lenSet  (ha:DT X ρ a (.lst (ts.map D.str))) (hc:X.calm=ae) (room:ts.length+1<4096) (hm:X.mg "len" = af) (hm2:X.mg "set" = af) (hg:Gl X "len") (hg2:Gl X "set") (hs:aj [a] X.env=[(a9,aC a X.env)])
  (hs2:aj [.Call (.Name "set" p1) [a] [] p2] X.env=[(a9,aC (.Call (.Name "set" p1) [a] [] p2) X.env)]):DE X ρ (.Call (.Name "len" p) [.Call (.Name "set" p1) [a] [] p2] [] pos) (.int (dd ts).length):=λσ H Q R q pins s I=>by
 have inner:ay (aB X.prog X.w) X.A (aC (.Call (.Name "set" p1) [a] [] p2) X.env) (λu s2=>∃(S:ai)(H1:Hp),u=.ref S/\Inv X pins σ H1 s2/\j0 H H1/\V4 X.prog X.w s2.heap S ts) X.xe s:=by
  refine aM (Jl I hg2 hm2 boot_set ?_);refine callWith_type1 (thn ((ji (es:=[]) peS qb hs).to (σ:=σ) (H:=H) (Q:=λvs H1=>∃(l:ai)(xs:List V),vs=[.ref l]/\j0 H H1/\SqL X.K H1 l xs/\j4 X.K H1 (ts.map D.str) xs) (ha σ H _ R λv H1 g ⟨l,xs,e,sq,en⟩=>⟨l,xs,by rw[e],g,sq,en⟩) p2 pins s I) λus s1 ⟨vs,H1,I1,r,l,xs,ev,g,sq,en⟩=>?_) hs rfl;subst ev;obtain⟨u,eu,r1⟩:=vals1 r;subst eu;cases(show u=aI l from r1);obtain⟨its,rv,pl,_⟩:=I1.list sq;rw[Yz en]at rv;have hlen:its.toArray.size=ts.length:=by rw[Xd,<-rv.length,xg]
  refine jb5 (ts:=ts) (I1.ok.hd hc) pl.isList (λi v hv=>?_) hlen (by show ts.length+1<4096;exact room) λh' tk full old=>?_
  .have hi:i<ts.length:=by have:=(Array.getElem?_eq_some_iff.mp hv).1;omega
   obtain⟨w1,hw,t,ew⟩:=rv.get (x:=.str ts[i]) (i:=i) (by rw[xm,kh hi];rfl);have:its.toArray[i]?=a8 w1:=by simpa using hw
   rw[this]at hv;cases hv;exact⟨ts[i],t,kh hi,ew⟩
  .exact⟨_,H1,rfl,I1.kept (t':=tk) λb o e=>old b o (X4 e) e,g,full⟩
 refine aM (Jl I hg hm du ?_);refine cJ (by rw[hs2];rfl) (eX ?_);show ay _ _ (iL ((a9,aC _ X.env)::aR pos [])) _ _ s;refine dm (thn inner λu s2 h2=>dM ?_);obtain⟨S,H1,rfl,I2,g,⟨o,es,ep,t,ho,hex,hd,hel,hmem,hb,hf,hn⟩⟩:=h2;refine call_len_set ho hex hd hf ?_ ?_
 .have:es.size<4096:=hb;omega
 .rw[hn];exact⟨.int _,H1,I2.tok _,⟨_,rfl⟩,q _ H1 g rfl⟩
end
variable{xs:List (zo×ai×ah)}{pins:k9m}{σ:St}{H:Hp}{s:aq}{x:au}
section
variable{X:Cx}{ρ:Rho}{a b:av}{es:List av}{n:Nat}{pos p p1 p2 q1:aP}{ks:List zo}{ds:List D}{k:zo}
theorem j4p{P:az}{w:aD}:∀{ks:zo}{us:List ah},Vals (ks.map V.int) us->ItemsAre (ff P w) ks us
 |[],_,r=>by rw[eK]at r;cases r;exact .nil
 |k::ks,_,r=>by
  rw[X7]at r;cases r with
  |cons h t =>
   obtain⟨tk,e⟩:=(show ∃t,_=bB k t from h)
   subst e;exact .cons (by simp[ff,lI]) (j4p t)
def j10(I:Inv X pins σ H s)(sq:SqT X.K H t (k.map V.int)):(fZ (ff X.prog X.w)).is s.heap k t:=by obtain⟨its,rv,⟨o,e1,e2,m,e3⟩,_⟩:=I.tuple sq;exact⟨o,its.toArray,m,e1,e2,e3,by simpa using j4p rv⟩
def j6u{d:ai}{ep:Nat}(I:Inv X pins σ H s)(hx:H d=a8 (.dI xs ep))(kt:∀x∈xs,SqT X.K H x.2.1 (x.1.map V.int)) :
  (d==fe)=a9/\xs.length<=aw/\s.heap.DictOfH (fZ (ff X.prog X.w)) d xs:=by
 obtain⟨z1,z2,z3,od,en,h1,h2,h3,h4⟩:=(show jm X.prog X.w H s.heap d (.dI xs ep)from I.hok _ _ hx)
 exact⟨z2,z1,od,en,ep,h1,h2,h3,h4,λx hx=>j10 I (kt x hx),z3⟩
def jbj:(kK xs k).isSome=(xs.map λx=>x.1).contains k:=by
 induction xs with
 |nil=>rfl
 |cons x xs ih =>
  unfold kK at ih ⊢;rw[Option.isSome_map]at ih ⊢;rw[kR,X7,k5];by_cases z:x.1=k
  .simp[z]
  .have z':(k==x.1)=a9:=by simp;exact λe=>z e.symm
   rw[decide_eq_false z,z',lG];exact ih
theorem any_range:∀bs:List Bool,(ao bs.length).any (λi=>(bs[i]?).getD ae)=bs.any id
 |[]=>rfl
 |b::bs=>by rw[xx,Sd,d6,List.any_map,d6,<-any_range bs];rfl
def j61 (hc:X.calm=ae):Z0 X (.builtin "any") (λxs H Q=>∃(l:ai)(bs:List Bool),xs=[.ref l]/\SqL X.K H l (bs.map V.bl)/\Q (.bl (bs.any id)) H):=by
 intro pins s σ H xs us Q I r ⟨l,bs,e,sq,q⟩;subst e;obtain⟨u,eu,ru⟩:=vals1 r;subst eu;cases ru;obtain⟨its,rv,pl,_⟩:=I.list sq;have hlt:l<s.heap.objs.size:=by obtain⟨_,_,e,_⟩:=pl;exact X4 e
 have hl:its.length=bs.length:=by rw[<-rv.length,xg]
 refine call_any_walk (bJ pl.isList ⟨s.heap.objs.size,[s.heap.objs.size,l],[s.heap.objs.size],its.toArray.size,_,_,λi=>(bs[i]?).getD ae,rfl,Walks.list (A:=X.A.in1) (I.ok.hd hc) _ _ (Xj hlt) its.toArray,⟨⟨_,X3 _ rfl,rfl,rfl⟩,pl.isList.push _⟩,?_,λh' tk kp=>?_⟩)
 .intro i v s' Q' E' hv hq;have hi:i<its.length:=by have:=Array.getElem?_eq_some_iff.mp hv;obtain⟨h,_⟩:=this;simpa using h
  have hb:i<bs.length:=by omega
  obtain⟨w1,hw,rw1⟩:=rv.get (x:=.bl bs[i]) (i:=i) (by rw[xm,kh hb];rfl);have:its.toArray[i]?=a8 w1:=by simpa using hw
  rw[this]at hv;cases hv;cases rw1;simp only[kh hb,dW]at hq;exact bI hq
 .have ev:(ao its.toArray.size).any (λi=>(bs[i]?).getD ae)=bs.any id:=by rw[Xd,hl];exact any_range bs
  rw[ev];refine⟨.bl _,H,I.kept (t':=tk) λb o e=>kp b o ?_ (xj _ e),rfl,q⟩;intro z;rw[xu.mp z]at e;exact Py _ (X4 e)
theorem DE.any {bs:List Bool} (ha:DT X ρ a (.lst (bs.map D.bl))) (hm:X.mg "any" = af) (hc:X.calm=ae) (hg:Gl X "any") (hs:aj [a] X.env=[(a9,aC a X.env)]):DE X ρ (.Call (.Name "any" p) [a] [] pos) (.bl (bs.any id)):=λσ H Q R q =>(Jx (j61 hc) hg hm boot_any (ji peS qb hs) (by decide) (by decide) hs).to (ha σ H _ R λv H1 g1 ⟨l,xs,e,sq,en⟩=>⟨l,bs,by rw[e],by rw[Ly en]at sq;exact sq,q _ H1 g1 rfl⟩)
def DS.unp{j:Nat}{y:au}{e:av}{P:Po}{d d':D}(hij:i≠j)(he:DE X ρ e (.tup [d,d']))(h:P.nx ((ρ.set i (.val d)).set j (.val d')))(hc:X.calm=ae)(hN:X.N.Nodup)(hi:X.N[i]?=a8 x)(hj:X.N[j]?=a8 y)(hx:Loc X.env.scope x)(hy:Loc X.env.scope y)
  (fx:X.fn x=ae\/X.env.scope.names.lookup x=a8 .local) (fy:X.fn y=ae\/X.env.scope.names.lookup y=a8 .local)
  (hs:eL [.Tuple [.Name x p1,.Name y p2] n q1] e pos.line X.env=pure a9) (hw:eM [.Tuple [.Name x p1,.Name y p2] n q1] e X.env=pure af) :
  DS X ρ (.Assign [.Tuple [.Name x p1,.Name y p2] n q1] e pos) P:=λσ H E R q=>by
 refine(j9e peS pgS hs hw).to (he σ H _ R λv H1 g1 e1=>?_);obtain⟨sub,hG⟩:=DG.pair (ρ:=ρ) (q1:=p1) (q2:=p2) (n:=n) (pos:=q1) (d:=d) (d':=d') i j hij hN hi hj hx hy fx fy hc;exact hG σ H1 v _ (R.grow g1) e1 λσ' R'=>q.nx _ σ' H1 h R' (j0.trans (Fr0.grow g1) (Fr0.drop sub))
end
def jni:TE:=λ_ H Q=>∀p,H p=af->Q (.ref p) (upd H p (.dI [] 0))
def jnr(K:k9k)(td ty tv:TE):TS:=λD σ H=>tv σ H λv H1=>td σ H1 λx H2=>ty σ H2 λy H3 =>
 ∃(a b:ai)(xs:List (zo×ai×ah)) (ep:Nat) (k:zo),x=.ref a/\H3 a=a8 (.dI xs ep)/\(∀x∈xs,SqT K H3 x.2.1 (x.1.map V.int))/\y=.ref b/\SqT K H3 b (k.map V.int) /\
  (xs.map λx=>x.1).contains k=a9/\xs.length<aw/\∀u ep',RelV v u->D.nx σ (upd H3 a (.dI (xs++[(k,b,u)]) ep'))
section
variable{X:Cx}{pos pos':aP}{o i value:av}{td ty tv:TE}
def Inv.bigD(I:Inv X pins σ H s):fe<s.heap.objs.size:=by have h:aA<s.heap.objs.size:=(I.mod.glob.keeps I.bk).lt;exact t6 (by decide) h
def j6j:PE X (.Dict [] [] pos) jni:=λpins s σ H Q I h =>
 wpAny_Dict_empty ⟨.ref s.heap.objs.size,_,I.laid (a:=s.heap.objs.size) (o:=.dI [] 0) (t':=s.toks) (λ_ _ q=>xj _ q) (X8 _)
  ⟨S9 _,beq_eq_false_iff_ne.mpr (bu (Xj I.bigD)),dz,_,#[],X3 _ rfl,⟨rfl,rfl,rfl⟩,rfl,rfl⟩,rfl,h _ (I.hok.fresh (X8 _))⟩
def j6h(hu:X.A.units+100<aU)(ho:PE X o td)(hi:PE X i ty)(hv:PE X value tv)(hs:aT value (a8 (.Subscript o i pos')) pos.line X.env=pure a9) :
  PS X (.Assign [.Subscript o i pos'] value pos) (jnr X.K td ty tv):=by
 intro pins s σ H D I h;refine wpAny_Assign_Subscript (thn (hv pins s σ H _ I h) λr s1 ⟨v,H1,I1,rv,q1⟩=>thn (ho pins s1 σ H1 _ I1 q1) λu s2 ⟨x,H2,I2,rx,q2⟩=>thn (hi pins s2 σ H2 _ I2 q2) λiv s3 ⟨y,H3,I3,ry,hq⟩=>?_) hs;obtain⟨a,b,xs,ep,k,ex,hx,kt,ey,sq,nk,hl,q⟩:=hq;subst ex ey;cases rx;cases ry;obtain⟨lo,hz,dd⟩:=j6u I3 hx kt;refine wpAny_setItem_heap (hsz:=hz) (lA nofun) (j10 I3 sq) dd λh' dd' sb=>?_;have na:kK xs k=af:=by
  have:=jbj (xs:=xs) (k:=k);rw[nk]at this;cases z:kK xs k with
  |none=>rfl
  |some _=>rw[z]at this;cases this
 rw[storedH_new na]at dd';obtain⟨ob,es,ep',w1,w2,w3,w4,w5,w6⟩:=dd';refine⟨σ,_,I3.write (x:=a) (e:=a) (o:=.dI (xs++[(k,b,r)]) ep') (t':=s3.toks+(fZ (ff X.prog X.w)).draws k) (by rw[hx];exact True.intro) (.inl rfl) (λc z nc e=>(sb.2 c nc).trans e) ⟨ob,w1⟩ ?_,q r ep' rv⟩;exact⟨by simp;omega,lo,w6,ob,es,w1,w2,w3,w4⟩
end
variable{o:HO}{a:ai}
section
variable{X:Cx}{ρ:Rho}{it e:av}{P:Po}{ds:List D}{x t y:Nat}{nx nt ny:au}{n8:Nat}{p1 p2 p3 p4 p5 p6 p7 p8 p9 p10 p11 p12 p13 p14 p15 p16 p17 p18:aP}
def j66(h:H a=a8 o):H=upd (del H [a]) a o:=funext λb=>by
 by_cases z:b=a
 .subst z;rw[j8];exact h
 .rw[jk z,j5 (by simpa using z)]
def K3(h:H a=af):del (upd H a o) [a]=H:=funext λb=>by
 by_cases z:b=a
 .subst z;rw[qy (by simp)];exact h.symm
 .rw[j5 (by simpa using z),jk z]
def j0r{H F:Hp}(h:H a=a8 o):mrg [a] H F=upd F a o:=funext λb=>by
 by_cases z:b=a
 .subst z;rw[Jj (by simp),j8];exact h
 .rw[jr (by simpa using z),jk z]
end
noncomputable def zj:List zo->List D->zo->Option D
 |k'::ks,d::ds,k=>if k'=k then a8 d else zj ks ds k
 |_,_,_=>af
theorem j6v{K:k9k}{H:Hp}{k:zo}{d:D}:∀{xs:List (zo×ai×ah)} {ds:List D} {vs:List V},Vals vs (xs.map λx=>x.2.2)->j4 K H ds vs->zj (xs.map λx=>x.1) ds k=a8 d->∃p v,kK xs k=a8 p/\RelV v p.2/\Enc K H d v
 |[],_,_,_,_,h=>by cases h
 |x::xs,[],_,_,_,h=>by cases h
 |x::xs,d'::ds,_,rv,⟨v,r,e,h1,l⟩,h=>by
  subst e;rw[X7]at rv h;unfold kK;rw[kR];cases rv with
  |cons a b =>
   rw[zj]at h;by_cases z:x.1=k
   .rw[if_pos z]at h;cases h;rw[decide_eq_true z];exact⟨x.2,v,rfl,a,h1⟩
   .rw[if_neg z]at h;rw[decide_eq_false z];exact j6v b l h
section
variable{X:Cx}{ρ:Rho}{a b:av}{d:D}{ds:List D}{ks:List zo}{k:zo}{pos p p1 p2 p3:aP}
def joh(hu:X.A.units+100<aU):IxR X (λx y H Q=>∃(d:ai)(xs:List (zo×ai×ah)) (ep:Nat) (t:ai) (k:zo) (q:ai×ah) (v:V),x=.ref d/\y=.ref t/\H d=a8 (.dI xs ep)/\(∀x∈xs,SqT X.K H x.2.1 (x.1.map V.int))/\SqT X.K H t (k.map V.int)/\kK xs k=a8 q/\RelV v q.2/\Q v H):=by intro value slice pins s σ H x y v u Q I rx ry h hs;obtain⟨d,xs,ep,t,k,q,w,rfl,rfl,hx,kt,sq,hq,rq,hQ⟩:=h;cases rx;cases ry;obtain⟨lo,hz,dd⟩:=j6u I hx kt;exact nq dd.typeIs slot_dict_getitem.lookup (wpAny_getItem_heap (lA nofun) (j10 I sq) dd hq ⟨w,H,I.tok _,rq,hQ⟩) hs
def DE.dget(hu:X.A.units+100<aU)(ha:DE X ρ a (.dct ks ds))(hb:DT X ρ b (.tup (k.map D.int)))(h:zj ks ds k=a8 d)(hs:Ut b):DE X ρ (.Subscript a b pos) d:=λσ H Q R q =>
 (j35 (joh hu) peS peS hs).to (ha σ H _ R λv H1 g1 ⟨c,xs,ep,vs,e,hx,ek,kt,rv,l⟩=>hb σ H1 _ (R.grow g1) λu H2 g2 ⟨t,ys,e2,sq,l2⟩=>by
  rw[zg l2]at sq
  subst ek
  obtain⟨q',v',z1,z2,z3⟩:=j6v rv (l.mono (jg g2)) h
  exact⟨c,xs,ep,t,k,q',v',e,e2,g2 _ _ (of_del hx).2,λx hx=>g2.seqT (jw.seqT (kt x hx)),sq,z1,z2,q v' H2 (g1.trans g2) z3⟩)
end
section
variable{prog:az}{w:aD}{A:aF}{E:k9l}{s:aq}{d it vw:ai}{od:d7}{es:Array ig}{ep i:Nat}
def ji7  (ht:s.TypeIs (.ref d) "dict") (lo:(d==fe)=a9)
  (q:Q (.ref s.heap.objs.size) { s with heap:=s.heap.push { cls:=.type "dict_values",data:=.fields #[.ref d] } }):ay (aB prog w) A (call (.builtin "dict.values") [.ref d]) Q E s:=by
 refine b9 iS ht F.entry_dict_values ?_ (F.args_dict_values_1 _);unfold cC.«dict.values»;refine aa ?_;unfold Builtin.Dict.noArgs;refine aa (wpAny_notOrdered_dict ht ?_);show ay _ _ (pure d) _ _ s;refine ar ?_;show ay _ _ (Builtin.Dict.showsAll d >>= _) _ _ s;unfold Builtin.Dict.showsAll;rw[if_neg (λz=>by rw[lo]at z;cases z)];exact aa (ar (aa (aQ (ar ⟨_,rfl,q⟩))))
def ji6(hv:s.heap.IsValuesView vw d)(ho:s.heap.get? d=a8 od)(hd:od.data=.dict es ep)
  (q:Q (.ref s.heap.objs.size) { s with heap:=s.heap.push { cls:=.type "dict_valueiterator",data:=.fields #[.ref d,.int 0 0,.int es.size 0,.int ep 0] } }) :
  ay (aB prog w) A (iW (.ref vw)) Q E s:=by
 obtain⟨oz,z1,z2,z3⟩:=id hv;refine wpAny_pyIter_slot hv.typeIs jC (b9 jC hv.typeIs F.entry_dict_values_iter ?_ (F.args_dict_values_iter_1 _));unfold cC.«dict_values.__iter__»;refine aa (ar ?_);refine aa ?_;unfold ky;refine aa (b7 z1 z3 (x:=.ref d) rfl (ar (aa ?_)));unfold kx;refine aa (hJ ho hd (aa (iG ho hd ?_)));have own:cA "dict_valueiterator" = a9:=by decide
 simp only[own,Pn,if_false];refine aQ (ar ⟨_,rfl,"dict_valueiterator",_,⟨_,X3 _ rfl,rfl⟩,Th.lookup,?_⟩);simpa [cQ]using q
def ji5{e:ig}{Q:Option ah->aq->Prop}(hit:s.heap.IsValIter it d i es.size ep)(ho:s.heap.get? d=a8 od)(hd:od.data=.dict es ep)(he:es[i]?=a8 e)
  (hQ:∀h',h'.IsValIter it d (i+1) es.size ep->cM it s.heap h'->Q (a8 e.val) { s with heap:=h' }):ay (aB prog w) A (cZ (.ref it)) Q E s:=by
 obtain⟨o,hoI,hc,hdI⟩:=id hit;unfold cZ;refine aa (gw (ba (name:=cj "__next__") hit.typeIs Th
  (b9 Th hit.typeIs gO ?_ (gD _))))
 refine aa (ar ?_);refine aa ?_;refine aa ?_
 first|refine aa (bP hit.typeIs (ar ?_))|refine aa (cK hit.typeIs (ar ?_))
 refine aa (n5 hoI hdI ?_);have hown:cA "dict_valueiterator" = a9:=by decide
 simp only[hown,Pn,if_false];show ay _ _ (if (aI d==aY)=ae then _ else _) _ _ s;rw[if_neg (λz=>by cases z)];refine aa (ar ?_);refine aa (hJ ho hd ?_);rw[if_neg (by simp)];refine aa (ar ?_);refine aa (iG ho hd ?_);rw[if_neg (by simp)];refine ar ?_;simp only[show ¬((i:Int)<0)from by omega,if_false,X5,he];refine aa ?_
 first|refine aa (bP hit.typeIs (ar ?_))|refine aa (cK hit.typeIs (ar ?_))
 refine aa (fG hit.typeIs ?_);show ay _ _ (setField (.ref it) 1 (cQ ((i:Int)+1)) >>= _) _ _ s;refine aa (fN hoI hdI (by simp) ?_);have hit':(s.heap.update it (iC (·.setIfInBounds 1 (cQ ((i:Int)+1))))).IsValIter it d (i+1) es.size ep :=
  ⟨_,eT _ hoI (jv (dE hdI _)),(kv ..).trans hc,by rw[dE hdI];simp[cQ]⟩
 refine aa (bA ?_);refine aa (fG (s:={ s with heap:=s.heap.update it (iC (·.setIfInBounds 1 (cQ ((i:Int)+1)))) }) hit'.typeIs ?_);refine aa (fG (s:={ s with heap:=s.heap.update it (iC (·.setIfInBounds 1 (cQ ((i:Int)+1)))) }) hit'.typeIs ?_);show ay _ _ (pure e.val) _ _ _;exact ar (ar ⟨_,rfl,ar (hQ _ hit' (Tt ..))⟩)
def jm3{Q:Option ah->aq->Prop}(hh:A.handled=af)(hit:s.heap.IsValIter it d i es.size ep)(ho:s.heap.get? d=a8 od)(hd:od.data=.dict es ep)(hge:es.size<=i)
  (hQ:∀h',f6 it s.heap h'->Q af { s with heap:=h' }):ay (aB prog w) A (cZ (.ref it)) Q E s:=by
 obtain⟨o,hoI,hc,hdI⟩:=id hit;unfold cZ;refine aa (gw (ba (name:=cj "__next__") hit.typeIs Th
  (b9 Th hit.typeIs gO ?_ (gD _))))
 refine aa (ar ?_);refine aa ?_;refine aa ?_
 first|refine aa (bP hit.typeIs (ar ?_))|refine aa (cK hit.typeIs (ar ?_))
 refine aa (n5 hoI hdI ?_);have hown:cA "dict_valueiterator" = a9:=by decide
 simp only[hown,Pn,if_false];show ay _ _ (if (aI d==aY)=ae then _ else _) _ _ s;rw[if_neg (λz=>by cases z)];refine aa (ar ?_);refine aa (hJ ho hd ?_);rw[if_neg (by simp)];refine aa (ar ?_);refine aa (iG ho hd ?_);rw[if_neg (by simp)];refine ar ?_;simp only[show ¬((i:Int)<0)from by omega,if_false,X5,Array.getElem?_eq_none hge];refine aa ?_
 first|refine aa (bP hit.typeIs (ar ?_))|refine aa (cK hit.typeIs (ar ?_))
 show ay _ _ (setField (.ref it) 0 .none >>= _) _ _ s;refine aa (fN hoI hdI (by simp) ?_);show ay _ _ (n6 (.type "StopIteration") [] >>= _) _ _ _;refine aa ?_;simp only[n6,newTuple];refine aa (aQ ?_ (by size_fits));refine aa (m:=fR _ _) (ir (a:=aY) (by first|rfl|(simp only[fR];rfl)) ?_);refine aQ ?_ (by size_fits);simp only[raiseNew];refine aa (nA ?_);rw[show A.in1.handled=af from hh];refine aa (ar (wpAny_throw ?_));refine aa (mj (T:="StopIteration") (b:=ae) ⟨_,X3 _ rfl,rfl⟩ n9 ?_);exact ar (hQ _ (((Tt ..).extBut.push _).push _))
def jdv(hh:A.handled=af)(I:ai)(hne:d≠I)(hd:od.data=.dict es ep):Walks prog w A I [I,d] [I] es.size (λi v=>∃e,es[i]?=a8 e/\v=e.val) (λi h=>h.IsValIter I d i es.size ep/\h.get? d=a8 od) where
 sub:=λb hb=>by simp at hb;simp[hb]
 frame:=λ_ _ _ st hk=>⟨let ⟨o,ho,x⟩:=st.1;⟨o,hk I (by simp) o ho,x⟩,hk d (by simp) _ st.2⟩
 item:=λi s Q E hi st hQ=>by refine ji5 st.1 st.2 hd (cg hi) λh' hit' hs'=>?_;exact hQ _ h' s.toks ⟨_,cg hi,rfl⟩ ⟨hit',hs'.extBut _ _ hne st.2⟩ λb o hb e=>hs'.extBut b o (λh=>hb (by simp[h])) e
 done:=λs Q E st hQ=>jm3 hh st.1 st.2 hd (X8 _) λh' he'=>hQ h' s.toks λb o hb e=>he' b o (λh=>hb (by simp[h])) e
 self:=λ_ _ _ _ st hQ=>wpAny_pyIter_valiter st.1 hQ
def jm2 (hd:od.data=.dict es ep):gC prog w "dict_values" vw d es.size (λi v=>∃e,es[i]?=a8 e/\v=e.val) (λh=>h.IsValuesView vw d/\h.get? d=a8 od) where
 type:=λ_ hm=>hm.1.typeIs
 there:=λ_ hm=>⟨let ⟨_,ho,_⟩:=hm.1;X4 ho,X4 hm.2⟩
 keep:=λ_ _ hm hk=>⟨let ⟨o,ho,x⟩:=hm.1;⟨o,hk vw (.inl rfl) o ho,x⟩,hk d (.inr rfl) _ hm.2⟩
 notList:=by decide
 notTuple:=by decide
 hint:=λ_ _ _ _ hm hq=>W.kdl_hint_values hm.1.typeIs hq
 iter:=λ_ _ hh hm=>⟨_,_,(λ_ _ hq=>ji6 hm.1 hm.2 hd hq),jdv hh _ (Xj (X4 hm.2)) hd,⟨⟨_,X3 _ rfl,rfl,rfl⟩,xj _ hm.2⟩⟩
end
section
variable{prog:az}{w:aD}{A:aF}{E:k9l}{s:aq}{T:String}{r d:ai}{n:Nat}{P:Nat->ah->Prop}{OK:aE->Prop}
def j60{Q:List ah->aq->Prop}(K:gC prog w T r d n P OK)(hh:A.handled=af)(hok:OK s.heap)(hn:n<=aw)
  (hQ:∀(h':aE)(tk:Nat)(acc:Array ah),(∀b o,s.heap.get? b=a8 o->h'.get? b=a8 o)->lR P acc n->Q acc.toList { s with heap:=h',toks:=tk }):ay (aB prog w) A (lP (.ref r)) Q E s:=by
 have hlt:=K.there _ hok;have hS:(s.heap.push { cls:=.type "list",data:=.seq ([]:List ah).toArray }).get? s.heap.objs.size=a8 { cls:=.type "list",data:=.seq ([]:List ah).toArray }:=X3 _ rfl;have key:∀R:fh->aq->Prop,(∀(h':aE)(tk:Nat)(acc:Array ah)(c:Nat),(∀b o,s.heap.get? b=a8 o->h'.get? b=a8 o)->h'.get? s.heap.objs.size=a8 { cls:=.type "list",dict:=af,data:=.seq acc c,slots:=#[] }->lR P acc n->R (.ok (.ret (.ref s.heap.objs.size))) { s with heap:=h',toks:=tk }) ->
   bZ (aB prog w) A (.builtin "proto.collect" ⟨[.ref r],[]⟩) R s:=λR hR=>by
  refine b8 F.entry_proto_collect ?_;rw[T5 F.plain_proto_collect _];show ay _ A.in1 (lO [] >>= λl=>jT (.builtin "list.__iadd__" ⟨[l,.ref r],[]⟩)) _ _ s;refine aa (aQ ?_);refine ar ⟨cL kW _,b8 F.entry_list_iadd ?_⟩;rw[T5 kW _];show ay _ A.in1 (mS (.ref s.heap.objs.size) (.ref r) (.ref s.heap.objs.size)) _ _ _;exact W.kdl_extend (R:=R) (s:={ s with heap:=s.heap.push { cls:=.type "list",data:=.seq ([]:List ah).toArray } }) K hh (K.keep _ _ hok λb _ o e=>xj _ e) _ (Pr hlt.1) (Pr hlt.2) _ 0 hS
   (λh' tk acc c kp hS' hacc=>hR h' tk acc c (λb o e=>kp b o (Xj (X4 e)) (xj _ e)) hS' hacc) hn
 unfold lP;refine aa (iT (key _ λh' tk acc c kp hS' hacc=>?_));show ay _ A (load s.heap.objs.size >>= _) _ _ _;refine aa (lr hS' ?_);exact ar (hQ h' tk acc kp hacc)
def j1b {Q:k9l} (K:gC prog w T r d n P OK) (hh:A.handled=af) (hok:OK s.heap) (hsz:n<=aw) (hTt:(eE T==eE "tuple")=a9)
  (hQ:∀(h':aE)(tk:Nat)(acc:Array ah),(∀b o,s.heap.get? b=a8 o->h'.get? b=a8 o)->lR P acc n->Q (.ref h'.objs.size) { s with heap:=h'.push { cls:=.type "tuple",data:=.seq acc },toks:=tk }) :
  ay (aB prog w) A (call (.type "tuple") [.ref r]) Q E s:=by
 refine callType_codes (Q₁:=λobj s₁=>s₁.TypeIs obj "tuple"/\Q obj s₁) F.called_tuple (F.typeCall_tuple_1 _) F.entry_object_init ?_ λobj s₁ h₁ =>⟨h₁.1,k8 obj _,object_init_meets F.called_tuple.init.lookup F.called_tuple.made (by decide) prog w A.in1 _ s₁ ⟨h₁.1,rfl,h₁.2⟩⟩
 refine mV ?_;show ay _ A.in1.in1 (do checkBuiltinCall "tuple.__new__" ⟨[.type "tuple",.ref r],[]⟩;jT (.builtin "tuple.__new__" ⟨[.type "tuple",.ref r],[]⟩)) _ _ s;refine aa (ir (F.newCall_tuple_1 _) (ar ⟨cL kU _,b8 F.entry_tuple_new ?_⟩));rw[T5 kU _];have hsub:=sub_tuple_self;have hinit:=init_tuple_lookup;have hmh:=madeHere_tuple;have hTI:=K.type s hok;have hn:=hsz
 wp_walk using wpAny_typeOf hTI,j60 (A:=A.in1.in1) K hh hok hn
 intro h' tk acc kp hacc;show ay _ _ (bc acc.toList.toArray >>= λv=>ret v) _ _ _;unfold bc;refine aa (aQ ?_ (by show acc.toList.toArray.size<=aw;simp only[Array.toArray_toList];rw[hacc.1];exact hsz));refine ar ?_;have e:acc.toList.toArray=acc:=by simp
 rw[e];exact⟨⟨_,X3 _ rfl,rfl⟩,hQ h' tk acc kp hacc⟩
end
section
variable{X:Cx}{ρ:Rho}{a:av}{ds:List D}{ks:List zo}{pos p p1 p2:aP}
def j4u{P:az}{w:aD}{en:Array ig}{acc:Array ah}(h:en.toList=xs.map (lB (fZ (ff P w))))(ha:lR (λi v=>∃e,en[i]?=a8 e/\v=e.val) acc en.size):acc=(xs.map λx=>x.2.2).toArray:=by
 obtain⟨h1,h2⟩:=ha;have hl:en.size=xs.length:=by have:=congrArg d8 h;simpa using this
 apply Array.ext';refine Xy λi=>?_;rw[fB,xm];by_cases hi:i<acc.size
 .have hv:acc[i]?=a8 acc[i]:=cg hi;obtain⟨e,he,ev⟩:=h2 i _ hv;have he':en.toList[i]?=a8 e:=by simpa using he
  rw[h,xm]at he';rw[eR,hv,ev];obtain⟨x,hx,ex⟩:=Pb.mp he';rw[hx,<-ex];rfl
 .rw[Xc (by simpa using hi),Xc nofun];rfl
def DE.tupVals (ha:DE X ρ a (.dct ks ds)) (hc:X.calm=ae) (hm:X.mg "tuple" = af) (hg:Gl X "tuple") (hbase:aL a "values" X.env (aC a X.env)=aC a X.env) (hline:(p1.endLine==p2.line)=ae)
  (hs2:aj [.Call (.Attribute a "values" p1) [] [] p2] X.env=[(a9,aC (.Call (.Attribute a "values" p1) [] [] p2) X.env)]):DE X ρ (.Call (.Name "tuple" p) [.Call (.Attribute a "values" p1) [] [] p2] [] pos) (.tup ds):=λσ H Q R q pins s I=>by
 refine aM (Jl I hg hm boot_tuple ?_);refine callWith_type1 ?_ hs2 rfl;rw[hs2];show ay _ _ (iL ((a9,aC _ X.env)::aR pos [])) _ _ s;refine dm ?_;refine wpAny_Call_method0_late hbase hline (thn (ha σ H (λv H'=>j0 H H'/\Enc X.K (del H' (owns ρ)) (.dct ks ds) v) R (λv H' g e=>⟨g,e⟩) pins s I) λv s1 ⟨x,H1,I1,r1,g1,en⟩=>?_);obtain⟨d,xs,ep,vs,ex,hx,ek,kt,rv,l⟩:=en;subst ex ek;cases r1;have hx1:H1 d=a8 (.dI xs ep):=(of_del hx).2;obtain⟨z1,z2,z3,od,en,h1,h2,h3,h4⟩:=(show jm X.prog X.w H1 s1.heap d (.dI xs ep)from I1.hok _ _ hx1)
 have hsz:en.size=xs.length:=by have:=congrArg d8 h4;simpa using this
 refine⟨"dict","dict.values",PySem.F.plainAttrs_dict,iS,PySem.F.type_dict_values,⟨od,h1,h2.1⟩,λb e=>by cases e;exact⟨od,h1,h2.2.1⟩,cJ rfl (PySem.evalArgs_none (ji7 ⟨od,h1,h2.1⟩ z2 ?_))⟩;refine dM ?_;have v1:(s1.heap.push { cls:=.type "dict_values",data:=.fields #[.ref d] }).get? s1.heap.objs.size=a8 { cls:=.type "dict_values",data:=.fields #[.ref d] }:=X3 _ rfl;have I2:=I1.kept (t':=s1.toks) (h':=s1.heap.push { cls:=.type "dict_values",data:=.fields #[.ref d] }) λb o e=>xj _ e;refine j1b (jm2 (vw:=s1.heap.objs.size) (d:=d) (od:=od) h3) (I1.ok.hd hc) ⟨⟨_,v1,rfl,rfl⟩,xj _ h1⟩ (by rw[hsz];exact z1) (by decide) λh' tk acc kp hacc=>?_;have ea:=j4u h4 hacc;subst ea;have I3:Inv X pins σ H1 { s1 with heap:=h',toks:=tk }:=I2.kept (t':=tk) (h':=h') kp;have hf:H1 h'.objs.size=af:=I3.hok.fresh (X8 _);have hl:=rv.length;have hxl:vs.length<=aw:=by rw[hl,xg];exact z1
 have I4:=I3.laid (a:=h'.objs.size) (o:=.tup vs) (t':=tk) (h':=h'.push { cls:=.type "tuple",data:=.seq (xs.map λx=>x.2.2).toArray }) (λb u q=>xj _ q) (X8 _) ⟨hxl,_,rv,IsTup.new _ _,Vh.new _ _⟩;have nt:h'.objs.size∉owns ρ:=(R.grow g1).fresh hf;exact⟨.ref h'.objs.size,_,I4,rfl,q _ _ (g1.trans (j6 hf)) ⟨h'.objs.size,vs,rfl,.inl (.inl (by rw[j5 nt];exact j8)),l.mono (jg (j6 hf))⟩⟩
end
section
variable{X:Cx}{ρ:Rho}{it e1 e2:av}{P:Po}{ds:List D}{x t y:Nat}{nx nt ny:au}{p1 p2 p3 p4 p5 p6 p10 p11 p12 p14 p16 p17 p18:aP}
noncomputable abbrev jf5(nx nt ny:au)(it e1 e2:av)(p1 p2 p3 p4 p5 p6 p10 p11 p12 p14 p16 p17 p18:aP):List aX :=
 [.Assign [.Name nx p1] (.Dict [] [] p2) p3,.For (.Name nt p4) it [.Assign [.Name ny p5] e1 p6,.Assign [.Subscript (.Name nx p10) (.Name nt p11) p12] e2 p14] [] p16,.Return (a8 (.Name nx p17)) p18]
theorem qt:∀ns:zo,qw (ns.map D.int)=ae
 |[]=>rfl
 |n::ns=>by rw[X7,qw,qt ns];rfl
theorem Cq{α:Type}:∀{l:List α}{i:Nat}{x:α},l[i]?=a8 x->l.set i x=l
 |[],_,_,_=>rfl
 |y::l,0,x,h=>by simp at h;subst h;rfl
 |y::l,i+1,x,h=>by rw[Pz,Cq (by simpa using h)]
def j4w{A:List ai}(hA:∀a∈A,Hd (H a)){ds:List D}{vs:List V}(n:qw ds=ae)(h:j4 K H ds vs):j4 K (del H A) ds vs:=j4.hide hA n h
def DSs.nmake(W:Nat->Rho->List zo->zo->Prop)(rx:x<ρ.length)(rt:t<ρ.length)(ry:y<ρ.length)(hxt:x≠t)(hxy:x≠y)(hty:t≠y)(hi:DI X (ρ.set x .un) (.Name nt p4) it ds)(h0:W 0 (ρ.set x .un) [] [])
  (hs:∀i d ρ' ks ns,ds[i]?=a8 d->W i ρ' ks ns->∃k d1 n,d=.tup (k.map D.int)/\DE X (ρ'.set t (.val d)) e1 d1/\DE X (((ρ'.set t (.val d)).set y (.val d1)).set x (.val (.dct ks (ns.map D.int)))) e2 (.int n) /\
   ks.contains k=a9/\ks.length<aw/\W (i+1) ((ρ'.set t (.val d)).set y (.val d1)) (ks++[k]) (ns++[n]))
  (hd:∀ρ' ks ns,W ds.length ρ' ks ns->P.rt (.val (.dct ks (ns.map D.int))))
  (hu:X.A.units+100<aU) (hc:X.calm=ae) (hp:g6 (aB X.prog X.w) X.A X.env X.xe) (hN:X.N.Nodup) (hX:X.N[x]?=a8 nx) (hT:X.N[t]?=a8 nt) (hY:X.N[y]?=a8 ny)
  (lx:Loc X.env.scope nx) (lt:Loc X.env.scope nt) (ly:Loc X.env.scope ny) (fx:X.fn nx=ae\/X.env.scope.names.lookup nx=a8 .local) (ft:X.fn nt=ae\/X.env.scope.names.lookup nt=a8 .local) (fy:X.fn ny=ae\/X.env.scope.names.lookup ny=a8 .local)
  (dx:(nx==k9o)=a9) (cx:(nx==k9p)=a9) (dt:(nt==k9o)=a9) (ct:(nt==k9p)=a9)
  (s1:aT (.Dict [] [] p2) (a8 (.Name nx p1)) p3.line X.env=pure a9) (s2:aT e1 (a8 (.Name ny p5)) p6.line X.env=pure a9)
  (s3:aT e2 (a8 (.Subscript (.Name nx p10) (.Name nt p11) p12)) p14.line X.env=pure a9) (hf:∀x,aH it X.env x=pure x) :
  DSs X ρ (jf5 nx nt ny it e1 e2 p1 p2 p3 p4 p5 p6 p10 p11 p12 p14 p16 p17 p18) P:=λσ H E R q=>by
 have vis:∀{z:au},Loc X.env.scope z->Vis X.env.scope z:=λh=>h.elim .inl λz=>.inr (.inl z);refine(Y6 (Ro hN hX lx j6j s1 fx) (Y6 (j40 hp hc piS (Rq hN hT lt ft) (Y6 (Ro hN hY ly peS s2 fy)
  (Nq (j6h hu (vz hX (vis lx) dx cx) (vz hT (vis lt) dt ct) peS s3))) hf)
  (Nq (Ow (vz hX (vis lx) dx cx))))).to ?_
 intro a ha;have R0:Rep X.K (ρ.set x .un) (σ.set x (a8 (.ref a))) H:=R.set_un;have hxl:x<σ.length:=by rw[R.len];exact rx
 refine Kw (A:=[a]) (R':=λJ F=>j0 H F/\Ub X.K (del F (owns (ρ.set x .un))) J ds) (λb hb=>.inr ⟨[],0,by rw[xu.mp hb];exact j8⟩) (by rw[K3 ha];exact hi _ H _ R0 λJ F g ok=>⟨g,ok⟩) λJ F ⟨g,ok⟩ hn=>?_;rw[j0r j8];have fa:F a=af:=hn a (by simp);refine⟨λi m σ' H'=>∃ρ' Fh xs ep ns,H'=upd Fh a (.dI xs ep)/\Fh a=af/\Rep X.K ρ' σ' Fh/\j0 F Fh/\(∀b∈owns ρ',b∈owns (ρ.set x .un))/\ρ'.length=ρ.length/\σ'[x]?=a8 (a8 (.ref a)) /\
   (∀z∈xs,SqT X.K Fh z.2.1 (z.1.map V.int))/\Vals (ns.map V.int) (xs.map λz=>z.2.2)/\W i ρ' (xs.map λz=>z.1) ns/\m=ds.length-i/\i<=ds.length,
  ⟨ds.length,ρ.set x .un,F,[],0,[],rfl,fa,R0.grow g,j0.refl _,λb hb=>hb,by simp,Uv hxl,λz hz=>(nomatch hz),.nil,h0,rfl,S9 _⟩,?_⟩
 rintro i m σ' H' ⟨ρ',Fh,xs,ep,ns,rfl,fha,R',gF,sub,hL,sx,kt,rv,w,rfl,hle⟩;have gU:j0 Fh (upd Fh a (.dI xs ep)):=j6 fha;obtain⟨go,stop,yld⟩:=ok i (upd Fh a (.dI xs ep)) (a::owns ρ') (λb o eb=>by
  obtain⟨nb,eb⟩:=of_del eb
  have nba:b≠a:=λz=>by rw[z,fa]at eb;cases eb
  rw[j5,jk nba]
  .exact gF b o eb
  .intro z
   rcases Xb.mp z with z|z
   .exact nba z
   .exact nb (sub b z)) (λb hb=>by
  rcases Xb.mp hb with z|z
  .rw[z,j8];simp
  .obtain⟨ys,eb⟩:=R'.owned b z
   rw[gU _ _ eb];simp)
 by_cases hlt:i<ds.length
 .obtain⟨k,d1,n,ed,hE,hE2,nk,hkl,w'⟩:=hs i ds[i] ρ' _ ns (kh hlt) w;refine .inr ⟨go hlt,λσ2 H2=>∃ρ2 Fh2 xs2 ep2 ns2,H2=upd Fh2 a (.dI xs2 ep2)/\Fh2 a=af/\Rep X.K ρ2 σ2 Fh2/\j0 F Fh2/\(∀b∈owns ρ2,b∈owns (ρ.set x .un))/\ρ2.length=ρ.length/\σ2[x]?=a8 (a8 (.ref a)) /\
   (∀z∈xs2,SqT X.K Fh2 z.2.1 (z.1.map V.int))/\Vals (ns2.map V.int) (xs2.map λz=>z.2.2)/\W (i+1) ρ2 (xs2.map λz=>z.1) ns2,
   λσ2 H2 ⟨ρ2,Fh2,xs2,ep2,ns2,z1,z2,z3,z4,z5,z5',z6,z7,z8,z10⟩=>⟨ds.length-(i+1),by omega,ρ2,Fh2,xs2,ep2,ns2,z1,z2,z3,z4,z5,z5',z6,z7,z8,z10,rfl,hlt⟩,λv H2 yv=>?_⟩
  obtain⟨g2,en⟩:=yld v H2 yv;have en:=en _ (kh hlt);have h2a:H2 a=a8 (.dI xs ep):=g2 _ _ j8;have e2:H2=upd (del H2 [a]) a (.dI xs ep):=j66 h2a;have f2a:del H2 [a] a=af:=qy (by simp);have gF2:j0 Fh (del H2 [a]):=λb o eb=>by
   have nb:b≠a:=λz=>by rw[z,fha]at eb;cases eb
   rw[j5 (by simpa using nb)];exact g2 b o (gU b o eb)
  have en2:Enc X.K (del (del H2 [a]) (owns ρ')) ds[i] v:=by rw[Zt];exact en
  generalize del H2 [a]=F2 at e2 f2a gF2 en2;subst e2;have R2:Rep X.K (ρ'.set t (.val ds[i])) (σ'.set t (a8 v)) F2:=(R'.grow gF2).set_val en2;have sub2:∀b∈owns (ρ'.set t (.val ds[i])),b∈owns (ρ.set x .un):=λb hb=>sub b ((qe rfl).subset hb);show Jw X e1 (σ'.set t (a8 v)) (upd F2 a (.dI xs ep)) _;refine j7m (A:=[a]) (Q':=λv F3=>j0 F2 F3/\Enc X.K (del F3 (owns (ρ'.set t (.val ds[i])))) d1 v) (λb hb=>.inr ⟨xs,ep,by rw[xu.mp hb];exact j8⟩) (by rw[K3 f2a];exact hE _ F2 _ R2 λv F3 g e=>⟨g,e⟩) λv3 F3 ⟨g3,en3⟩ hn3=>?_;rw[j0r j8];have f3a:F3 a=af:=hn3 a (by simp);have R3:Rep X.K ((ρ'.set t (.val ds[i])).set y (.val d1)) ((σ'.set t (a8 v)).set y (a8 v3)) F3:=(R2.grow g3).set_val en3;have sub3:∀b∈owns ((ρ'.set t (.val ds[i])).set y (.val d1)),b∈owns (ρ.set x .un):=λb hb=>sub2 b ((qe rfl).subset hb);have sx3:((σ'.set t (a8 v)).set y (a8 v3))[x]?=a8 (a8 (.ref a)):=by rw[zq (bu hxy),zq (bu hxt)];exact sx
  have lenN:σ'.length=ρ.length:=by rw[R'.len,hL]
  have htl:t<σ'.length:=by rw[lenN];exact rt
  have hL3:((ρ'.set t (.val ds[i])).set y (.val d1)).length=ρ.length:=by rw[Xq,Xq,hL]
  have st3:((σ'.set t (a8 v)).set y (a8 v3))[t]?=a8 (a8 v):=by rw[zq (bu hty)];exact Uv htl
  have kt3:∀z∈xs,SqT X.K F3 z.2.1 (z.1.map V.int):=λz hz=>g3.seqT (gF2.seqT (kt z hz));rw[ed]at en2;obtain⟨tb,ys,ev,sq,li⟩:=en2;rw[zg li]at sq;subst ev;have sq3:SqT X.K F3 tb (k.map V.int):=g3.seqT (jw.seqT sq);clear R2;show Jw X e2 ((σ'.set t (a8 (V.ref tb))).set y (a8 v3)) (upd F3 a (.dI xs ep)) _;generalize (σ'.set t (a8 (V.ref tb))).set y (a8 v3)=σ3 at R3 sx3 st3 ⊢;generalize (ρ'.set t (.val ds[i])).set y (.val d1)=ρ3 at R3 sub3 hL3 hE2 w' ⊢;have g4:j0 F3 (upd F3 a (.dI xs ep)):=j6 f3a;have hO:∀b∈owns ρ3,Hd (upd F3 a (.dI xs ep) b):=λb hb=>.inl (let ⟨zs,e⟩:=R3.owned b hb;⟨zs,g4 _ _ e⟩);have na:a∉owns ρ3:=λz=>by obtain⟨zs,e⟩:=R3.owned a z;rw[f3a]at e;cases e
  have R4:Rep X.K (ρ3.set x (.val (.dct (xs.map λz=>z.1) (ns.map D.int)))) σ3 (upd F3 a (.dI xs ep)):=by
   have z:=(R3.grow g4).set_val (i:=x) (d:=.dct (xs.map λz=>z.1) (ns.map D.int)) (v:=.ref a) ⟨a,xs,ep,ns.map V.int,rfl,by rw[j5 na];exact j8,rfl,λz hz=>?_,rv,j4w hO (qt ns) (j4.ints ns)⟩
   .rw[Cq sx3]at z;exact z
   .have e:Enc X.K (upd F3 a (.dI xs ep)) (.tup (z.1.map D.int)) (.ref z.2.1):=⟨_,_,rfl,g4.seqT (kt3 z hz),j4.ints z.1⟩
    obtain⟨b,zs,e1,e2,e3⟩:=e.hide hO (by rw[Jy];exact qt z.1);cases e1;rw[zg e3]at e2;exact e2
  refine hE2 σ3 _ _ R4 λv4 H4 g5 en4=>?_;cases(show v4=.int n from en4);have h4a:H4 a=a8 (.dI xs ep):=g5 _ _ j8;have f4a:del H4 [a] a=af:=qy (by simp);have gF4:j0 F3 (del H4 [a]):=λb o eb=>by
   have nb:b≠a:=λz=>by rw[z,f3a]at eb;cases eb
   rw[j5 (by simpa using nb)];exact g5 b o (g4 b o eb)
  have gU4:j0 (del H4 [a]) H4:=jw;refine⟨.ref a,sx3,.ref tb,st3,a,tb,xs,ep,k,rfl,h4a,λz hz=>gU4.seqT (gF4.seqT (kt3 z hz)),rfl,gU4.seqT (gF4.seqT sq3),nk,by rw[xg]at hkl;exact hkl,λu ep' ru=>?_⟩;refine⟨ρ3,del H4 [a],xs++[(k,tb,u)],ep',ns++[n],?_,f4a,R3.grow gF4,gF.trans (gF2.trans (g3.trans gF4)),sub3,hL3,sx3,λz hz=>?_,?_,by rw[Xi];exact w'⟩
  .funext b
   by_cases z:b=a
   .subst z;rw[j8,j8]
   .rw[jk z,jk z,j5 (by simpa using z)]
  .rcases P0.mp hz with hz|hz
   .exact gF4.seqT (kt3 z hz)
   .rw[xu.mp hz];exact gF4.seqT sq3
  .rw[Xi,Xi];exact rv.append (.cons ru .nil)
 .have e:i=ds.length:=by omega
  subst e;refine .inl ⟨stop (X8 _),.ref a,sx,?_⟩;refine q.rt (.val (.dct _ (ns.map D.int))) (.ref a) _ (hd ρ' _ ns w) ⟨λb o eb=>gU b o (gF b o (g b o (of_del eb).2)),a,xs,ep,ns.map V.int,rfl,j8,rfl,λz hz=>gU.seqT (kt z hz),rv,j4.ints ns⟩
end
def j02{M:jU}{A:aF}{E:k9l}{β:Type}{a b:Nat}(f:Nat->β->Sem (ForInStep β))(I:Nat->β->aq->Prop)(Q:β->aq->Prop)
  (turn:∀i c st,a<=i->i<b->I i c st->ay M A (f i c) (λr s'=>match r with|.yield c'=>I (i+1) c' s'|.done c'=>Q c' s') E st)
  (fin:∀c st,I (max a b) c st->Q c st) (c:β) (h:I a c s):ay M A (forIn [a:b] c f) Q E s:=by
 rw[Std.Legacy.Range.forIn_eq_forIn_range'];have hsz:([a:b]:Std.Legacy.Range).size=b-a:=by simp[Std.Legacy.Range.size]
 show ay M A (forIn (mB a ([a:b]:Std.Legacy.Range).size 1) c f) Q E s;rw[hsz];refine ia f (λl c st=>∃i,a<=i/\i<=max a b/\l=mB i (max a b-i) 1/\I i c st) Q ?_ ?_ _ c ⟨a,X8 _,by omega,by congr 1;omega,h⟩
 .rintro x rest c st ⟨i,hai,hib,hl,hI⟩;have hlt:i<max a b:=by
   rcases eO i (max a b)with h'|h'
   .exact h'
   .rw[show max a b-i=0 by omega]at hl;simp at hl
  obtain⟨n,hn⟩:∃n,max a b-i=n+1:=⟨max a b-i-1,by omega⟩
  rw[hn,kC]at hl;obtain⟨rfl,rfl⟩:=List.cons.inj hl;refine bC (turn x c st hai nofun hI) (λr st' h'=>?_) λ_ _ h=>h;cases r with
  |done c'=>exact h'
  |yield c'=>exact⟨x+1,by omega,by omega,by congr 1;omega,h'⟩
 .rintro c st ⟨i,hai,hib,hl,hI⟩;have:i=max a b:=by
   rcases eO i (max a b)with h'|h'
   .obtain⟨n,hn⟩:∃n,max a b-i=n+1:=⟨max a b-i-1,by omega⟩
    rw[hn,kC]at hl;cases hl
   .omega
  subst this;exact fin c st hI
def j2p(l:ai)(items:Array ah)(n:Nat)(dd:Option ai)(sl:Array (Option ah))(x:ah)(e:ah->Bool)(k:Nat)(hk:k<items.size)(h0:∀(j:Nat)(h:j<items.size),j<k->e items[j]=a9)(h1:e items[k]=ae) :
  jV (cC.«tuple.index» ⟨[.ref l,x],[]⟩)
   (λA R s=>s.heap.get? l=a8 { cls:=.type "tuple",dict:=dd,data:=.seq items n,slots:=sl }/\(∀y,y∈items->cV A.in1 s y x (e y))/\R (.ok (.ret (.int k s.toks))) { s with toks:=s.toks+1 }) :=
 .of_wp λprog w A R s h=>by
  obtain⟨hp,g,d,tk,os⟩:=s;obtain⟨hl,he,h⟩:=h
  wp_walk using dH hl,j02 _ (λi b s'=>b.1=af/\s'=⟨hp,g,d,tk,os⟩/\i<=k) _
  case turn =>
   rintro i c s'-hi ⟨hb,rfl,hik⟩;have hlt:i<items.size:=by omega
   have hy:items[i]?=a8 items[i]:=by simp[hlt]
   rw[hy];refine aa (he items[i] (Array.getElem_mem hlt) prog w _ _ ?_);by_cases z:i=k
   .subst z;rw[h1]
    wp_walk
    exact⟨_,rfl,h⟩
   .rw[h0 i hlt nofun]
    wp_walk
    exact⟨rfl,rfl,by omega⟩
  case fin =>rintro c s' ⟨hb,rfl,hik⟩;omega
  case h =>exact⟨rfl,rfl,S9 _⟩
variable{ds:List D}
section
variable{X:Cx}{ρ:Rho}{a e:av}{l:List D}{d:D}{p1 pos:aP}
noncomputable def ixD(d:D):List D->Option Nat
 |[]=>af
 |x::r=>if deq x d=ae then a8 0 else(ixD d r).map (· + 1)
theorem j4m{d:D}:∀{l:List D}{k:Nat},ixD d l=a8 k->∃x,l[k]?=a8 x/\deq x d=ae/\∀j y,j<k->l[j]?=a8 y->deq y d=a9
 |[],k,h=>by cases h
 |x::r,k,h=>by
  unfold ixD at h;split at h
  .rename_i z;cases h;exact⟨x,rfl,z,λj y hj=>absurd hj (eV _)⟩
  .rename_i z;cases q:ixD d r with
   |none=>rw[q]at h;cases h
   |some m =>
    rw[q]at h;cases h;obtain⟨y,hy,e,f⟩:=j4m q;refine⟨y,hy,e,λj y hj hq=>?_⟩;cases j with
    |zero=>cases hq;simpa using z
    |succ j=>exact f j y (Nat.lt_of_succ_lt_succ hj) hq
def ja3 (hu:X.A.units+100<aU):MtR X "tuple.index" (λx vs H Q=>∃t xs ds d y k,x=.ref t/\vs=[y]/\SqT X.K H t xs/\j4 X.K H ds xs/\Enc X.K H d y/\D.depL ds<=97/\d.dep<10000/\ixD d ds=a8 k/\Q (.int (k:Nat)) H):=by
 rintro pins s σ H x vs v us Q I rx rv ⟨t,xs,ds,d,y,k,e,e',sq,l,en,hd,nd,hk,q⟩;subst e e';cases rx;obtain⟨u,eu,ru⟩:=rv.one;subst eu;obtain⟨its,ri,⟨⟨cl,dd,da,sl⟩,h1,h2,n,h3⟩,_⟩:=I.tuple sq;have h2:cl=.type "tuple":=h2;have h3:da=.seq its.toArray n:=h3;subst h2 h3;obtain⟨z,hz,ez,fz⟩:=j4m hk;have ll:=l.length;have rl:=ri.length;have hks:k<its.toArray.size:=by have:=(Xe.mp hz).1;simp;omega
 have at_:∀(j:Nat)(h:j<its.toArray.size)(z:D),ds[j]?=a8 z->eqW X H d its.toArray[j]=deq z d:=λj h z hz=>by
  obtain⟨x,hx,ex⟩:=l.get hz;obtain⟨w,hw,rw⟩:=ri.get hx;have g1:its.toArray[j]=w:=by simp at h ⊢;rw[kh (by simpa using h)]at hw;exact ax hw
  have:=D.depL_le hz;rw[g1];exact Bq I nofun ex rw
 refine bD iP ⟨_,h1,rfl⟩ F.entry_tuple_index (F.args_tuple_index_2 _ _) (j2p t its.toArray n dd sl u (eqW X H d) k hks (λj h hj=>?_) (by rw[at_ k hks z hz];exact ez))
  ⟨h1,λy hy=>Y8 (n:=97) I en ru nd (by show X.A.units+1+97<aU;omega) hd l ri y (by simpa using hy),⟨.int _,H,I.tok _,⟨_,rfl⟩,q⟩⟩
 have hlt:j<ds.length:=by simp at h;omega
 rw[at_ j h ds[j] (kh hlt)];exact fz j _ hj (kh hlt)
def DE.indexT {b:av}  {k:Nat} {p2:aP} (hu:X.A.units+100<aU) (ha:DT X ρ a (.tup ds)) (hb:DT X ρ b d) (hd:D.depL ds<=97) (nd:d.dep<10000) (hk:ixD d ds=a8 k) (hbase:aL a "index" X.env (aC a X.env)=aC a X.env)
  (hfew:((aR p2 (aj [b] X.env)).all (λx=>!x.1)&&(br p2 (aV [] X.env)).all (λx=>x.1.isSome)
   && decide (([b]:List av).length+([]:List aS).length+(if ([]:List aS).isEmpty then 0 else 1)<30))=ae) (hline:(p1.endLine==p2.line)=ae)
  (hs:aj [b] X.env=(a9,aC b X.env)::aj [] X.env):DE X ρ (.Call (.Attribute a "index" p1) [b] [] p2) (.int (k:Nat)):=λσ H Q R q =>
 (Ud gY iP PySem.F.type_tuple_index (ja3 hu) peS (ji peS qb hs) hbase hfew hline hs rfl).to (ha σ H _ R λv H1 g1 ⟨t,xs,e,sq,l⟩=>⟨by rw[e];exact .inr (.inl ⟨rfl,xs,sq⟩),hb σ H1 _ (R.grow g1) λu H2 g2 e2 =>
  ⟨t,xs,ds,d,u,k,e,rfl,g2.seqT sq,l.mono g2,e2,hd,nd,hk,q _ H2 (g1.trans g2) rfl⟩⟩)
end
section
variable{X:Cx}{pins:k9m}{σ:St}{H:Hp}{l S I:ai}{xs:List V}{R:fh->aq->Prop}
def jnb(X:Cx)(pins:k9m)(σ:St)(H:Hp)(xs:List V)(bt:Nat->Nat->Bool):Prop:=∀(i j:Nat)(x y:V)(u v:ah)(s:aq)(Q:k9l)(E:k9l),xs[i]?=a8 x->xs[j]?=a8 y->RelV x u->RelV y v->Inv X pins σ H s ->
 Q (.bool (bt i j)) s->ay (aB X.prog X.w) X.A.in1 (iu .Lt u v) Q E s
def jhf(bt:Nat->Nat->Bool)(hh:X.A.handled=af)(hl:SqL X.K H l xs)(hSI:S≠I)(fS:Qz X pins H S)(fI:Qz X pins H I)(cmp:jnb X pins σ H xs bt)
  (hR:∀x u s',xs[aN bt (xs.length-1)]?=a8 x->RelV x u->Inv X pins σ H s'->R (.ok (.ret u)) s') :
  ∀(r j:Nat)(s:aq)(x:V)(u:ah)(c:Nat),xs.length-(j+1)=r->j+1<=xs.length->Inv X pins σ H s->s.heap.get? S=a8 (cR "list" #[u,u] c) ->
   s.heap.IsListIter I l (j+1)->xs[aN bt j]?=a8 x->RelV x u->bZ (aB X.prog X.w) X.A (.builtin "min.loop" ⟨[.ref I,.none,.ref S],[]⟩) R s:=by
 have hname:(toString "min" ++ toString ".loop":String) = "min.loop":=by decide
 have fp:∀b∈[S,I],Qz X pins H b:=λb hb=>by
  rcases Xb.mp hb with e|hb
  .subst e;exact fS
  .rw[xu.mp hb];exact fI
 intro r;induction r with
 |zero =>
  intro j s x u c hr hj I1 oS it hx ru;have hin:j+1=xs.length:=by omega
  obtain⟨its,rv,p,_⟩:=I1.list hl;have hlen:=rv.length;refine b8 dY ?_;rw[T5 Tc _];show ay _ X.A.in1 (ib (.ref S) >>= _) _ _ _;refine aa (bg oS rfl ?_);show ay _ X.A.in1 (tryCatch (cZ (.ref I)) _ >>= _) _ _ _;refine aa (fM (kz hh it p.isList (by simp;omega) λh' eb=>?_));have I2:Inv X pins σ H { s with heap:=h' }:=I1.chg (ch:=[S,I]) fp λb o hb e=>eb b o (λz=>hb (by simp[z])) e;have oS':h'.get? S=a8 (cR "list" #[u,u] c):=eb S _ hSI oS;show ay _ X.A.in1 (updateSeq S (λ_=>#[]) >>= _) _ _ _;refine aa ?_;refine iD oS' rfl (aa (dn (ar ?_)));have s1:=Tt h' S (bM λ_=>(#[]:Array ah));exact hR x u _ (by rw[<-hin];exact hx) ru (I2.chg (ch:=[S,I]) fp λb o hb e=>(s1.2 b (λz=>hb (by simp[z]))).trans e)
 |succ r ih =>
  intro j s x u c hr hj I1 oS it hx ru;have hlt:j+1<xs.length:=by omega
  obtain⟨its,rv,p,_⟩:=I1.list hl;have hlen:=rv.length;have hx1:xs[j+1]?=a8 xs[j+1]:=by simp[hlt]
  obtain⟨v,hv,rv1⟩:=rv.get hx1;refine b8 dY ?_;rw[T5 Tc _];show ay _ X.A.in1 (ib (.ref S) >>= _) _ _ _;refine aa (bg oS rfl ?_);show ay _ X.A.in1 (tryCatch (cZ (.ref I)) _ >>= _) _ _ _;refine aa (fM (fc it p.isList (x:=v) (by simpa using hv) λh' it' sb=>?_));have I2:Inv X pins σ H { s with heap:=h' }:=I1.chg (ch:=[S,I]) fp λb o hb e=>(sb.2 b (λz=>hb (by simp[z]))).trans e;have oS':h'.get? S=a8 (cR "list" #[u,u] c):=(sb.2 S hSI).trans oS;obtain⟨oI,eI,cI,dI⟩:=id it';show ay _ X.A.in1 (tryCatch (cN [v,v] (iu .Lt v u >>= _)) _ >>= _) _ _ _;refine aa (fM (bA (aa (cmp (j+1) (aN bt j) _ _ v u _ _ _ hx1 hx rv1 ru I2 ?_))));refine aa (bA (bI ?_));refine aa (dn (ar ?_));cases hb:bt (j+1) (aN bt j) with
  |true =>
   have s1:=Tt h' S (bM λ_=>#[v,v]);obtain⟨c2,hc2⟩:∃c2,(h'.update S (bM λ_=>#[v,v])).get? S=a8 (cR "list" #[v,v] c2):=⟨_,iH oS' λ_=>#[v,v]⟩
   simp only[if_true];refine aa ?_;refine iD oS' rfl (aa (dn ?_));rw[hname];exact ar ⟨cL Tc _,ih (j+1) _ _ v c2 nofun hlt (I2.chg (ch:=[S,I]) fp λb o hb e=>(s1.2 b (λz=>hb (by simp[z]))).trans e) hc2
    ⟨oI,(s1.2 I hSI.symm).trans eI,cI,dI⟩ (by simp only[aN,hb,if_true];exact hx1) rv1⟩
  |false =>simp only[Pn,if_false];refine aa (dn ?_);rw[hname];exact ar ⟨cL Tc _,ih (j+1) _ x u c nofun hlt I2 oS' ⟨oI,eI,cI,dI⟩ (by simp only[aN,hb,Pn,if_false];exact hx) ru⟩
def ja8(bt:Nat->Nat->Bool)(hh:X.A.handled=af){Q:VK}{E:k9l}(I0:Inv X pins σ H s)(hl:SqL X.K H l xs)(hne:0<xs.length)(cmp:jnb X pins σ H xs bt)
  (hQ:∀x,xs[aN bt (xs.length-1)]?=a8 x->Q x H):ay (aB X.prog X.w) X.A (call (.builtin "min") [.ref l]) (EP X pins σ Q) E s:=by
 have hname:(toString "min" ++ toString ".loop":String) = "min.loop":=by decide
 obtain⟨its0,rv0,p0,_⟩:=I0.list hl;refine call_function_tree PySem.F.kind_min PySem.F.plain_min PySem.F.entry_min (PySem.F.args_min1 _) ?_;show ay _ X.A.in1 (Builtin.Builtins.bindParams "min" ["key","default"] 0 ⟨[],[]⟩ >>= _) _ _ s;refine aa (ir (show Builtin.Builtins.bindParams "min" ["key","default"] 0 ⟨[],[]⟩=pure [af,af]from rfl) ?_);refine aa (ar ?_);refine aa (bJ p0.isList ?_);refine aa (jG ?_ (S9 _));rw[hname];generalize hA:s.heap.push { cls:=.type "list_iterator",data:=.fields #[.ref l,.int 0 0] }=h1;have z1:h1.objs.size=s.heap.objs.size+1:=by rw[<-hA];exact size_push' ..
 have gI:(h1.push (cR "list" #[] 0)).get? s.heap.objs.size=a8 { cls:=.type "list_iterator",data:=.fields #[.ref l,.int 0 0] }:=by rw[<-hA];exact xj _ (X3 _ rfl)
 have gS:(h1.push (cR "list" #[] 0)).get? h1.objs.size=a8 (cR "list" #[] 0):=X3 _ rfl;have I1:Inv X pins σ H { s with heap:=h1.push (cR "list" #[] 0) }:=I0.kept (t':=s.toks) λb o e=>xj _ (by rw[<-hA];exact xj _ e);have fI:Qz X pins H s.heap.objs.size:=I0.fpOk (X8 _) (I0.hok.fresh (X8 _));have fS:Qz X pins H h1.objs.size:=I0.fpOk (by rw[z1];exact de _) (I0.hok.fresh (by rw[z1];exact de _));have hSI:h1.objs.size≠s.heap.objs.size:=by rw[z1];exact Pr (d5 _)
 have fp:∀b∈[h1.objs.size,s.heap.objs.size],Qz X pins H b:=λb hb=>by
  rcases Xb.mp hb with e|hb
  .subst e;exact fS
  .rw[xu.mp hb];exact fI
 refine ar ⟨cL Tc _,?_⟩;obtain⟨its,rv,p,_⟩:=I1.list hl;have hlen:=rv.length;have hx0:xs[0]?=a8 xs[0]:=by simp[hne]
 obtain⟨v,hv,rv1⟩:=rv.get hx0;refine b8 dY ?_;rw[T5 Tc _];show ay _ X.A.in1 (ib (.ref _) >>= _) _ _ _;refine aa (bg gS rfl ?_);show ay _ X.A.in1 (tryCatch (cZ (.ref s.heap.objs.size)) _ >>= _) _ _ _;refine aa (fM (fc (i:=0) ⟨_,gI,rfl,rfl⟩ p.isList (x:=v) (by simpa using hv) λh' it' sb=>?_));have I2:Inv X pins σ H { s with heap:=h' }:=I1.chg (ch:=[h1.objs.size,s.heap.objs.size]) fp λb o hb e=>(sb.2 b (λz=>hb (by simp[z]))).trans e;have oS':h'.get? h1.objs.size=a8 (cR "list" #[] 0):=(sb.2 _ hSI).trans gS;obtain⟨oI,eI,cI,dI⟩:=id it';have s1:=Tt h' h1.objs.size (bM λ_=>#[v,v]);obtain⟨c2,hc2⟩:∃c2,(h'.update h1.objs.size (bM λ_=>#[v,v])).get? h1.objs.size=a8 (cR "list" #[v,v] c2):=⟨_,iH oS' λ_=>#[v,v]⟩
 show ay _ X.A.in1 (updateSeq h1.objs.size (λ_=>#[v,v]) >>= _) _ _ _;refine aa ?_;refine iD oS' rfl ?_;rw[hname];exact ar ⟨cL Tc _,jhf bt hh hl hSI fS fI cmp (λx u s' hx ru I=>⟨x,H,I,ru,hQ x hx⟩) _ 0 _ _ v c2 rfl hne
  (I2.chg (ch:=[h1.objs.size,s.heap.objs.size]) fp λb o hb e=>(s1.2 b (λz=>hb (by simp[z]))).trans e) hc2 ⟨oI,(s1.2 _ hSI.symm).trans eI,cI,dI⟩ hx0 rv1⟩
end
noncomputable def Q0(l:List zo)(i j:Nat):Bool:=HT.lexLt (l.getD i []) (l.getD j [])
section
variable{X:Cx}{ρ:Rho}{a:av}{l:List zo}{k:zo}{p pos:aP}
def DT.minT (hu:X.A.units+100<aU) (hcalm:X.calm=ae) (hm:X.mg "min" = af) (hg:Gl X "min") (ha:DT X ρ a (.lst (l.map λk=>D.tup (k.map D.int)))) (hk:l[aN (Q0 l) (l.length-1)]?=a8 k) (hs:aj [a] X.env=[(a9,aC a X.env)]) :
  DT X ρ (.Call (.Name "min" p) [a] [] pos) (.tup (k.map D.int)):=λσ H Q R q pins s I=>by
 refine aM (Jl I hg hm kM ?_ (by decide) (by decide));refine callWith_builtin1 (thn ((ji (es:=[]) peS qb hs).to (σ:=σ) (H:=H) (Q:=λvs H1=>∃v,vs=[v]/\j0 H H1/\Enc X.K H1 (.lst (l.map λk=>D.tup (k.map D.int))) v) (ha σ H _ R λv H1 g1 e1=>⟨v,rfl,g1,e1⟩) pos pins s I) λus s1 ⟨vs,H1,I1,r1,v,ev,g1,e1⟩=>?_) hs rfl;subst ev;obtain⟨b,xs,eb,sq,en⟩:=e1;subst eb;obtain⟨u,eu,ru⟩:=r1.one;subst eu;cases(show u=aI b from ru);have hlen:xs.length=l.length:=by rw[en.length,xg]
 have hin:=(Xe.mp hk).1;have item:∀{i:Nat}{x:V},xs[i]?=a8 x->∃t,x=.ref t/\SqT X.K H1 t ((l.getD i []).map V.int)/\Enc X.K H1 (.tup ((l.getD i []).map D.int)) x:=λ{i x} hx=>by
  obtain⟨d,hd,ed⟩:=en.get' hx;rw[xm]at hd;obtain⟨k',hk',ek⟩:=Pb.mp hd;subst ek;have eg:l.getD i []=k':=by rw[xf,hk'];rfl
  rw[eg];obtain⟨t,ys,e1,sq',l'⟩:=id ed;rw[zg l']at sq';exact⟨t,e1,sq',ed⟩
 refine ja8 (Q0 l) (I.ok.hd hcalm) I1 sq nofun (λi j x y u v s2 Q2 E2 hx hy rx ry I2 hq=>?_) λx hx=>?_
 .obtain⟨t,e1,s1',_⟩:=item hx;obtain⟨t',e2,s2',_⟩:=item hy;subst e1 e2;cases rx;cases ry;obtain⟨its,r1,p1,_⟩:=I2.tuple s1';obtain⟨its2,r2,p2,_⟩:=I2.tuple s2';exact HT.lt_tupInts (A:=X.A.in1) p1 p2 (intsAre_of r1) (intsAre_of r2) (by show X.A.units+1<aU;omega) hq
 .rw[hlen]at hx;obtain⟨t,e1,_,ed⟩:=item hx;have eg:l.getD (aN (Q0 l) (l.length-1)) []=k:=by rw[xf,hk];rfl
  rw[eg]at ed;exact q x H1 g1 ed
end
section
variable{X:Cx}{ρ:Rho}{it e2:av}{P:Po}{ds:List D}{x t:Nat}{nx nt:au}{p1 p2 p3 p4 p10 p11 p12 p14 p16 p17 p18:aP}
noncomputable abbrev jep(nx nt:au)(it e2:av)(p1 p2 p3 p4 p10 p11 p12 p14 p16 p17 p18:aP):List aX :=
 [.Assign [.Name nx p1] (.Dict [] [] p2) p3,.For (.Name nt p4) it [.Assign [.Subscript (.Name nx p10) (.Name nt p11) p12] e2 p14] [] p16,.Return (a8 (.Name nx p17)) p18]
def DSs.wmake(W:Nat->Rho->List zo->zo->Prop)(rx:x<ρ.length)(rt:t<ρ.length)(hxt:x≠t)(hi:DI X (ρ.set x .un) (.Name nt p4) it ds)(h0:W 0 (ρ.set x .un) [] [])
  (hs:∀i d ρ' ks ns,ds[i]?=a8 d->W i ρ' ks ns->∃k n,d=.tup (k.map D.int)/\DE X ((ρ'.set t (.val d)).set x (.val (.dct ks (ns.map D.int)))) e2 (.int n) /\
   ks.contains k=a9/\ks.length<aw/\W (i+1) (ρ'.set t (.val d)) (ks++[k]) (ns++[n]))
  (hd:∀ρ' ks ns,W ds.length ρ' ks ns->P.rt (.val (.dct ks (ns.map D.int))))
  (hu:X.A.units+100<aU) (hc:X.calm=ae) (hp:g6 (aB X.prog X.w) X.A X.env X.xe) (hN:X.N.Nodup) (hX:X.N[x]?=a8 nx) (hT:X.N[t]?=a8 nt)
  (lx:Loc X.env.scope nx) (lt:Loc X.env.scope nt) (fx:X.fn nx=ae\/X.env.scope.names.lookup nx=a8 .local) (ft:X.fn nt=ae\/X.env.scope.names.lookup nt=a8 .local)
  (dx:(nx==k9o)=a9) (cx:(nx==k9p)=a9) (dt:(nt==k9o)=a9) (ct:(nt==k9p)=a9)
  (s1:aT (.Dict [] [] p2) (a8 (.Name nx p1)) p3.line X.env=pure a9)
  (s3:aT e2 (a8 (.Subscript (.Name nx p10) (.Name nt p11) p12)) p14.line X.env=pure a9) (hf:∀x,aH it X.env x=pure x) :
  DSs X ρ (jep nx nt it e2 p1 p2 p3 p4 p10 p11 p12 p14 p16 p17 p18) P:=λσ H E R q=>by
 have vis:∀{z:au},Loc X.env.scope z->Vis X.env.scope z:=λh=>h.elim .inl λz=>.inr (.inl z);refine(Y6 (Ro hN hX lx j6j s1 fx) (Y6 (j40 hp hc piS (Rq hN hT lt ft) (Nq (j6h hu (vz hX (vis lx) dx cx) (vz hT (vis lt) dt ct) peS s3)) hf)
  (Nq (Ow (vz hX (vis lx) dx cx))))).to ?_
 intro a ha;have R0:Rep X.K (ρ.set x .un) (σ.set x (a8 (.ref a))) H:=R.set_un;have hxl:x<σ.length:=by rw[R.len];exact rx
 refine Kw (A:=[a]) (R':=λJ F=>j0 H F/\Ub X.K (del F (owns (ρ.set x .un))) J ds) (λb hb=>.inr ⟨[],0,by rw[xu.mp hb];exact j8⟩) (by rw[K3 ha];exact hi _ H _ R0 λJ F g ok=>⟨g,ok⟩) λJ F ⟨g,ok⟩ hn=>?_;rw[j0r j8];have fa:F a=af:=hn a (by simp);refine⟨λi m σ' H'=>∃ρ' Fh xs ep ns,H'=upd Fh a (.dI xs ep)/\Fh a=af/\Rep X.K ρ' σ' Fh/\j0 F Fh/\(∀b∈owns ρ',b∈owns (ρ.set x .un))/\ρ'.length=ρ.length/\σ'[x]?=a8 (a8 (.ref a)) /\
   (∀z∈xs,SqT X.K Fh z.2.1 (z.1.map V.int))/\Vals (ns.map V.int) (xs.map λz=>z.2.2)/\W i ρ' (xs.map λz=>z.1) ns/\m=ds.length-i/\i<=ds.length,
  ⟨ds.length,ρ.set x .un,F,[],0,[],rfl,fa,R0.grow g,j0.refl _,λb hb=>hb,by simp,Uv hxl,λz hz=>(nomatch hz),.nil,h0,rfl,S9 _⟩,?_⟩
 rintro i m σ' H' ⟨ρ',Fh,xs,ep,ns,rfl,fha,R',gF,sub,hL,sx,kt,rv,w,rfl,hle⟩;have gU:j0 Fh (upd Fh a (.dI xs ep)):=j6 fha;obtain⟨go,stop,yld⟩:=ok i (upd Fh a (.dI xs ep)) (a::owns ρ') (λb o eb=>by
  obtain⟨nb,eb⟩:=of_del eb
  have nba:b≠a:=λz=>by rw[z,fa]at eb;cases eb
  rw[j5,jk nba]
  .exact gF b o eb
  .intro z
   rcases Xb.mp z with z|z
   .exact nba z
   .exact nb (sub b z)) (λb hb=>by
  rcases Xb.mp hb with z|z
  .rw[z,j8];simp
  .obtain⟨ys,eb⟩:=R'.owned b z
   rw[gU _ _ eb];simp)
 by_cases hlt:i<ds.length
 .obtain⟨k,n,ed,hE2,nk,hkl,w'⟩:=hs i ds[i] ρ' _ ns (kh hlt) w;refine .inr ⟨go hlt,λσ2 H2=>∃ρ2 Fh2 xs2 ep2 ns2,H2=upd Fh2 a (.dI xs2 ep2)/\Fh2 a=af/\Rep X.K ρ2 σ2 Fh2/\j0 F Fh2/\(∀b∈owns ρ2,b∈owns (ρ.set x .un))/\ρ2.length=ρ.length/\σ2[x]?=a8 (a8 (.ref a)) /\
   (∀z∈xs2,SqT X.K Fh2 z.2.1 (z.1.map V.int))/\Vals (ns2.map V.int) (xs2.map λz=>z.2.2)/\W (i+1) ρ2 (xs2.map λz=>z.1) ns2,
   λσ2 H2 ⟨ρ2,Fh2,xs2,ep2,ns2,z1,z2,z3,z4,z5,z5',z6,z7,z8,z10⟩=>⟨ds.length-(i+1),by omega,ρ2,Fh2,xs2,ep2,ns2,z1,z2,z3,z4,z5,z5',z6,z7,z8,z10,rfl,hlt⟩,λv H2 yv=>?_⟩
  obtain⟨g2,en⟩:=yld v H2 yv;have en:=en _ (kh hlt);have h2a:H2 a=a8 (.dI xs ep):=g2 _ _ j8;have e2:H2=upd (del H2 [a]) a (.dI xs ep):=j66 h2a;have f2a:del H2 [a] a=af:=qy (by simp);have gF2:j0 Fh (del H2 [a]):=λb o eb=>by
   have nb:b≠a:=λz=>by rw[z,fha]at eb;cases eb
   rw[j5 (by simpa using nb)];exact g2 b o (gU b o eb)
  have en2:Enc X.K (del (del H2 [a]) (owns ρ')) ds[i] v:=by rw[Zt];exact en
  generalize del H2 [a]=F2 at e2 f2a gF2 en2;subst e2;have R2:Rep X.K (ρ'.set t (.val ds[i])) (σ'.set t (a8 v)) F2:=(R'.grow gF2).set_val en2;have sub2:∀b∈owns (ρ'.set t (.val ds[i])),b∈owns (ρ.set x .un):=λb hb=>sub b ((qe rfl).subset hb);have sx3:(σ'.set t (a8 v))[x]?=a8 (a8 (.ref a)):=by rw[zq (bu hxt)];exact sx
  have lenN:σ'.length=ρ.length:=by rw[R'.len,hL]
  have htl:t<σ'.length:=by rw[lenN];exact rt
  have hL3:(ρ'.set t (.val ds[i])).length=ρ.length:=by rw[Xq,hL]
  have st3:(σ'.set t (a8 v))[t]?=a8 (a8 v):=Uv htl;have kt3:∀z∈xs,SqT X.K F2 z.2.1 (z.1.map V.int):=λz hz=>gF2.seqT (kt z hz);rw[ed]at en2;obtain⟨tb,ys,ev,sq,li⟩:=en2;rw[zg li]at sq;subst ev;have sq3:SqT X.K F2 tb (k.map V.int):=jw.seqT sq;show Jw X e2 (σ'.set t (a8 (V.ref tb))) (upd F2 a (.dI xs ep)) _;generalize σ'.set t (a8 (V.ref tb))=σ3 at R2 sx3 st3 ⊢;generalize ρ'.set t (.val ds[i])=ρ3 at R2 sub2 hL3 hE2 w' ⊢;have g4:j0 F2 (upd F2 a (.dI xs ep)):=j6 f2a;have hO:∀b∈owns ρ3,Hd (upd F2 a (.dI xs ep) b):=λb hb=>.inl (let ⟨zs,e⟩:=R2.owned b hb;⟨zs,g4 _ _ e⟩);have na:a∉owns ρ3:=λz=>by obtain⟨zs,e⟩:=R2.owned a z;rw[f2a]at e;cases e
  have R4:Rep X.K (ρ3.set x (.val (.dct (xs.map λz=>z.1) (ns.map D.int)))) σ3 (upd F2 a (.dI xs ep)):=by
   have z:=(R2.grow g4).set_val (i:=x) (d:=.dct (xs.map λz=>z.1) (ns.map D.int)) (v:=.ref a) ⟨a,xs,ep,ns.map V.int,rfl,by rw[j5 na];exact j8,rfl,λz hz=>?_,rv,j4w hO (qt ns) (j4.ints ns)⟩
   .rw[Cq sx3]at z;exact z
   .have e:Enc X.K (upd F2 a (.dI xs ep)) (.tup (z.1.map D.int)) (.ref z.2.1):=⟨_,_,rfl,g4.seqT (kt3 z hz),j4.ints z.1⟩
    obtain⟨b,zs,e1,e2,e3⟩:=e.hide hO (by rw[Jy];exact qt z.1);cases e1;rw[zg e3]at e2;exact e2
  refine hE2 σ3 _ _ R4 λv4 H4 g5 en4=>?_;cases(show v4=.int n from en4);have h4a:H4 a=a8 (.dI xs ep):=g5 _ _ j8;have f4a:del H4 [a] a=af:=qy (by simp);have gF4:j0 F2 (del H4 [a]):=λb o eb=>by
   have nb:b≠a:=λz=>by rw[z,f2a]at eb;cases eb
   rw[j5 (by simpa using nb)];exact g5 b o (g4 b o eb)
  have gU4:j0 (del H4 [a]) H4:=jw;refine⟨.ref a,sx3,.ref tb,st3,a,tb,xs,ep,k,rfl,h4a,λz hz=>gU4.seqT (gF4.seqT (kt3 z hz)),rfl,gU4.seqT (gF4.seqT sq3),nk,by rw[xg]at hkl;exact hkl,λu ep' ru=>?_⟩;refine⟨ρ3,del H4 [a],xs++[(k,tb,u)],ep',ns++[n],?_,f4a,R2.grow gF4,gF.trans (gF2.trans gF4),sub2,hL3,sx3,λz hz=>?_,?_,by rw[Xi];exact w'⟩
  .funext b
   by_cases z:b=a
   .subst z;rw[j8,j8]
   .rw[jk z,jk z,j5 (by simpa using z)]
  .rcases P0.mp hz with hz|hz
   .exact gF4.seqT (kt3 z hz)
   .rw[xu.mp hz];exact gF4.seqT sq3
  .rw[Xi,Xi];exact rv.append (.cons ru .nil)
 .have e:i=ds.length:=by omega
  subst e;refine .inl ⟨stop (X8 _),.ref a,sx,?_⟩;refine q.rt (.val (.dct _ (ns.map D.int))) (.ref a) _ (hd ρ' _ ns w) ⟨λb o eb=>gU b o (gF b o (g b o (of_del eb).2)),a,xs,ep,ns.map V.int,rfl,j8,rfl,λz hz=>gU.seqT (kt z hz),rv,j4.ints ns⟩
end
noncomputable def j7z(p q:Int×zo):Bool:=if p.1=q.1 then HT.lexLt p.2 q.2 else decide (p.1<q.1)
noncomputable def Vb(l:List (Int×zo))(i j:Nat):Bool:=j7z (l.getD i (0,[])) (l.getD j (0,[]))
noncomputable def pairD(p:Int×zo):D:=.tup [.int p.1,.tup (p.2.map D.int)]
theorem Iu:∀l:zo,HT.lexLt l l=a9
 |[]=>rfl
 |x::l=>by rw[HT.lexLt_cons,if_pos rfl,Iu l]
theorem K1:∀l:zo,D.depL (l.map D.int)=0
 |[]=>rfl
 |x::l=>by rw[X7,D.depL,K1 l];rfl
theorem j2a:∀{ns ms:zo},z9 (ns.map D.int) (ms.map D.int)=ae->ns=ms
 |[],[],_=>rfl
 |[],_::_,h=>nomatch h
 |_::_,[],h=>nomatch h
 |x::ns,y::ms,h=>by rw[X7,X7,vh,Xl]at h;rw[j2a h.2,show x=y from by simpa [Ej]using h.1]
section
open PySem.SeqAt
open PySem.AutoSeq1 (wpAny_loadPart')
open PySem.MeetsSeq PySem.MeetsSeq2 PySem.MeetsSeq3
def j2n(l b x y:ai)(a c:Int)(t u:iy)(n n2:Nat)(dd dd2:Option ai)(sl sl2:Array (Option ah))(e r:Bool) :
  jV (cC.«tuple.__lt__» ⟨[.ref l,.ref b],[]⟩)
   (λA R s=>s.heap.get? l=a8 { cls:=.type "tuple",dict:=dd,data:=.seq #[.int a t,.ref x] n,slots:=sl }/\s.heap.get? b=a8 { cls:=.type "tuple",dict:=dd2,data:=.seq #[.int c u,.ref y] n2,slots:=sl2 } /\
    EqAt A.in1 s (.ref x) (.ref y) e/\(∀(prog:az)(w:aD)(E:k9l)(Q:k9l),Q (.bool r) s->ay (aB prog w) A.in1 (iu .Lt (.ref x) (.ref y)) Q E s) /\
    R (.ok (.ret (.bool (if a=c then(if e=ae then a9 else r)else decide (a<c))))) s) :=
 .of_wp λprog w A R s h=>by
  obtain⟨hp,g,d,tk,os⟩:=s;obtain⟨hl,hb,hx,hr,h⟩:=h;have f2:=gP
  wp_walk using dH hl,dH hb,ia _ (λrest b s'=>b.1=af/\s'=⟨hp,g,d,tk,os⟩ /\
   (rest=[(bB a t,bB c u),(aI x,aI y)]\/(rest=[(aI x,aI y)]/\a=c)\/(rest=[]/\a=c/\e=ae))) _
  case turn =>
   rintro⟨y',x'⟩ rest b s' ⟨hb',rfl,hz⟩;rcases hz with hz|⟨hz,ac⟩|⟨hz,_⟩
   .injection hz with hyx hrest;injection hyx with hy hx';subst hy hx';obtain⟨e',he,hiff⟩:=HT.eqAt_int A.in1 ⟨hp,g,d,tk,os⟩ a t c u;refine aa (he prog w _ _ ?_);cases e' with
    |true =>
     wp_walk
     exact⟨rfl,rfl,.inr (.inl ⟨hrest,hiff.mp rfl⟩)⟩
    |false =>
     rw[if_neg (λq=>absurd (hiff.mpr q) xq)]at h;have hri:=HT.rcLt_int A.in1 ⟨hp,g,d,tk,os⟩ a t c u prog w
     wp_walk using hri
     exact⟨_,rfl,by simpa using h⟩
   .injection hz with hyx hrest;injection hyx with hy hx';subst hy hx';refine aa (hx prog w _ _ ?_);rw[if_pos ac]at h;cases e with
    |true =>
     wp_walk
     exact⟨rfl,rfl,.inr (.inr ⟨hrest,ac,rfl⟩)⟩
    |false =>
     have hri:=hr prog w
     wp_walk using hri
     exact⟨_,rfl,by simpa using h⟩
   .cases hz
  case fin =>
   rintro⟨b1,b2⟩ s' ⟨hb',rfl,hz⟩;simp only at hb';subst hb';rcases hz with hz|⟨hz,ac⟩|⟨hz,ac,e1⟩
   .cases hz
   .cases hz
   .rw[if_pos ac,if_pos e1]at h
    wp_walk
    exact⟨_,rfl,by simpa [eU]using h⟩
  case h =>exact⟨rfl,rfl,.inl rfl⟩
end
section
variable{X:Cx}{ρ:Rho}{a:av}{l:List (Int×zo)}{k:Int×zo}{p pos:aP}
def DT.minP (hu:X.A.units+100<aU) (hcalm:X.calm=ae) (hm:X.mg "min" = af) (hg:Gl X "min") (ha:DT X ρ a (.lst (l.map pairD))) (hk:l[aN (Vb l) (l.length-1)]?=a8 k) (hs:aj [a] X.env=[(a9,aC a X.env)]) :
  DT X ρ (.Call (.Name "min" p) [a] [] pos) (pairD k):=λσ H Q R q pins s I=>by
 refine aM (Jl I hg hm kM ?_ (by decide) (by decide));refine callWith_builtin1 (thn ((ji (es:=[]) peS qb hs).to (σ:=σ) (H:=H) (Q:=λvs H1=>∃v,vs=[v]/\j0 H H1/\Enc X.K H1 (.lst (l.map pairD)) v) (ha σ H _ R λv H1 g1 e1=>⟨v,rfl,g1,e1⟩) pos pins s I) λus s1 ⟨vs,H1,I1,r1,v,ev,g1,e1⟩=>?_) hs rfl;subst ev;obtain⟨b,xs,eb,sq,en⟩:=e1;subst eb;obtain⟨u,eu,ru⟩:=r1.one;subst eu;cases(show u=aI b from ru);have hlen:xs.length=l.length:=by rw[en.length,xg]
 have hin:=(Xe.mp hk).1;have item:∀{i:Nat}{x:V},xs[i]?=a8 x->Enc X.K H1 (pairD (l.getD i (0,[]))) x:=λ{i x} hx=>by
  obtain⟨d,hd,ed⟩:=en.get' hx;rw[xm]at hd;obtain⟨k',hk',ek⟩:=Pb.mp hd;subst ek;have eg:l.getD i (0,[])=k':=by rw[xf,hk'];rfl
  rw[eg];exact ed
 have part:∀{q:Int×zo}{x:V},Enc X.K H1 (pairD q) x->∃t y,x=.ref t/\SqT X.K H1 t [.int q.1,.ref y]/\SqT X.K H1 y (q.2.map V.int)/\Enc X.K H1 (.tup (q.2.map D.int)) (.ref y):=λ{q x} ed=>by obtain⟨t,ys,e1,sq',l'⟩:=ed;obtain⟨v1,ys1,rfl,e2,v2,ys2,rfl,e3,rfl⟩:=l';cases(show v1=.int q.1 from e2);obtain⟨y,zs,e4,sq2,l4⟩:=id e3;subst e4;rw[zg l4]at sq2;exact⟨t,y,e1,sq',sq2,e3⟩
 refine ja8 (Vb l) (I.ok.hd hcalm) I1 sq nofun (λi j x y u v s2 Q2 E2 hx hy rx ry I2 hq=>?_) λx hx=>?_
 .obtain⟨t,x1,e1,s1',s1'',en1⟩:=part (item hx);obtain⟨t',y1,e2,s2',s2'',en2⟩:=part (item hy);subst e1 e2;cases rx;cases ry;obtain⟨its,r1,p1,_⟩:=I2.tuple s1';obtain⟨its2,r2,p2,_⟩:=I2.tuple s2';obtain⟨itx,rx1,px,_⟩:=I2.tuple s1'';obtain⟨ity,ry1,py,_⟩:=I2.tuple s2'';obtain⟨_,_,rfl,⟨k1,rfl⟩,eu⟩:=r1.two;obtain⟨_,_,rfl,⟨k2,rfl⟩,ev⟩:=r2.two;cases eu;cases ev;have hE:=(Y5 I2 1 X.A.in1.in1 (d:=.tup ((l.getD i (0,[])).2.map D.int)) (d':=.tup ((l.getD j (0,[])).2.map D.int)) (by rw[D.dep,K1];decide) (by show X.A.units+1+1+1<aU;omega) (by rw[D.dep,K1];decide) en1 rfl en2 rfl).2;obtain⟨⟨cls,dd,data,sl⟩,ho,hc,n,hd⟩:=id p1;obtain⟨⟨cls2,dd2,data2,sl2⟩,ho2,hc2,n2,hd2⟩:=id p2;simp only at hc hd hc2 hd2;subst hc hd hc2 hd2;have hb:Vb l i j=if (l.getD i (0,[])).1=(l.getD j (0,[])).1 then(if deq (.tup ((l.getD i (0,[])).2.map D.int)) (.tup ((l.getD j (0,[])).2.map D.int))=ae then a9 else HT.lexLt (l.getD i (0,[])).2 (l.getD j (0,[])).2)else decide ((l.getD i (0,[])).1<(l.getD j (0,[])).1):=by
   show(if _ then _ else _)=_;split
   .split
    .rename_i h;rw[Ei]at h;rw[j2a h,Iu]
    .rfl
   .rfl
  rw[hb]at hq;exact kc (op:=.Lt) ⟨_,ho,rfl⟩ ⟨_,ho2,rfl⟩ ip i8 (i4 _ _) (j2n t t' x1 y1 _ _ _ _ n n2 dd dd2 sl sl2 _ _)
   ⟨ho,ho2,hE,λprog w E Q h=>HT.lt_tupInts (A:=X.A.in1.in1) px py (intsAre_of rx1) (intsAre_of ry1) (by show X.A.units+1+1<aU;omega) h,(λx=>nomatch x),hq⟩ (by show X.A.units+1<aU;omega)
 .rw[hlen]at hx;have ed:=item hx;have eg:l.getD (aN (Vb l) (l.length-1)) (0,[])=k:=by rw[xf,hk];rfl
  rw[eg]at ed;exact q x H1 g1 ed
end
section
variable{X:Cx}{ρ:Rho}{a b e k:av}{rest:List aX}{P:Po}{kvs:List (au×Int)}{z:au}{n:Int}{i j:Nat}{nx ny:au}{pos pos' p p1 p2 p3 p4 p5 p6 p7 p8:aP}{td ty tv:TE}{o value:av}
def ja4 (hu:X.A.units+100<aU):MtR X "list.index" (λx vs H Q=>∃t xs ds d y k,x=.ref t/\vs=[y]/\SqL X.K H t xs/\j4 X.K H ds xs/\Enc X.K H d y/\D.depL ds<=97/\d.dep<10000/\ixD d ds=a8 k/\Q (.int (k:Nat)) H):=by
 rintro pins s σ H x vs v us Q I rx rv ⟨t,xs,ds,d,y,k,e,e',sq,l,en,hd,nd,hk,q⟩;subst e e';cases rx;obtain⟨u,eu,ru⟩:=rv.one;subst eu;obtain⟨its,ri,⟨⟨cl,dd,da,sl⟩,n,h1,h2,h4,h3⟩,hz0⟩:=I.list sq;have h2:cl=.type "list":=h2;have h3:da=.seq its.toArray n:=h3;subst h2 h3;obtain⟨z,hz,ez,fz⟩:=j4m hk;have ll:=l.length;have rl:=ri.length;have hks:k<its.toArray.size:=by have:=(Xe.mp hz).1;simp;omega
 have at_:∀(j:Nat)(h:j<its.toArray.size)(z:D),ds[j]?=a8 z->eqW X H d its.toArray[j]=deq z d:=λj h z hz=>by
  obtain⟨x,hx,ex⟩:=l.get hz;obtain⟨w,hw,rw⟩:=ri.get hx;have g1:its.toArray[j]=w:=by simp at h ⊢;rw[kh (by simpa using h)]at hw;exact ax hw
  have:=D.depL_le hz;rw[g1];exact Bq I nofun ex rw
 have hn:=Uz;have hks':k<its.length:=by simpa using hks
 refine bD jA ⟨_,h1,rfl⟩ F.entry_list_index (F.args_list_index_2 _ _) (SeqAt.list_indexAt t its.toArray n dd sl u (eqW X H d) k hks nofun (by rw[at_ k hks z hz];exact ez) (λj h hj=>?_))
  ⟨h1,λy hy=>Y8 (n:=97) I en ru nd (by show X.A.units+1+97<aU;omega) hd l ri y (by simpa using hy),⟨.int _,H,I.tok _,⟨_,rfl⟩,q⟩⟩
 have hlt:j<ds.length:=by simp at h;omega
 rw[at_ j h ds[j] (kh hlt)];exact fz j _ hj (kh hlt)
def DE.indexL  {d:D} {k':Nat} (hu:X.A.units+100<aU) (ha:DT X ρ a (.lst ds)) (hb:DT X ρ b d) (hd:D.depL ds<=97) (nd:d.dep<10000) (hk:ixD d ds=a8 k') (hbase:aL a "index" X.env (aC a X.env)=aC a X.env)
  (hfew:((aR p2 (aj [b] X.env)).all (λx=>!x.1)&&(br p2 (aV [] X.env)).all (λx=>x.1.isSome)
   && decide (([b]:List av).length+([]:List aS).length+(if ([]:List aS).isEmpty then 0 else 1)<30))=ae) (hline:(p1.endLine==p2.line)=ae)
  (hs:aj [b] X.env=(a9,aC b X.env)::aj [] X.env):DE X ρ (.Call (.Attribute a "index" p1) [b] [] p2) (.int (k':Nat)):=λσ H Q R q =>
 (Ud Tn jA PySem.F.type_list_index (ja4 hu) peS (ji peS qb hs) hbase hfew hline hs rfl).to (ha σ H _ R λv H1 g1 ⟨t,xs,e,sq,l⟩=>⟨by rw[e];exact .inl ⟨rfl,xs,sq⟩,hb σ H1 _ (R.grow g1) λu H2 g2 e2 =>
  ⟨t,xs,ds,d,u,k',e,rfl,g2.seq sq,l.mono g2,e2,hd,nd,hk,q _ H2 (g1.trans g2) rfl⟩⟩)
end
noncomputable def zx:zo->Int
 |[]=>0
 |a::r=>r.foldl max a
theorem j27:∀(r:zo)(a:Int),r.foldl max a∈a::r/\∀b∈a::r,b<=r.foldl max a
 |[],a=>⟨xu.mpr rfl,λb hb=>by rw[xu.mp hb];exact Sg _⟩
 |c::r,a=>by
  rw[Tp];obtain⟨h1,h2⟩:=j27 r (max a c);refine⟨?_,λb hb=>?_⟩
  .rcases Xb.mp h1 with z|z
   .rw[z];by_cases q:a<=c
    .rw[Int.max_eq_right q];exact xn _ X6
    .rw[Int.max_eq_left nofun];exact X6
   .exact xn _ (xn _ z)
  .have l:=h2 (max a c) X6;rcases Xb.mp hb with z|z
   .rw[z];omega
   .rcases Xb.mp z with z|z
    .rw[z];omega
    .exact h2 b (xn _ z)
variable{ns:zo}
def Lp(h:ns≠[]):zx ns∈ns/\∀b∈ns,b<=zx ns:=by
 cases ns with
 |nil=>exact absurd rfl h
 |cons a r=>exact j27 r a
def j6n{M:Int}(h1:M∈ns)(h2:∀a∈ns,a<=M):zx ns=M:=by
 have hn:ns≠[]:=λe=>by rw[e]at h1;exact nomatch h1
 obtain⟨a,b⟩:=Lp hn;have:=h2 _ a;have:=b _ h1;omega
noncomputable def Jf(ns:zo):Int:=-zx (ns.map λn=>-n)
def j4f(h:ns≠[]):Jf ns∈ns/\∀b∈ns,Jf ns<=b:=by
 obtain⟨h1,h2⟩:=Lp (ns:=ns.map λn=>-n) (by simpa using h);obtain⟨a,ha,e⟩:=xr.mp h1;unfold Jf;refine⟨?_,λb hb=>?_⟩
 .rw[<-e,Int.neg_neg];exact ha
 .have:=h2 _ (xr.mpr ⟨b,hb,rfl⟩);omega
def Nx{M:Int}(h1:M∈ns)(h2:∀a∈ns,M<=a):Jf ns=M:=by
 obtain⟨a,b⟩:=j4f (ns:=ns) λe=>by rw[e]at h1;exact nomatch h1
 have:=h2 _ a;have:=b _ h1;omega
section
variable{X:Cx}{ρ:Rho}{a b e:av}{es:List av}{x y:au}{d:D}{i j:Int}{p p1 p2 p3 p4 pk pos:aP}{ds:List D}
def jeo(I:Inv X pins σ H s)(sq:SqL X.K H l (ns.map V.int))(hne:ns≠[]):∃zs,s.heap.IsList l (fQ zs)/\0<zs.size/\zs.size=ns.length/\∀i,i<zs.size->iw zs i=ns.getD i 0:=by
 obtain⟨its,rv,pl,_⟩:=I.list sq;have hl:its.length=ns.length:=by rw[<-rv.length,xg]
 have val:∀(i:Nat)(v:ah),its[i]?=a8 v->∃t,v=bB (ns.getD i 0) t:=by
  intro i v hv;have hi:i<its.length:=(Xe.mp hv).1;have hi':i<ns.length:=by omega
  obtain⟨w1,hw,rw1⟩:=rv.get (x:=.int (ns.getD i 0)) (i:=i) (by rw[xm,kh hi',xf,kh hi'];rfl);rw[hw]at hv;cases hv;exact rw1
 have hall:AllInts its.toArray:=by intro v hv;obtain⟨i,hi,e⟩:=T6.mp (show v∈its by simpa using hv);obtain⟨t,e'⟩:=val i v (by rw[kh hi,e]);exact⟨_,t,e'⟩
 obtain⟨zs,hz⟩:=hall.items;have pl':=pl.isList;rw[hz]at pl';have hsz:0<zs.size:=by
  have:its.toArray.size=(fQ zs).size:=by rw[hz]
  have h1:0<ns.length:=List.length_pos_iff.mpr hne;simp[fQ]at this;omega
 have hns:∀i,i<zs.size->iw zs i=ns.getD i 0:=by
  intro i hi;obtain⟨v1,e1⟩:∃v,(fQ zs)[i]?=a8 v:=⟨_,cg (by simpa [fQ]using hi)⟩
  obtain⟨t,ht⟩:=kJ e1;rw[<-hz]at e1;obtain⟨t',ht'⟩:=val i _ (by simpa using e1);rw[ht]at ht';exact(Value.int.inj ht').1
 have len:zs.size=ns.length:=by
  have:its.toArray.size=(fQ zs).size:=by rw[hz]
  simp[fQ]at this;omega
 exact⟨zs,pl',hsz,len,hns⟩
def jb8 (hc:X.calm=ae):Z0 X (.builtin "max") (λxs H Q=>∃(l:ai)(ns:zo),xs=[.ref l]/\SqL X.K H l (ns.map V.int)/\ns≠[]/\Q (.int (zx ns)) H):=by
 rintro pins s σ H xs us Q I r ⟨l,ns,e,sq,hne,q⟩;subst e;obtain⟨u,eu,ru⟩:=vals1 r;subst eu;cases ru;obtain⟨zs,pl',hsz,len,hns⟩:=jeo I sq hne;refine max_intList (I.ok.hd hc) pl' hsz λv h' tk hv hk=>?_;obtain⟨t,rfl⟩:=kJ hv;obtain⟨h1,h2⟩:=argBest_gt (iw zs) (zs.size-1);have hM:zx ns=iw zs (aN (λi j=>decide (iw zs i>iw zs j)) (zs.size-1)):=by
  refine j6n ?_ λc hc=>?_
  .rw[hns _ nofun];rw[xf,kh nofun];exact Xx _
  .obtain⟨k,hk,rfl⟩:=T6.mp hc;have:=h2 k nofun
   rw[hns k nofun,xf,kh hk]at this;exact this
 rw[hM]at q;exact⟨.int _,H,I.kept hk,⟨t,rfl⟩,q⟩
def jb6 (hc:X.calm=ae):Z0 X (.builtin "min") (λxs H Q=>∃(l:ai)(ns:zo),xs=[.ref l]/\SqL X.K H l (ns.map V.int)/\ns≠[]/\Q (.int (Jf ns)) H):=by
 rintro pins s σ H xs us Q I r ⟨l,ns,e,sq,hne,q⟩;subst e;obtain⟨u,eu,ru⟩:=vals1 r;subst eu;cases ru;obtain⟨zs,pl',hsz,len,hns⟩:=jeo I sq hne;refine min_intList (I.ok.hd hc) pl' hsz λv h' tk hv hk=>?_;obtain⟨t,rfl⟩:=kJ hv;obtain⟨h1,h2⟩:=argBest_lt (iw zs) (zs.size-1);have hM:Jf ns=iw zs (aN (λi j=>decide (iw zs i<iw zs j)) (zs.size-1)):=by
  refine Nx ?_ λc hc=>?_
  .rw[hns _ nofun];rw[xf,kh nofun];exact Xx _
  .obtain⟨k,hk,rfl⟩:=T6.mp hc;have:=h2 k nofun
   rw[hns k nofun,xf,kh hk]at this;exact this
 rw[hM]at q;exact⟨.int _,H,I.kept hk,⟨t,rfl⟩,q⟩
def DE.max2 (ha:DT X ρ a (.int i)) (hb:DT X ρ b (.int j)) (hm:X.mg "max" = af) (hc:X.calm=ae) (hg:Gl X "max") (hs:aj [a,b] X.env=(a9,aC a X.env)::aj [b] X.env) (hs2:aj [b] X.env=(a9,aC b X.env)::aj [] X.env)
  (hpl:(aR pos (aj [b] X.env)).any (·.1)=a9):DE X ρ (.Call (.Name "max" p) [a,b] [] pos) (.int (if j>i then j else i)):=λσ H Q R q =>
 (Jx (jb9 hc) hg hm boot_max (ji peS (ji peS qb hs2) hs) (by decide) (by decide) hs hpl).to (ha σ H _ R λv H1 g1 e1=>hb σ H1 _ (R.grow g1) λu H2 g2 e2=>⟨i,j,by rw[show v=.int i from e1,show u=.int j from e2],q _ H2 (g1.trans g2) rfl⟩)
def DE.maxL  (ha:DT X ρ a (.lst (ns.map D.int))) (hn:ns≠[]) (hm:X.mg "max" = af) (hc:X.calm=ae) (hg:Gl X "max") (hs:aj [a] X.env=[(a9,aC a X.env)]):DE X ρ (.Call (.Name "max" p) [a] [] pos) (.int (zx ns)):=λσ H Q R q =>(Jx (jb8 hc) hg hm boot_max (ji peS qb hs) (by decide) (by decide) hs).to (ha σ H _ R λv H1 g1 ⟨l,xs,e,sq,en⟩=>⟨l,ns,by rw[e],by rw[zg en]at sq;exact sq,hn,q _ H1 g1 rfl⟩)
def DE.minL  (ha:DT X ρ a (.lst (ns.map D.int))) (hn:ns≠[]) (hm:X.mg "min" = af) (hc:X.calm=ae) (hg:Gl X "min") (hs:aj [a] X.env=[(a9,aC a X.env)]):DE X ρ (.Call (.Name "min" p) [a] [] pos) (.int (Jf ns)):=λσ H Q R q =>(Jx (jb6 hc) hg hm kM (ji peS qb hs) (by decide) (by decide) hs).to (ha σ H _ R λv H1 g1 ⟨l,xs,e,sq,en⟩=>⟨l,ns,by rw[e],by rw[zg en]at sq;exact sq,hn,q _ H1 g1 rfl⟩)
def joe  {fd:aJ} {ps:List au} (hn:0<ps.length) (h:∀(s:aq)(us:List ah)(w:ah),K.In s.heap->us.length+1=ps.length->dP s fd ⟨us,[("prices",w)]⟩ (ps.zip (us++[w]))):KBinds K fd ps ["prices"] kG kGV :=
 ⟨λs us ws hK hl=>by
  match ws,hl with
  |[w],hl=>exact h s us w hK (by simpa [kG]using hl)
  |[],hl=>exact absurd hl (Xj hn)
  |_::_::_,hl=>exact absurd hl (Xj hn),λ{vs us zs ws} r1 r2=>by
  cases r2 with
  |nil=>exact .nil
  |cons a b =>
   cases b with
   |nil=>exact r1.append (.cons a .nil)
   |cons _ _=>exact .nil⟩
def DE.callD {S:List D->D->Prop} (c:Cal X x (spP X.K S)) (hx:x∈j86) (ha:DA X ρ (e::es) ds) (hS:S (ds++[.non]) d) (hg:Gl X x) (hdb:(x==k9o)=a9)
  (he:aj (e::es) X.env=(a9,aC e X.env)::aj es X.env) (hpl:(aR pos (aj es X.env)).any (·.1)=a9):DE X ρ (.Call (.Name x p) (e::es) [] pos) d:=λσ H Q R q=>by
 obtain⟨k,f,fd,ps,F,hr,hm,hk,hb,hd⟩:=c.ex;refine(Rr (dvs:=[.non]) F (hr.mono nofun) hg hm hk (hd hx).1 (.cons rfl .nil) Ii paS hdb he hpl).to (ha σ H _ R λvs H1 g1 e1=>?_);show spP X.K S (vs++[.non]) H1 Q E0;exact⟨owns ρ,ds++[.non],d,R.tb.mono g1,(R.grow g1).owned,e1.append (show j4 X.K _ [D.non] [V.non] from⟨.non,[],rfl,rfl,rfl⟩),hS,λv H2 g2 z=>q v H2 (g1.trans g2) z⟩
end
theorem j4.getE{K:k9k}{H:Hp}:∀{ds:List D}{xs:List V}{k:Nat}{d:D},j4 K H ds xs->ds[k]?=a8 d->∃y,xs[k]?=a8 y/\Enc K H d y/\j4 K H (ds.eraseIdx k) (xs.eraseIdx k)
 |[],_,_,_,_,h=>by simp at h
 |c::ds,xs,0,d,⟨v,r,e,ev,l⟩,h=>by rw[iI]at h;cases h;subst e;exact⟨v,rfl,ev,l⟩
 |c::ds,xs,k+1,d,⟨v,r,e,ev,l⟩,h=>by rw[S6]at h;subst e;obtain⟨y,h1,h2,h3⟩:=j4.getE l h;exact⟨y,by rw[S6];exact h1,h2,⟨v,r.eraseIdx k,rfl,ev,h3⟩⟩
section
variable{X:Cx}{ρ:Rho}{p1 p2 p3 p4 p5 p6 q1 pos:aP}
def DS.apop{w k:Nat}{u:au}{l2:ai}{es:List D}{z:Int}{d:D}{e:av}{P:Po}(hk:ρ[i]?=a8 (.own l ds))(hk2:ρ[w]?=a8 (.own l2 es))(ne:i≠w)(he:DE X ρ e (.int z))(hz:ixN es.length z=a8 k)(hd':es[k]?=a8 d)(hl:ds.length<aw)(hes:es.length<=1000000)
  (h:P.nx ((ρ.set w (.own l2 (es.eraseIdx k))).set i (.own l (ds++[d]))))
  (hN:X.N[i]?=a8 x) (hv:Vis X.env.scope x) (hd:(x==k9o)=a9) (hcd:(x==k9p)=a9) (hN2:X.N[w]?=a8 u) (hv2:Vis X.env.scope u) (hd2:(u==k9o)=a9) (hcd2:(u==k9p)=a9)
  (hst:aj [e] X.env=[(a9,aC e X.env)]) (hst1:aj [.Call (.Attribute (.Name u p4) "pop" p5) [e] [] p6] X.env=[(a9,aC (.Call (.Attribute (.Name u p4) "pop" p5) [e] [] p6) X.env)])
  (hline:(p2.endLine==p3.line)=ae) (hline2:(p5.endLine==p6.line)=ae)
  (hbase:aL (.Name x p1) "append" X.env (aC (.Name x p1) X.env)=aC (.Name x p1) X.env) (hbase2:aL (.Name u p4) "pop" X.env (aC (.Name u p4) X.env)=aC (.Name u p4) X.env)
  (hfew:((aR p3 (aj [.Call (.Attribute (.Name u p4) "pop" p5) [e] [] p6] X.env)).all (λx=>!x.1)&&(br p3 (aV [] X.env)).all (λx=>x.1.isSome)
   && decide (([.Call (.Attribute (.Name u p4) "pop" p5) [e] [] p6]:List av).length+([]:List aS).length+(if ([]:List aS).isEmpty then 0 else 1)<30))=ae)
  (hfew2:((aR p6 (aj [e] X.env)).all (λx=>!x.1)&&(br p6 (aV [] X.env)).all (λx=>x.1.isSome)
   && decide (([e]:List av).length+([]:List aS).length+(if ([]:List aS).isEmpty then 0 else 1)<30))=ae)
  (hs:aT (.Call (.Attribute (.Name x p1) "append" p2) [.Call (.Attribute (.Name u p4) "pop" p5) [e] [] p6] [] p3) af pos.line X.env=pure a9) :
  DS X ρ (.Expr (.Call (.Attribute (.Name x p1) "append" p2) [.Call (.Attribute (.Name u p4) "pop" p5) [e] [] p6] [] p3) pos) P:=λσ H E R q=>by
 obtain⟨hσ,xs,m,en⟩:=R.own i l ds hk;obtain⟨hσ2,ys,m2,en2⟩:=R.own w l2 es hk2;have hp:=Ud (X:=X) (apos:=p5) (cpos:=p6) Tn jO PySem.F.type_list_pop jcu (vz (pos:=p4) hN2 hv2 hd2 hcd2) (ji (peS (e:=e)) qb hst) hbase2 hfew2 hline2 hst rfl;refine(Nr (Ud Tn eF gX Bb (vz hN hv hd hcd) (ji hp qb hst1) hbase hfew hline hst1 rfl) hs).to ?_;refine⟨_,hσ,.inl ⟨rfl,xs,.inl (.inl m)⟩,⟨_,hσ2,.inl ⟨rfl,ys,.inl (.inl m2)⟩,he σ H _ R λv H1 g1 e1=>?_⟩⟩;have e1:v=.int z:=e1;subst e1;obtain⟨s1,s2,s3,s4⟩:=j0y hz;obtain⟨y,gy,ey,el⟩:=(en2.mono (jg g1)).getE hd';have R1:=(R.grow g1).upd_own hk2 el;have hi:(ρ.set w (.own l2 (es.eraseIdx k)))[i]?=a8 (.own l ds):=by rw[T4 (bu ne)];exact hk
 obtain⟨_,xs',m',en'⟩:=R1.own i l ds hi;have p63:(2:Int)^63=9223372036854775808:=by decide
 refine⟨l2,ys,z,k,y,rfl,rfl,g1 _ _ m2,by rw[p63];omega,by rw[p63];omega,by rw[en2.length];exact s1,gy,?_⟩;refine⟨l,xs',y,rfl,rfl,m',by rw[en'.length];exact hl,?_⟩;exact q.nx _ σ _ h (R1.upd_own hi (en'.append (.one (by rw[V6 hk2,Up (Ql hk2)];exact ey)))) (j0.trans (Bh (σ:=σ) hk2 g1) (Bh (σ:=σ) hi (j0.refl _)))
end
noncomputable def ch1(c:Nat):au:=⟨#[c]⟩
noncomputable def chs(y:au):List D:=y.cps.toList.map λc=>D.str (ch1 c)
noncomputable def ascii(y:au):Bool:=y.cps.all (· < 128)
noncomputable def Its(y:au):It:=⟨λi _=>i<y.cps.size,λi H x H'=>H'=H/\∃c,y.cps[i]?=a8 c/\x=.str (ch1 c),λi _=>y.cps.size<=i⟩
def jbs {P:az} {w:aD}  {tg:av} (it:ai) (y:au) (t:iy):Turn P w K tg (Its y) [it] it (λi h=>h.IsStrIter it "str_ascii_iterator" y t i) where
 mem:=by simp
 obj:=λi h st b hb=>by
  have e:b=it:=by simpa using hb
  subst e;obtain⟨o,e,c,d⟩:=st;exact⟨o,e,λv z=>by rw[d]at z;cases z⟩
 keep:=λi h h' st k=>let ⟨o,e,r⟩:=st;⟨o,k it (by simp) o e,r⟩
 item:=by intro X hP hw hK hc i pins s σ H E I hf st hg;subst hP hw hK;obtain⟨f0,f1,f2,f3,f4,f5⟩:=hf it (by simp);have W:=Walks.strAscii (prog:=X.prog) (w:=X.w) (I.ok.hd hc) it y t;refine W.item i s _ _ hg st λv h' tk hv st' kk=>?_;obtain⟨c,u,hcu,rfl⟩:=hv;have I1:Inv X pins σ H { s with heap:=h',toks:=tk }:=I.turned (λb o hb e=>kk b o (by simpa using hb) e) f0 f1 f3 f4 f5;obtain⟨o,e,oc,d⟩:=id st';exact⟨_,rfl,j39 (s:={ s with heap:=h',toks:=tk }) e oc d (by decide) ⟨.str (ch1 c),H,I1,⟨u,rfl⟩,⟨rfl,c,hcu,rfl⟩,st',λb hb=>(hf b hb).1⟩⟩
 done:=by intro X hP hw hK hc i pins s σ H E I hf st hg;subst hP hw hK;obtain⟨f0,f1,f2,f3,f4,f5⟩:=hf it (by simp);exact wpAny_pyNext_ascii_end (I.ok.hd hc) st (by have:y.cps.size<=i:=hg;simp;omega) λh' eb=>⟨rfl,I.turned (t':=s.toks) (λb o hb e=>eb b o hb e) f0 f1 f3 f4 f5⟩
 self:=λ_ _ _ _ _ st h=>wpAny_pyIter_striter_ascii st h
section
variable{X:Cx}{ρ:Rho}{a b c e tg it:av}{y z:au}{i j k:Int}{p p2 pos:aP}
def jd7{F:Hp}(y:au):Ub K F (Its y) (chs y):=λi H A g hA=>by
 have hl:(chs y).length=y.cps.size:=by unfold chs;rw[xg,di]
 rw[hl];refine⟨λh=>h,λh=>h,λx H' ⟨e,c,hc,ex⟩=>?_⟩;subst e ex;refine⟨j0.refl _,λd hd=>?_⟩;unfold chs at hd;rw[xm,eR,hc]at hd;cases hd;rfl
theorem DI.str(h:DT X ρ it (.str y))(ha:ascii y=ae):DI X ρ tg it (chs y):=λσ H R r q pins s I=>by
 refine thn (h σ H (λv H1=>v=.str y/\j0 H H1) r (λv H1 g e=>⟨e,g⟩) pins s I) λv s1 ⟨x,H1,I1,r1,ex,g1⟩=>?_;subst ex;obtain⟨t,rfl⟩:=(show ∃t,v=bV y t from r1)
 refine wpAny_pyIter_ascii ha ?_;refine⟨s1.heap.objs.size,[s1.heap.objs.size],_,_,H1,rfl,I1.kept (t':=s1.toks) λb o e=>xj _ e,jbs _ y t,⟨_,X3 _ rfl,rfl,rfl⟩,λb hb=>?_,q _ H1 g1 (jd7 y)⟩;have e:b=s1.heap.objs.size:=by simpa using hb
 subst e;exact I1.fpOk (X8 _) (I1.hok.fresh (X8 _))
noncomputable def inS(y z:au):Bool:=!(gr z y 0 z.length 1).isEmpty
def j1x:OpR X (aZ .Gt) (λx y H Q=>∃i j,x=.str i/\y=.str j/\Q (.bl (decide (j.cps.toList<i.cps.toList))) H):=by intro pins s σ H x y v u Q I rx ry h;obtain⟨i,j,rfl,rfl,q⟩:=h;obtain⟨t,rfl⟩:=rx;obtain⟨t',rfl⟩:=ry;exact P.gt_str (qj I q rfl)
def DE.ltS(ha:DT X ρ a (.str y))(hb:DT X ρ b (.str z)):DE X ρ (.Compare a [.Lt] [b] pos) (.bl (decide (y.cps.toList<z.cps.toList))):=λσ H Q R q =>(Q6 j1v peS peS (zc _)).to (ha σ H _ R λv H1 g1 e1=>hb σ H1 _ (R.grow g1) λu H2 g2 e2=>⟨y,z,e1,e2,q _ H2 (g1.trans g2) rfl⟩)
def DB.ltS(ha:DT X ρ a (.str y))(hb:DT X ρ b (.str z)):DB X ρ (.Compare a [.Lt] [b] pos) (decide (y.cps.toList<z.cps.toList)):=λσ H Q R q =>(Z3 j1v peS peS (zc _)).to (ha σ H _ R λv H1 g1 e1=>hb σ H1 _ (R.grow g1) λu H2 g2 e2=>⟨y,z,e1,e2,_,rfl,q H2 (g1.trans g2)⟩)
def DE.gtS(ha:DT X ρ a (.str y))(hb:DT X ρ b (.str z)):DE X ρ (.Compare a [.Gt] [b] pos) (.bl (decide (z.cps.toList<y.cps.toList))):=λσ H Q R q =>(Q6 j1x peS peS (zc _)).to (ha σ H _ R λv H1 g1 e1=>hb σ H1 _ (R.grow g1) λu H2 g2 e2=>⟨y,z,e1,e2,q _ H2 (g1.trans g2) rfl⟩)
def DB.gtS(ha:DT X ρ a (.str y))(hb:DT X ρ b (.str z)):DB X ρ (.Compare a [.Gt] [b] pos) (decide (z.cps.toList<y.cps.toList)):=λσ H Q R q =>(Z3 j1x peS peS (zc _)).to (ha σ H _ R λv H1 g1 e1=>hb σ H1 _ (R.grow g1) λu H2 g2 e2=>⟨y,z,e1,e2,_,rfl,q H2 (g1.trans g2)⟩)
theorem DE.inS(ha:DT X ρ a (.str y))(hb:DT X ρ b (.str z))(hm:aO .In b=a9):DE X ρ (.Compare a [.In] [b] pos) (.bl (inS y z)):=λσ H Q R q =>(Q6 j1w peS peS hm).to (ha σ H _ R λv H1 g1 e1=>hb σ H1 _ (R.grow g1) λu H2 g2 e2=>⟨y,z,e1,e2,q _ H2 (g1.trans g2) rfl⟩)
theorem DB.inS(ha:DT X ρ a (.str y))(hb:DT X ρ b (.str z))(hm:aO .In b=a9):DB X ρ (.Compare a [.In] [b] pos) (inS y z):=λσ H Q R q =>(Z3 j1w peS peS hm).to (ha σ H _ R λv H1 g1 e1=>hb σ H1 _ (R.grow g1) λu H2 g2 e2=>⟨y,z,e1,e2,_,rfl,q H2 (g1.trans g2)⟩)
def mulOk_of(h1:1<=k/\k<=1000)(h2:y.length<=1000):MulOk y k:=by
 refine⟨?_,λ_ _=>?_,λ_ _=>?_⟩
 .simp;omega
 .have:(1000:Int)<=(2^63-1)/k:=Int.le_ediv_of_mul_le nofun nofun
  omega
 .have hk:k.toNat<=1000:=by omega
  have:y.length*k.toNat<=1000000:=Nat.mul_le_mul h2 hk;unfold cU;rw[eY];simp;omega
def j7r:OpR X (bh .Mult) (λx y H Q=>∃i k,x=.str i/\y=.int k/\MulOk i k/\Q (.str (k7 i k)) H):=by intro pins s σ H x y v u Q I rx ry h;obtain⟨i,k,rfl,rfl,hm,q⟩:=h;obtain⟨t,rfl⟩:=rx;obtain⟨t',rfl⟩:=ry;exact SB.mul hm λt' tk=>⟨.str _,H,I.un (t':=tk) Un.refl I.hok,⟨_,rfl⟩,q⟩
def DE.mulS(ha:DT X ρ a (.str y))(hb:DT X ρ b (.int k))(h1:1<=k/\k<=1000)(h2:y.length<=1000):DE X ρ (.BinOp a .Mult b pos) (.str (k7 y k)):=λσ H Q R q =>(Wg j7r peS peS).to (ha σ H _ R λv H1 g1 e1=>hb σ H1 _ (R.grow g1) λu H2 g2 e2=>⟨y,k,e1,e2,mulOk_of h1 h2,q _ H2 (g1.trans g2) rfl⟩)
end
structure Ob where
 a:ai
 dx:ai
 b:ai
structure Pm where
 nx:Rho->Nat->Prop
 rt:D->Nat->Prop
 ex:au->Rho->Prop
section
variable{X:Cx}{ρ:Rho}{a:av}{p p1 p2 pos:aP}
theorem ints_of:∀(ns:zo)(its:List ah),Vals (ns.map V.int) its->d4 its ns
 |[],_,.nil=>.nil
 |_::ns,_,.cons ⟨_,e⟩ t=>by subst e;exact .cons _ _ (ints_of ns _ t)
noncomputable def ddI(ns:zo):zo:=firstMet (λi=>ns.getD i 0) ns.length
def DE.lenSetI  (ha:DT X ρ a (.lst (ns.map D.int))) (hc:X.calm=ae) (room:ns.length+1<4096) (hm:X.mg "len" = af) (hm2:X.mg "set" = af) (hg:Gl X "len") (hg2:Gl X "set") (hs:aj [a] X.env=[(a9,aC a X.env)])
  (hs2:aj [.Call (.Name "set" p1) [a] [] p2] X.env=[(a9,aC (.Call (.Name "set" p1) [a] [] p2) X.env)]):DE X ρ (.Call (.Name "len" p) [.Call (.Name "set" p1) [a] [] p2] [] pos) (.int (ddI ns).length):=λσ H Q R q pins s I=>by
 have inner:ay (aB X.prog X.w) X.A (aC (.Call (.Name "set" p1) [a] [] p2) X.env) (λu s2=>∃(S:ai)(H1:Hp),u=.ref S/\Inv X pins σ H1 s2/\j0 H H1/\s2.heap.SetOf (ff X.prog X.w) S (λk'=>(ddI ns).any (· == k')) (ddI ns).length) X.xe s:=by
  refine aM (Jl I hg2 hm2 boot_set ?_);refine callWith_type1 (thn ((ji (es:=[]) peS qb hs).to (σ:=σ) (H:=H) (Q:=λvs H1=>∃(l:ai)(xs:List V),vs=[.ref l]/\j0 H H1/\SqL X.K H1 l xs/\j4 X.K H1 (ns.map D.int) xs) (ha σ H _ R λv H1 g ⟨l,xs,e,sq,en⟩=>⟨l,xs,by rw[e],g,sq,en⟩) p2 pins s I) λus s1 ⟨vs,H1,I1,r,l,xs,ev,g,sq,en⟩=>?_) hs rfl;subst ev;obtain⟨u,eu,r1⟩:=vals1 r;subst eu;cases(show u=aI l from r1);obtain⟨its,rv,pl,_⟩:=I1.list sq;rw[zg en]at rv;have hlen:its.toArray.size=ns.length:=by rw[Xd,<-rv.length,xg]
  refine call_set_list (ns:=ns) (I1.ok.hd hc) pl.isList ?_ (by rw[hlen];show ns.length+1<4096;exact room) λh' tk full old=>?_
  .exact ints_of ns its rv
  .rw[hlen]at full;exact⟨_,H1,rfl,I1.kept (t':=tk) λb o e=>old b o (X4 e) e,g,full⟩
 refine aM (Jl I hg hm du ?_);refine cJ (by rw[hs2];rfl) (eX ?_);show ay _ _ (iL ((a9,aC _ X.env)::aR pos [])) _ _ s;refine dm (thn inner λu s2 h2=>dM ?_);obtain⟨S,H1,rfl,I2,g,⟨o,es,ep,t,ho,hex,hd,hel,hmem,hb,hf,hn⟩⟩:=h2;refine call_len_set ho hex hd hf ?_ ?_
 .have:es.size<4096:=hb;omega
 .rw[hn];exact⟨.int _,H1,I2.tok _,⟨_,rfl⟩,q _ H1 g rfl⟩
def DO.callT {S:List D->List D->Prop}  {e:av} {es:List av} {l:List D} (c:Cal X x (spF X.K S)) (ha:DTA X ρ (e::es) ds) (hS:S ds l) (hn:qw l=ae) (hg:Gl X x) (hdb:(x==k9o)=a9)
  (he:aj (e::es) X.env=(a9,aC e X.env)::aj es X.env) (hpl:(aR pos (aj es X.env)).any (·.1)=a9):DO X ρ (.Call (.Name x p) (e::es) [] pos) l:=λσ H Q R q=>by
 obtain⟨k,f,fd,ps,F,hr,hm,hk,hb,_⟩:=c.ex;refine(Rr F (hr.mono nofun) hg hm hk hb .nil Ii paS hdb he hpl).to (ha σ H _ R λvs H1 g1 e1=>?_);show spF X.K S (vs++[]) H1 Q E0;rw[Pa];exact⟨[],ds,l,R.tb.mono g1,(λa h=>nomatch h),by rw[Qd];exact e1,hS,λa xs H2 g2 n m z=>q a xs H2 (g1.trans g2) (g1.free n) m ((z.mono jw).hide (λc hc=>by
  rcases Xb.mp hc with z|z
  .rw[z];exact .inl ⟨xs,m⟩
  .exact .inl ((R.grow (g1.trans g2)).owned c z)) hn)⟩
end
section
variable{X:Cx}{ρ:Rho}{a:av}{p p1 p2 p3 pos:aP}{y:au}{i n:Int}
def j31:Z0 X (.type "int") (λxs H Q=>∃y n,xs=[.str y]/\hV y=a8 n/\y.length<=640/\Q (.int n) H):=by intro pins s σ H xs us Q I r h;obtain⟨y,n,rfl,hn,hl,q⟩:=h;obtain⟨u,rfl,t,rfl⟩:=vals1 r;exact PySem.W.KIN.call_text hn hl ⟨.int n,H,I.tok _,⟨_,rfl⟩,q⟩
def DE.intS (ha:DT X ρ a (.str y)) (hn:hV y=a8 n) (hl:y.length<=640) (hm:X.mg "int" = af) (hg:Gl X "int") (hs:aj [a] X.env=[(a9,aC a X.env)]):DE X ρ (.Call (.Name "int" p) [a] [] pos) (.int n):=λσ H Q R q =>(Wh j31 hg hm boot_int (ji peS qb hs) (by decide) (by decide) hs).to (ha σ H _ R λv H1 g1 e1=>⟨y,n,by rw[show v=.str y from e1],hn,hl,q _ H1 g1 rfl⟩)
end
section
variable{X:Cx}{ρ:Rho}{e:av}{pos:aP}
noncomputable def tupS(is:zo):au:=(PyData.tuple (is.map PyData.int)).shown
end
def Nf(K:k9k)(a:ai)(ks:List zo)(ns:zo)(F H:Hp):Prop:=∃(xs:List (zo×ai×ah)) (ep:Nat),H=upd F a (.dI xs ep)/\F a=af/\ks=(xs.map λz=>z.1)/\(∀z∈xs,SqT K F z.2.1 (z.1.map V.int))/\Vals (ns.map V.int) (xs.map λz=>z.2.2)
def spD(K:k9k)(S:List zo->zo->List D->D->List zo->zo->Prop):Sp:=λvs H Q _=>∃(a:ai)(F:Hp)(ks:List zo) (ns:zo) (ds:List D) (d:D) (ks':List zo) (ns':zo) (ws:List V),
 vs=.ref a::ws/\TabOk K F/\Nf K a ks ns F H/\j4 K F ds ws/\S ks ns ds d ks' ns'/\∀v F' H',j0 F F'->Nf K a ks' ns' F' H'->Enc K F' d v->Q v H'
end L2
end
section
namespace L2
open PySem PySem.Spec PySem.Calls PyProof.Rows
section
variable{prog:az}{w:aD}{A:aF}{E:k9l}{s:aq}{l:ai}{o:d7}{vs:List ah}{n:Nat}{T:String}
noncomputable def Bw(h:aE)(vs:List ah):aE:=(h.push (cR "list" #[] 0)).update h.objs.size (bM (· ++ vs.toArray))
def j2d(h:aE)(vs:List ah):(Bw h vs).objs.size=h.objs.size+1:=by unfold Bw;rw[Heap.size_update,size_push']
def jia (h:aE):∃c,(Bw h vs).get? h.objs.size=a8 (cR "list" (#[]++vs.toArray) c):=⟨_,iH (X3 _ rfl) _⟩
def j8a {Q:List ah->aq->Prop} (hT:T = "list"\/T = "tuple") (ho:s.heap.get? l=a8 o) (hc:o.cls=.type T) (hd:o.data=.seq vs.toArray n) (hz:vs.length<=aw) (h:Q vs { s with heap:=Bw s.heap vs }) :
  ay (aB prog w) A (lP (.ref l)) Q E s:=by
 unfold lP;refine aa (iT (b8 entry_proto_collect' ?_));refine aa (jG (ar ⟨Code.quiet_builtin _ (by decide +kernel),b8 entry_list_iadd' ?_⟩));have ld:ay (aB prog w) A (load s.heap.objs.size >>= λo=>match o.data with
   |.seq xs _=>pure xs.toList
   |_=>unsupported "internal:collect") Q E { s with heap:=Bw s.heap vs }:=by
  obtain⟨c,hc⟩:=jia (vs:=vs) s.heap;refine aa (lr hc (ar ?_));rw[show((#[]:Array ah)++vs.toArray).toList=vs by simp];exact h
 refine bC (wpAny_extend_seq (A:=A) (hsz:=by simpa using hz) (R:=λr s'=>r=.ok (.ret (.ref s.heap.objs.size))/\s'={ s with heap:=Bw s.heap vs }) (s:={ s with heap:=s.heap.push (cR "list" #[] 0) }) _ l _ 0 hT (X3 _ rfl) (xj _ ho) hc hd ⟨rfl,rfl⟩) (λf s' z=>?_) λe s' z=>absurd z.1 (by simp);cases f with
 |done f=>obtain⟨e,rfl⟩:=z;cases e;exact ld
 |again c=>exact⟨z.1,bK z.2 λr s2 hr=>by obtain⟨rfl,rfl⟩:=hr;exact ld⟩
def j7k {ss:List au} {Q:k9l} (hT:T = "list"\/T = "tuple") (ho:s.heap.get? l=a8 o) (hc:o.cls=.type T) (hd:o.data=.seq vs.toArray n) (hS:ki vs ss) (h64:vs.length<64)
  (h:∀D h' c out ss',s.heap.objs.size<=D->(∀b u,s.heap.get? b=a8 u->h'.get? b=a8 u)->h'.get? D=a8 (cR "list" out c)->ki out.toList ss'->ss'.Perm ss->sortedS ss'=ae->Q (.ref D) { s with heap:=h' }) :
  ay (aB prog w) A (call (.builtin "sorted") [.ref l]) Q E s:=by
 have hz:vs.length<=aw:=by rw[eY];omega
 refine Calls.call_function_entry kind_sorted plain_sorted entry_sorted (args_sorted1 _) ?_;unfold cC.«sorted»;refine aa (m:=checkCount "sorted" 1 1 _) (ar ?_);refine aa (j8a hT ho hc hd hz ?_);refine aa (jG ?_ hz);show ay _ _ _ _ _ { s with heap:=(Bw s.heap vs).push (cR "list" vs.toArray 0) };have oL:((Bw s.heap vs).push (cR "list" vs.toArray 0)).get? (s.heap.objs.size+1)=a8 (cR "list" vs.toArray 0):=by rw[<-j2d s.heap vs];exact X3 _ rfl
 dsimp only;rw[j2d];refine aa (bA (b9 slot_list_sort ⟨_,oL,rfl⟩ entry_list_sort (list_sort_treeK strKind_oneLt oL hS.keysOf (λv₁ v₂ rest e=>keyKind_strs (by rw[<-e];exact hS)) h64 λst' a1 a2=>⟨_,rfl,ar ⟨_,rfl,?_⟩⟩) (args_list_sort _)));obtain⟨ss',h1,h2,h3⟩:=sorted_out_str hS a1 a2;obtain⟨e,he⟩:=sortedAll_at s.heap vs ((arrOf st').map (·.2));exact h _ _ e _ ss' (de _) (λb u z=>sortedAll_old z) he h1 h2 h3
end
def leS(a b:au):Prop:=a.cps.toList<=b.cps.toList
noncomputable def j11(a:au):List au->List au
 |[]=>[a]
 |b::l=>if b.cps.toList<a.cps.toList then b::j11 a l else a::b::l
noncomputable def Vk:List au->List au
 |[]=>[]
 |a::l=>j11 a (Vk l)
def j22{a b c:au}(h:leS a b)(g:leS b c):leS a c:=List.le_trans h g
def j4j{a b:au}(h:leS a b)(g:leS b a):a=b:=by have e:=List.le_antisymm h g;cases a;cases b;exact congrArg Str.mk (Array.toList_inj.mp e)
theorem Be(a:au):∀l,(j11 a l).Perm (a::l)
 |[]=>eG _
 |b::l=>by
  unfold j11;split
  .exact((Be a l).cons b).trans (jM ..)
  .exact eG _
theorem Zc:∀l,(Vk l).Perm l
 |[]=>eG _
 |a::l=>(Be a _).trans ((Zc l).cons a)
theorem j6q{a:au}:∀{l:List au},l.Pairwise leS->(j11 a l).Pairwise leS
 |[],_=>eB ..
 |b::l,h=>by
  obtain⟨h1,h2⟩:=List.pairwise_cons.mp h;unfold j11;split
  .rename_i z;refine List.pairwise_cons.mpr ⟨λc hc=>?_,j6q h2⟩;rcases Xb.mp ((Be a l).mem_iff.mp hc)with e|e
   .rw[e];exact List.le_of_lt z
   .exact h1 c e
  .rename_i z;have z:leS a b:=List.not_lt.mp z;refine List.pairwise_cons.mpr ⟨λc hc=>?_,h⟩;rcases Xb.mp hc with e|e
   .rw[e];exact z
   .exact j22 z (h1 c e)
theorem Nj:∀l,(Vk l).Pairwise leS
 |[]=>.nil
 |_::l=>j6q (Nj l)
theorem j1r:∀(p:au)(l:List au),risingS p l=ae->(p::l).Pairwise leS
 |p,[],_=>eB ..
 |p,x::r,h=>by
  have h:(!ltCps x.cps.toList p.cps.toList&&risingS x r)=ae:=h;rw[Xl,ltCps_eq]at h;have z:leS p x:=List.not_lt.mp (by simpa using h.1);have q:=j1r x r h.2;refine List.pairwise_cons.mpr ⟨λc hc=>?_,q⟩;rcases Xb.mp hc with e|e
  .rw[e];exact z
  .exact j22 z ((List.pairwise_cons.mp q).1 c e)
def j92:∀{l:List au},sortedS l=ae->l.Pairwise leS
 |[],_=>.nil
 |x::r,h=>j1r x r h
variable{l:List au}
def jg5{m:List au}(h:m.Perm l)(hm:sortedS m=ae):m=Vk l :=
 gK (λ_ _ _ _ a b=>j4j a b) (j92 hm) (Nj l) (h.trans (Zc l).symm)
def jc0{m:List au}:Vk l=Vk m↔l.Perm m :=
 ⟨λh=>((Zc l).symm.trans (by rw[h])).trans (Zc m),λh=>gK (λ_ _ _ _ a b=>j4j a b) (Nj l) (Nj m) (((Zc l).trans h).trans (Zc m).symm)⟩
theorem M9:∀{ts:List au}{us:List ah},Vals (ts.map V.str) us->ki us ts
 |[],_,h=>by cases h;exact .nil
 |t::ts,_,h=>by
  cases h with
  |cons r h =>obtain⟨k,rfl⟩:=r;exact .cons t k (M9 h)
theorem Oe:∀{ts:List au}{us:List ah},ki us ts->Vals (ts.map V.str) us
 |_,_,.nil=>.nil
 |_,_,.cons y t h=>.cons ⟨t,rfl⟩ (Oe h)
theorem j4v{K:k9k}{H:Hp}:∀l:List au,j4 K H (l.map D.str) (l.map V.str)
 |[]=>rfl
 |_::l=>⟨_,_,rfl,rfl,j4v l⟩
section
variable{X:Cx}{ρ:Rho}{a:av}{p pos:aP}
def DO.sortedS  {d:D} (hd:d=.lst (l.map D.str)\/d=.tup (l.map D.str)) (h64:l.length<64) (hm:X.mg "sorted" = af) (hg:Gl X "sorted") (ha:DT X ρ a d) (hs:aj [a] X.env=[(a9,aC a X.env)]) :
  DO X ρ (.Call (.Name "sorted" p) [a] [] pos) ((Vk l).map D.str):=λσ H Q R q pins s I=>by
 refine aM (Jl I hg hm boot_sorted ?_);refine callWith_builtin1 (thn ((ji (es:=[]) peS qb hs).to (σ:=σ) (H:=H) (Q:=λvs H1=>∃v,vs=[v]/\j0 H H1/\Enc X.K H1 d v) (ha σ H _ R λv H1 g1 e1=>⟨v,rfl,g1,e1⟩) pos pins s I) λus s1 ⟨vs,H1,I1,r1,v,ev,g1,e1⟩=>?_) hs rfl;subst ev;have key:∃(b:ai)(T:String)(o:d7)(its:List ah)(n:Nat),v=.ref b/\(T = "list"\/T = "tuple")/\s1.heap.get? b=a8 o/\o.cls=.type T/\o.data=.seq its.toArray n/\ki its l:=by
  rcases hd with e|e
  .subst e;obtain⟨b,xs,eb,sq,en⟩:=e1;rw[Yz en]at sq;obtain⟨its,rv,⟨o,n,h1,h2,_,h3⟩,_⟩:=I1.list sq;exact⟨b,_,o,its,n,eb,.inl rfl,h1,h2,h3,M9 rv⟩
  .subst e;obtain⟨b,xs,eb,sq,en⟩:=e1;rw[Yz en]at sq;obtain⟨its,rv,⟨o,h1,h2,n,h3⟩,_⟩:=I1.tuple sq;exact⟨b,_,o,its,n,eb,.inr rfl,h1,h2,h3,M9 rv⟩
 obtain⟨b,T,o,its,n,eb,hT,h1,h2,h3,hS⟩:=key;subst eb;obtain⟨u,eu,ru⟩:=r1.one;subst eu;cases(show u=aI b from ru);refine j7k hT h1 h2 h3 hS (by rw[hS.length];exact h64) λD' h' c out ss' hD kp e hS' hp hm'=>?_;have hf:H1 D'=af:=I1.hok.fresh hD;have es:=jg5 hp hm';subst es;have vv:=Oe hS';have zz:((Vk l).map V.str).length<=aw:=by rw[xg,(Zc l).length_eq,eY];omega
 have I4:=I1.laid (t':=s1.toks) (o:=.lst ((Vk l).map V.str)) kp hD ⟨zz,_,c,vv,by rw[e]⟩;refine⟨.ref D',_,I4,rfl,q _ _ _ (g1.trans (j6 hf)) (g1.free hf) j8 (j4v _)⟩
end
end L2
end
section
namespace L2
open PySem PySem.Spec PyProof.Rows
mutual
noncomputable def flt:D->Bool
 |.non=>ae
 |.bl _=>ae
 |.int _=>ae
 |.str _=>ae
 |.tup l=>jli l
 |_=>a9
noncomputable def jli:List D->Bool
 |[]=>ae
 |d::l=>flt d&&jli l
end
end L2
end
section
namespace L2
noncomputable def Vo(t:Int):zo:=if t=2 then[0,1] else[t]
noncomputable def step(acc:List zo)(f:zo):List zo:=acc.flatMap λa=>f.map λx=>a++[x]
noncomputable def qx(fs:List zo):List zo:=fs.foldl step [[]]
noncomputable def zu:List zo->List zo
 |[]=>[[]]
 |f::fs=>f.flatMap λx=>(zu fs).map (x :: ·)
theorem Ef:∀(fs:List zo) (acc:List zo),fs.foldl step acc=acc.flatMap λa=>(zu fs).map (a ++ ·)
 |[],acc=>by simp[zu]
 |f::fs,acc=>by
  rw[Tp,Ef fs,step,List.flatMap_assoc];congr 1
  funext a
  rw[zu,List.map_flatMap,List.flatMap_map];congr 1
  funext x
  rw[Xf];congr 1
  funext r
  simp
def zy(fs:List zo):qx fs=zu fs:=by rw[qx,Ef];simp
noncomputable def Qj:Nat->List zo
 |0=>[[]]
 |m+1=>(Qj m).map (0 :: ·)++(Qj m).map (1 :: ·)
theorem Yh{b:Int}(hb:0<b)(n c:Int):∀{i m:Nat},i<=m->j7 b i (n+b^m*c)=j7 b i n
 |0,m,_=>rfl
 |i+1,m,h=>by
  rw[j7,j7,Yh hb n c nofun];congr 1;obtain⟨k,rfl⟩:∃k,m=i+(k+1):=⟨m-i-1,by omega⟩
  have hp:b^i≠0:=gj (T8 hb);rw[Int.pow_add,fJ,cX _ _ hp,cS,cT (b^k) b,fJ,Int.add_mul_emod_self_left]
theorem La:∀m:Nat,(ao (2^m)).map (λn=>j7 2 m ((n:Nat):Int))=Qj m
 |0=>rfl
 |m+1=>by
  have e:2^(m+1)=2^m+2^m:=by rw[cq];omega
  rw[e,i5,Xi,Qj,<-La m,Xf,Xf,Xf];have pc:((2^m:Nat):Int)=(2:Int)^m:=by simp
  congr 1
  .apply Xu;intro n hn;have hn':n<2^m:=Xa.mp hn;show j7 2 (m+1) (n:Int)=0::j7 2 m (n:Int);rw[j7];congr 1;have h0:(n:Int)/2^m=0:=Tu nofun (by rw[<-pc];omega)
   rw[h0];rfl
  .apply Xu;intro n hn;have hn':n<2^m:=Xa.mp hn;show j7 2 (m+1) ((2^m+n:Nat):Int)=1::j7 2 m (n:Int);have e1:((2^m+n:Nat):Int)=(n:Int)+2^m*1:=by rw[eW,pc,mX,eQ]
   rw[e1,j7,Yh (by decide) _ _ (X8 m)];congr 1;have hp:(2:Int)^m≠0:=gj (T8 (by decide));have h0:(n:Int)/2^m=0:=Tu nofun (by rw[<-pc];omega)
   rw[cX _ _ hp,h0];rfl
noncomputable def fits:zo->zo->Bool
 |t::ts,x::xs=>(t==2 || t==x)&&fits ts xs
 |_,_=>ae
theorem Bj:∀{p:zo},(∀t∈p,0<=t/\t<3)->(Qj p.length).filter (fits p)=zu (p.map Vo)
 |[],_=>rfl
 |t::ts,h=>by
  have ih:=Bj (p:=ts) λu hu=>h u (xn _ hu);rw[xx,Qj,cF,X7,zu,<-ih];have key:∀x:Int,((Qj ts.length).map (x :: ·)).filter (fits (t::ts))=if (t==2 || t==x)=ae then((Qj ts.length).filter (fits ts)).map (x :: ·) else[]:=λx=>by
   rw[kS];by_cases c:(t==2 || t==x)=ae
   .rw[if_pos c];congr 1;apply List.filter_congr;intro r _;show((t==2 || t==x)&&fits ts r)=fits ts r;rw[c,iA]
   .rw[if_neg c];have:(fits (t::ts) ∘ λr=>x::r)=λ_=>a9:=by
     funext r
     show((t==2 || t==x)&&fits ts r)=a9;rw[Bool.eq_false_iff.mpr c,l9]
    rw[this];simp
  rw[key 0,key 1];have ht:=h t (X6 ..);have:t=0\/t=1\/t=2:=by omega
  rcases this with e|e|e<;>subst e<;>simp[Vo]
theorem Uw:∀p:zo,(zu (p.map Vo)).length=2^(p.countP λt=>t==2)
 |[]=>rfl
 |t::ts=>by
  have ih:=Uw ts;rw[X7,zu,S8];by_cases c:t=2
  .subst c;simp[Vo,ih,cq];omega
  .have e1:Vo t=[t]:=if_neg c;have e2:(t==2)=a9:=by simpa using c
   rw[e1,e2];simp[ih]
end L2
end
section
namespace L2
open PySem
inductive Sv where
 |un
 |val (d:D)
 |own (l:List D)
 |exc (x:au)
noncomputable abbrev En:=List Sv
set_option genInjectivity true in
inductive Rk where
 |e (d:D)
 |o (l:List D)
 |w (l:List D)
 |t (d:D)
noncomputable def Rk.d:Rk->D
 |.e d=>d
 |.o l=>.lst l
 |.w l=>.lst l
 |.t d=>d
noncomputable def Rk.st:Rk->Option D
 |.e d=>a8 d
 |.o l=>a8 (.lst l)
 |.w l=>af
 |.t d=>if Jy d=ae then a8 d else af
noncomputable def Rk.sq:Rk->Option (Bool×List D)
 |.e (.lst l)=>a8 (ae,l)
 |.e (.tup l)=>a8 (a9,l)
 |.o l=>a8 (ae,l)
 |.w l=>a8 (ae,l)
 |_=>af
noncomputable def Rk.lw:Rk->Option (List D)
 |.o l=>a8 l
 |.w l=>a8 l
 |_=>af
inductive Rc where
 |val (d:D)
 |fresh (l:List D)
 |lval (d:D)
 |no
noncomputable def Rc.rk:Rc->Option Rk
 |.val d=>a8 (.e d)
 |.fresh l=>a8 (.o l)
 |_=>af
inductive Bop where
 |add|sub|mul|fdiv|mod|pow|shl|shr|band|bxor
inductive Cop where
 |lt|le|gt|ge|eq|ne|isin|notin
inductive Bf where
 |len|min|max|all|tuple|list|sum|int|any|sorted
inductive Mf where
 |count
inductive Ex where
 |lit (d:D)
 |var (i:Nat)
 |glob (x:au)
 |bin (op:Bop) (a b:Ex)
 |cmp (op:Cop) (a b:Ex)
 |isN (a:Ex)
 |and (a b:Ex)
 |or (a b:Ex)
 |not (a:Ex)
 |ite (c a b:Ex)
 |nil
 |cons (a b:Ex)
 |tup (es:Ex)
 |lst (es:Ex)
 |ix (a b:Ex)
 |sl (a lo hi:Ex)
 |call (f:au) (es:Ex)
 |blt (f:Bf) (es:Ex)
 |meth (m:Mf) (a es:Ex)
 |comp (is:List Nat) (elt it cond:Ex)
 |seq (a:Ex)
 |range (es:Ex)
 |zip (a b:Ex)
 |join (sep:au) (a:Ex)
 |enum (a:Ex)
 |lset (a:Ex)
 |srt (a:Ex)
 |tix (a b:Ex)
 |callD (f:au) (es:Ex)
 |callV (i:Nat) (es:Ex)
 |dget (a b:Ex)
 |dvals (a:Ex)
 |minT (a:Ex)
set_option genInjectivity true in
inductive W where
 |v (r:Rk)
 |a (rs:List Rk)
 |i (ds:List D)
noncomputable def jz(n:Nat):Bool:=decide (n<=aw)
noncomputable def binI:Bop->Int->Int->Option Int
 |.add,i,j=>a8 (i+j)
 |.sub,i,j=>a8 (i-j)
 |.mul,i,j=>if (-(2^64)<i/\i<2^64)\/(-(2^64)<j/\j<2^64)then a8 (i*j)else af
 |.fdiv,i,j=>if 0<j/\j<18446744073709551616 then a8 (i/j)else af
 |.mod,i,j=>if 0<j then a8 (i%j)else af
 |.pow,i,j=>if 0<=j/\j<=1000000/\i.natAbs<2^64 then a8 (i^j.toNat)else af
 |.shl,i,j=>if 0<=j/\j<=1000000/\i.natAbs<2^64 then a8 (i*2^j.toNat)else af
 |.shr,i,j=>if 0<=j then a8 (i/2^j.toNat)else af
 |.band,i,j=>a8 (dj i j)
 |.bxor,i,j=>a8 (bG i j)
noncomputable def W7(op:Bop)(a b:Rk):Option Rk :=
 match a.d,b.d with
 |.int i,.int j=>(binI op i j).map λk=>.e (.int k)
 |.str y,.str z=>match op with
  |.add=>if jz (y.length+z.length)=ae then a8 (.e (.str (y++z)))else af
  |_=>af
 |.str y,.int k=>match op with
  |.mul=>if (1<=k/\k<=1000)/\y.length<=1000 then a8 (.e (.str (k7 y k)))else af
  |_=>af
 |_,_=>match op,a.sq,b.sq,b.d with
  |.add,a8 (ae,l),a8 (ae,m),_=>if jz (l.length+m.length)=ae then a8 (.o (l++m))else af
  |.add,a8 (a9,l),a8 (a9,m),_=>if jz (l.length+m.length)=ae then a8 (.e (.tup (l++m)))else af
  |.mul,a8 (a9,l),_,.int k=>if 1<=k/\k<2^63/\l.isEmpty=a9/\jz (l.length*k.toNat)=ae then a8 (.e (.tup (ak k.toNat l).flatten))else af
  |.mul,_,_,.int k=>match a.lw with
   |some l=>if -(2^63)<=k/\k<2^63/\jz (l.length*k.toNat)=ae then a8 (.o (ak k.toNat l).flatten)else af
   |none=>af
  |_,_,_,_=>af
noncomputable def cmpI:Cop->Int->Int->Option Bool
 |.lt,i,j=>a8 (decide (i<j))
 |.le,i,j=>a8 (decide (i<=j))
 |.gt,i,j=>a8 (decide (j<i))
 |.ge,i,j=>a8 (decide (j<=i))
 |.eq,i,j=>a8 (decide (i=j))
 |.ne,i,j=>a8 (!decide (i=j))
 |_,_,_=>af
noncomputable def D.sqv:D->Option (Bool×List D)
 |.lst l=>a8 (ae,l)
 |.tup l=>a8 (a9,l)
 |_=>af
noncomputable def Qe(op:Cop)(a b:D):Option Bool :=
 match op,a,b with
 |op,.int i,.int j=>cmpI op i j
 |.eq,a,b=>if a.dep<=90/\b.dep<=90 then a8 (deq a b)else af
 |.ne,.bl a,.bl b=>a8 (a != b)
 |.ne,.str a,.str b=>a8 (!decide (a=b))
 |.ne,.non,.non=>a8 a9
 |.ne,.lst l,.lst m=>if D.depL l<=90/\D.depL m<=90 then a8 (!z9 l m)else af
 |.ne,.tup l,.tup m=>if D.depL l<=90/\D.depL m<=90 then a8 (!z9 l m)else af
 |.isin,.str a,.str b=>a8 (inS a b)
 |.lt,.str a,.str b=>a8 (decide (a.cps.toList<b.cps.toList))
 |.gt,.str a,.str b=>a8 (decide (b.cps.toList<a.cps.toList))
 |.isin,a,b=>match b.sqv with
  |some (_,l)=>if D.depL l<=90/\a.dep<=90 then a8 (l.any λe=>deq e a)else af
  |none=>af
 |.notin,a,b=>match b.sqv with
  |some (_,l)=>if D.depL l<=90/\a.dep<=90 then a8 (!l.any λe=>deq e a)else af
  |none=>af
 |_,_,_=>af
noncomputable def boolsOf:List D->Option (List Bool)
 |[]=>a8 []
 |.bl b::r=>(boolsOf r).map (b :: ·)
 |_::_=>af
noncomputable def intsOf:List D->Option zo
 |[]=>a8 []
 |.int b::r=>(intsOf r).map (b :: ·)
 |_::_=>af
noncomputable def strsOf:List D->Option (List au)
 |[]=>a8 []
 |.str b::r=>(strsOf r).map (b :: ·)
 |_::_=>af
noncomputable def V3:Bf->List Rk->Option Rk
 |.len,[a]=>match a.d with
  |.lst l=>a8 (.e (.int l.length))
  |.tup l=>a8 (.e (.int l.length))
  |.str y=>if jz y.length=ae then a8 (.e (.int y.length))else af
  |_=>af
 |.min,[a,b]=>match a.d,b.d with
  |.int i,.int j=>a8 (.e (.int (if j<i then j else i)))
  |_,_=>af
 |.max,[a,b]=>match a.d,b.d with
  |.int i,.int j=>a8 (.e (.int (if j>i then j else i)))
  |_,_=>af
 |.max,[a]=>match a.d with
  |.lst l=>match intsOf l with
   |some ns=>if ns.isEmpty=a9 then a8 (.e (.int (zx ns)))else af
   |none=>af
  |_=>af
 |.min,[a]=>match a.d with
  |.lst l=>match intsOf l with
   |some ns=>if ns.isEmpty=a9 then a8 (.e (.int (Jf ns)))else af
   |none=>af
  |_=>af
 |.all,[a]=>match a.d with
  |.lst l=>(boolsOf l).map λbs=>.e (.bl (bs.all id))
  |_=>af
 |.any,[a]=>match a.d with
  |.lst l=>(boolsOf l).map λbs=>.e (.bl (bs.any id))
  |_=>af
 |.tuple,[a]=>match a.sq with
  |some (_,l)=>a8 (.e (.tup l))
  |none=>af
 |.list,[a]=>match a.sq with
  |some (_,l)=>a8 (.o l)
  |none=>af
 |.sum,[a]=>match a.d with
  |.lst l=>(intsOf l).map λns=>.e (.int ns.sum)
  |.tup l=>(intsOf l).map λns=>.e (.int ns.sum)
  |_=>af
 |.int,[a]=>match a.d with
  |.bl k=>a8 (.e (.int (if k then 1 else 0)))
  |.str y=>if y.length<=640 then(hV y).map λn=>.e (.int n)else af
  |_=>af
 |_,_=>af
noncomputable def j7w:Mf->Rk->List Rk->Option Rk
 |.count,a,[b]=>match a.d with
  |.tup l=>if D.depL l<=90/\b.d.dep<=90 then a8 (.e (.int (l.countP λe=>deq e b.d)))else af
  |.lst l=>if D.depL l<=90/\b.d.dep<=90 then a8 (.e (.int (l.countP λe=>deq e b.d)))else af
  |_=>af
 |_,_,_=>af
noncomputable def qz:List Nat->D->En->Option En
 |[i],d,ρ=>a8 (ρ.set i (.val d))
 |[i,j],d,ρ=>match d with
  |.tup [a,b]=>a8 ((ρ.set i (.val a)).set j (.val b))
  |_=>af
 |[i,j,k],d,ρ=>match d with
  |.tup [a,.tup [b,c]]=>a8 (((ρ.set i (.val a)).set j (.val b)).set k (.val c))
  |_=>af
 |[i,j,k,_],d,ρ=>match d with
  |.tup [a,b,c]=>a8 (((ρ.set i (.val a)).set j (.val b)).set k (.val c))
  |_=>af
 |_,_,_=>af
noncomputable def j3a(is:List Nat)(ρ:En):Bool:=is.all λi=>match ρ[i]? with
 |some .un=>ae
 |_=>a9
noncomputable def Je(f:D->Option (Option D)):List D->Option (List D)
 |[]=>a8 []
 |d::ds=>match f d,Je f ds with
  |some (a8 x),a8 xs=>a8 (x::xs)
  |some af,a8 xs=>a8 xs
  |_,_=>af
noncomputable def vm:List Rk->Option (List D)
 |[]=>a8 []
 |r::rs=>match r.st,vm rs with
  |some d,a8 ds=>a8 (d::ds)
  |_,_=>af
noncomputable def W.one:W->Option Rk
 |.v r=>a8 r
 |_=>af
noncomputable def W.args:W->Option (List Rk)
 |.a rs=>a8 rs
 |_=>af
noncomputable def W.it:W->Option (List D)
 |.i ds=>a8 ds
 |_=>af
noncomputable def Zn:Option W->Option (Option Int)
 |some (.a [])=>a8 af
 |some (.a [r])=>match r.d with
  |.int i=>a8 (a8 i)
  |_=>af
 |_=>af
noncomputable def truth:Option W->Option Bool
 |some (.v r)=>match r.d with
  |.bl k=>a8 k
  |_=>af
 |_=>af
noncomputable def jdg:Ex->Option Nat
 |.seq (.var i)=>a8 i
 |.enum (.var i)=>a8 i
 |_=>af
noncomputable def frz(t:Ex)(ρ:En):En:=match jdg t with
 |some i=>match ρ[i]? with
  |some (.own l)=>ρ.set i (.val (.lst l))
  |_=>ρ
 |none=>ρ
noncomputable def Jm(t:Ex)(ρ:En):Bool:=match jdg t with
 |some i=>match ρ[i]? with
  |some (.own _)=>ae
  |_=>a9
 |none=>a9
noncomputable def jeu:D->Option au
 |.int i=>if -18446744073709551616<i/\i<18446744073709551616 then a8 (cj (toString i))else af
 |.str y=>if y.length<=10000 then a8 y else af
 |.tup l=>match intsOf l with
  |some is=>if (∀i∈is,-18446744073709551616<i/\i<18446744073709551616)/\(tupS is).length<=10000 then a8 (tupS is)else af
  |none=>af
 |_=>af
noncomputable def gq(f:au):au:=("&":au)++f
noncomputable def tupI:D->Option zo
 |.tup l=>intsOf l
 |_=>af
noncomputable def Wa:List D->Option (List zo)
 |[]=>a8 []
 |d::ds=>match tupI d,Wa ds with
  |some k,a8 ks=>a8 (k::ks)
  |_,_=>af
noncomputable def prI:D->Option (Int×zo)
 |.tup [.int a,d]=>(tupI d).map λk=>(a,k)
 |_=>af
noncomputable def j0m:List D->Option (List (Int×zo))
 |[]=>a8 []
 |d::ds=>match prI d,j0m ds with
  |some k,a8 ks=>a8 (k::ks)
  |_,_=>af
noncomputable def Rc.lv:Rc->Option W
 |.lval d=>a8 (.v (.e d))
 |_=>af
noncomputable def j03(s:Option Sv):Option W:=match s with
 |some (.val d)=>a8 (.v (.e d))
 |some (.own l)=>a8 (.v (.w l))
 |_=>af
noncomputable def blW(i:Option Bool):Option W:=i.map λk=>.v (.e (.bl k))
noncomputable def rkW(r:Option Rk):Option W:=r.map .v
noncomputable def Z4(op:Bop)(a b:Option W):Option W:=match a,b with
 |some (.v x),a8 (.v y)=>rkW (W7 op x y)
 |_,_=>af
noncomputable def j16(op:Cop)(a b:Option W):Option W:=match a,b with
 |some (.v x),a8 (.v y)=>blW (Qe op x.d y.d)
 |_,_=>af
noncomputable def consW(a b:Option W):Option W:=match a,b with
 |some (.v x),a8 (.a xs)=>a8 (.a (x::xs))
 |_,_=>af
noncomputable def Wt(a:Option W):Option W:=match a with
 |some (.a rs)=>match vm rs with
  |some ds=>if jz ds.length=ae then a8 (.v (.e (.tup ds)))else af
  |none=>af
 |_=>af
noncomputable def Vm(a:Option W):Option W:=match a with
 |some (.a rs)=>match vm rs with
  |some ds=>if jz ds.length=ae then a8 (.v (.o ds))else af
  |none=>af
 |_=>af
noncomputable def ixW(a b:Option W):Option W:=match a,b with
 |some (.v x),a8 (.v y)=>match x.sq,y.d with
  |some (_,l),.int i=>(atI l i).map λd=>.v (.e d)
  |none,.int i=>match x.d with
   |.str z=>if jz z.length=ae then(atI z.cps.toList i).map λc=>.v (.e (.str ⟨#[c]⟩))else af
   |_=>af
  |_,_=>af
 |_,_=>af
noncomputable def Fe(sep:au)(a:Option W):Option W:=match a with
 |some (.v x)=>match x.d with
  |.lst l=>match strsOf l with
   |some ts=>if fV sep ts=ae then a8 (.v (.e (.str (fb sep ts))))else af
   |none=>af
  |_=>af
 |_=>af
noncomputable def Oj(a b:Option W):Option W:=match a,b with
 |some (.v x),a8 (.v y)=>match x.d with
  |.tup l=>if D.depL l<=90/\y.d.dep<=90 then(ixD y.d l).map λk=>.v (.e (.int (k:Nat)))else af
  |.lst l=>if D.depL l<=90/\y.d.dep<=90 then(ixD y.d l).map λk=>.v (.e (.int (k:Nat)))else af
  |_=>af
 |_,_=>af
noncomputable def j0d(a:Option W):Option W:=match a with
 |some (.v x)=>match x.d with
  |.lst l=>match strsOf l with
   |some ts=>if ts.length<64 then a8 (.v (.o ((Vk ts).map D.str)))else af
   |none=>af
  |.tup l=>match strsOf l with
   |some ts=>if ts.length<64 then a8 (.v (.o ((Vk ts).map D.str)))else af
   |none=>af
  |_=>af
 |_=>af
noncomputable def Fb(a:Option W):Option W:=match a with
 |some (.v x)=>match x.d with
  |.lst l=>match strsOf l with
   |some ts=>if ts.length<4000 then a8 (.v (.e (.int (dd ts).length)))else af
   |none=>match intsOf l with
    |some ns=>if ns.length<4000 then a8 (.v (.e (.int (ddI ns).length)))else af
    |none=>af
  |_=>af
 |_=>af
noncomputable def Fp(a:Option W):Option W:=match a with
 |some (.v x)=>match x.st with
  |some (.lst l)=>a8 (.i (vf l))
  |some (.tup l)=>a8 (.i (vf l))
  |_=>af
 |_=>af
noncomputable def Jq(Γ:au->List D->Rc)(f:au)(a:Option W):Option W:=match a with
 |some (.a rs)=>match vm rs with
  |some ds=>rkW (Γ f ds).rk
  |none=>match Γ f (rs.map Rk.d) with
   |.val d=>a8 (.v (.t d))
   |.fresh l=>if qw l=ae then a8 (.v (.o l))else af
   |_=>af
 |_=>af
noncomputable def zp(f:Bf)(a:Option W):Option W:=match a with
 |some (.a rs)=>rkW (V3 f rs)
 |_=>af
noncomputable def Ny(m:Mf)(a b:Option W):Option W:=match a,b with
 |some (.v x),a8 (.a rs)=>rkW (j7w m x rs)
 |_,_=>af
noncomputable def Cr(a:Option W):Option W:=match a with
 |some (.v (.e (.lst l)))=>a8 (.i l)
 |some (.v (.e (.tup l)))=>a8 (.i l)
 |some (.v (.o l))=>a8 (.i l)
 |some (.v (.e (.str y)))=>if ascii y=ae then a8 (.i (chs y))else af
 |_=>af
noncomputable def Ov(a:Option W):Option W:=match a with
 |some (.a [x])=>match x.d with
  |.int n=>if -(2^62)<=n/\n<2^62 then a8 (.i (upto 0 n.toNat))else af
  |_=>af
 |some (.a [x,y])=>match x.d,y.d with
  |.int m,.int n=>if -(2^62)<=m/\m<2^62/\-(2^62)<=n/\n<2^62 then a8 (.i (upto m (n-m).toNat))else af
  |_,_=>af
 |_=>af
noncomputable def j7a(a b:Option W):Option W:=match a,b with
 |some (.v x),a8 (.v y)=>match x.st,y.st with
  |some (.lst l),a8 (.lst m)=>a8 (.i (M4 l m))
  |some (.lst l),a8 (.tup m)=>a8 (.i (M4 l m))
  |some (.tup l),a8 (.lst m)=>a8 (.i (M4 l m))
  |some (.tup l),a8 (.tup m)=>a8 (.i (M4 l m))
  |_,_=>af
 |_,_=>af
noncomputable def Rx(Γ:au->List D->Rc)(s:Option Sv)(a:Option W):Option W:=match s,a with
 |some (.val (.fn x cs)),a8 (.a rs)=>match vm rs with
  |some ds=>if J2 ds=ae then(Γ (qg x) (cs++ds)).lv else af
  |none=>af
 |_,_=>af
noncomputable def Ft(a b:Option W):Option W:=match a,b with
 |some (.v (.e (.dct ks ds))),a8 (.v y)=>match tupI y.d with
  |some k=>(zj ks ds k).map λd=>.v (.e d)
  |none=>af
 |_,_=>af
noncomputable def Bs(a:Option W):Option W:=match a with
 |some (.v (.e (.dct _ ds)))=>a8 (.v (.e (.tup ds)))
 |_=>af
noncomputable def Wi(a:Option W):Option W:=match a with
 |some (.v x)=>match x.d with
  |.lst l=>match Wa l with
   |some ks=>(ks[aN (Q0 ks) (ks.length-1)]?).map λk=>.v (.t (.tup (k.map D.int)))
   |none=>match j0m l with
    |some ps=>(ps[aN (Vb ps) (ps.length-1)]?).map λk=>.v (.t (pairD k))
    |none=>af
  |_=>af
 |_=>af
noncomputable def ev(Γ:au->List D->Rc)(G:au->Option D):Ex->En->Option W
 |.lit d,_=>a8 (.v (.e d))
 |.var i,ρ=>j03 ρ[i]?
 |.glob x,_=>(G x).map λd=>.v (.e d)
 |.bin op a b,ρ=>Z4 op (ev Γ G a ρ) (ev Γ G b ρ)
 |.cmp op a b,ρ=>j16 op (ev Γ G a ρ) (ev Γ G b ρ)
 |.isN a,ρ=>match ev Γ G a ρ with
  |some (.v x)=>a8 (.v (.e (.bl x.d.isNon)))
  |_=>af
 |.and a b,ρ=>match truth (ev Γ G a ρ) with
  |some a9=>a8 (.v (.e (.bl a9)))
  |some ae=>(truth (ev Γ G b ρ)).map λk=>.v (.e (.bl k))
  |none=>af
 |.or a b,ρ=>match truth (ev Γ G a ρ) with
  |some ae=>a8 (.v (.e (.bl ae)))
  |some a9=>(truth (ev Γ G b ρ)).map λk=>.v (.e (.bl k))
  |none=>af
 |.not a,ρ=>(truth (ev Γ G a ρ)).map λk=>.v (.e (.bl (!k)))
 |.ite c a b,ρ=>match truth (ev Γ G c ρ) with
  |some ae=>match ev Γ G a ρ with
   |some (.v x)=>x.st.map λd=>.v (.e d)
   |_=>af
  |some a9=>match ev Γ G b ρ with
   |some (.v x)=>x.st.map λd=>.v (.e d)
   |_=>af
  |none=>af
 |.nil,_=>a8 (.a [])
 |.cons a b,ρ=>consW (ev Γ G a ρ) (ev Γ G b ρ)
 |.tup es,ρ=>Wt (ev Γ G es ρ)
 |.lst es,ρ=>Vm (ev Γ G es ρ)
 |.ix a b,ρ=>ixW (ev Γ G a ρ) (ev Γ G b ρ)
 |.sl a lo hi,ρ=>match ev Γ G a ρ,Zn (ev Γ G lo ρ),Zn (ev Γ G hi ρ) with
  |some (.v x),a8 l,a8 h=>match x.sq with
   |some (ae,ds)=>a8 (.v (.o (cutD ds l h)))
   |some (a9,ds)=>if HT.sIx ds.length 0 l=0/\HT.sIx ds.length ds.length h=ds.length then af else a8 (.v (.e (.tup (cutD ds l h))))
   |none=>match x.d with
    |.str z=>if jz z.length=ae then a8 (.v (.e (.str (bR z l h))))else af
    |_=>af
  |_,_,_=>af
 |.call f es,ρ=>Jq Γ f (ev Γ G es ρ)
 |.blt f es,ρ=>zp f (ev Γ G es ρ)
 |.meth m a es,ρ=>Ny m (ev Γ G a ρ) (ev Γ G es ρ)
 |.comp is elt it cond,ρ=>match ev Γ G it (frz it ρ) with
  |some (.i ds)=>if j3a is (frz it ρ)=ae/\jz ds.length=ae then
    (Je (λd=>match qz is d (frz it ρ) with
     |none=>af
     |some ρ2=>match ev Γ G cond ρ2 with
      |some (.a [])=>match ev Γ G elt ρ2 with
       |some (.v x)=>x.st.map a8
       |_=>af
      |some (.a [y])=>match y.d with
       |.bl ae=>match ev Γ G elt ρ2 with
        |some (.v x)=>x.st.map a8
        |_=>af
       |.bl a9=>a8 af
       |_=>af
      |_=>af) ds).bind λl=>if (Jm it ρ && !qw l)=ae then af else a8 (.v (.o l))
   else af
  |_=>af
 |.seq a,ρ=>Cr (ev Γ G a ρ)
 |.range es,ρ=>Ov (ev Γ G es ρ)
 |.zip a b,ρ=>j7a (ev Γ G a ρ) (ev Γ G b ρ)
 |.join sep a,ρ=>Fe sep (ev Γ G a ρ)
 |.enum a,ρ=>Fp (ev Γ G a ρ)
 |.tix a b,ρ=>Oj (ev Γ G a ρ) (ev Γ G b ρ)
 |.callD f es,ρ=>match ev Γ G es ρ with
  |some (.a rs)=>match vm rs with
   |some ds=>match Γ f (ds++[.non]) with
    |.val d=>a8 (.v (.e d))
    |_=>af
   |none=>af
  |_=>af
 |.srt a,ρ=>j0d (ev Γ G a ρ)
 |.lset a,ρ=>Fb (ev Γ G a ρ)
 |.callV i es,ρ=>Rx Γ ρ[i]? (ev Γ G es ρ)
 |.dget a b,ρ=>Ft (ev Γ G a ρ) (ev Γ G b ρ)
 |.dvals a,ρ=>Bs (ev Γ G a ρ)
 |.minT a,ρ=>Wi (ev Γ G a ρ)
section
variable{Γ:au->List D->Rc}{G:au->Option D}{ρ:En}
def j3c{d}:ev Γ G (.lit d) ρ=(a8 (.v (.e d))):=(rfl)
def jp7{i}:ev Γ G (.var i) ρ=(j03 ρ[i]?):=(rfl)
def jmu{x}:ev Γ G (.glob x) ρ=((G x).map λd=>.v (.e d)):=(rfl)
def jpe{op a b}:ev Γ G (.bin op a b) ρ=(Z4 op (ev Γ G a ρ) (ev Γ G b ρ)):=(rfl)
def jfo{op a b}:ev Γ G (.cmp op a b) ρ=(j16 op (ev Γ G a ρ) (ev Γ G b ρ)):=(rfl)
def jfn{a}:ev Γ G (.isN a) ρ=(match ev Γ G a ρ with
  |some (.v x)=>a8 (.v (.e (.bl x.d.isNon)))
  |_=>af):=(rfl)
def jfp{a b}:ev Γ G (.and a b) ρ=(match truth (ev Γ G a ρ) with
  |some a9=>a8 (.v (.e (.bl a9)))
  |some ae=>(truth (ev Γ G b ρ)).map λk=>.v (.e (.bl k))
  |none=>af):=(rfl)
def jqr{a b}:ev Γ G (.or a b) ρ=(match truth (ev Γ G a ρ) with
  |some ae=>a8 (.v (.e (.bl ae)))
  |some a9=>(truth (ev Γ G b ρ)).map λk=>.v (.e (.bl k))
  |none=>af):=(rfl)
def jfm{a}:ev Γ G (.not a) ρ=((truth (ev Γ G a ρ)).map λk=>.v (.e (.bl (!k)))):=(rfl)
def jpd{c a b}:ev Γ G (.ite c a b) ρ=(match truth (ev Γ G c ρ) with
  |some ae=>match ev Γ G a ρ with
   |some (.v x)=>x.st.map λd=>.v (.e d)
   |_=>af
  |some a9=>match ev Γ G b ρ with
   |some (.v x)=>x.st.map λd=>.v (.e d)
   |_=>af
  |none=>af):=(rfl)
def De:ev Γ G (.nil) ρ=(a8 (.a [])):=(rfl)
def j00{a b}:ev Γ G (.cons a b) ρ=(consW (ev Γ G a ρ) (ev Γ G b ρ)):=(rfl)
def jp8{es}:ev Γ G (.tup es) ρ=(Wt (ev Γ G es ρ)):=(rfl)
def jpc{es}:ev Γ G (.lst es) ρ=(Vm (ev Γ G es ρ)):=(rfl)
def jqs{a b}:ev Γ G (.ix a b) ρ=(ixW (ev Γ G a ρ) (ev Γ G b ρ)):=(rfl)
def jqq{a lo hi}:ev Γ G (.sl a lo hi) ρ=(match ev Γ G a ρ,Zn (ev Γ G lo ρ),Zn (ev Γ G hi ρ) with
  |some (.v x),a8 l,a8 h=>match x.sq with
   |some (ae,ds)=>a8 (.v (.o (cutD ds l h)))
   |some (a9,ds)=>if HT.sIx ds.length 0 l=0/\HT.sIx ds.length ds.length h=ds.length then af else a8 (.v (.e (.tup (cutD ds l h))))
   |none=>match x.d with
    |.str z=>if jz z.length=ae then a8 (.v (.e (.str (bR z l h))))else af
    |_=>af
  |_,_,_=>af):=(rfl)
def jmy{f es}:ev Γ G (.call f es) ρ=(Jq Γ f (ev Γ G es ρ)):=(rfl)
def Oa{f es}:ev Γ G (.blt f es) ρ=(zp f (ev Γ G es ρ)):=(rfl)
def jmr{m a es}:ev Γ G (.meth m a es) ρ=(Ny m (ev Γ G a ρ) (ev Γ G es ρ)):=(rfl)
def jmx{is elt it cond}:ev Γ G (.comp is elt it cond) ρ=(match ev Γ G it (frz it ρ) with
  |some (.i ds)=>if j3a is (frz it ρ)=ae/\jz ds.length=ae then
    (Je (λd=>match qz is d (frz it ρ) with
     |none=>af
     |some ρ2=>match ev Γ G cond ρ2 with
      |some (.a [])=>match ev Γ G elt ρ2 with
       |some (.v x)=>x.st.map a8
       |_=>af
      |some (.a [y])=>match y.d with
       |.bl ae=>match ev Γ G elt ρ2 with
        |some (.v x)=>x.st.map a8
        |_=>af
       |.bl a9=>a8 af
       |_=>af
      |_=>af) ds).bind λl=>if (Jm it ρ && !qw l)=ae then af else a8 (.v (.o l))
   else af
  |_=>af):=(rfl)
def jpb{a}:ev Γ G (.seq a) ρ=(Cr (ev Γ G a ρ)):=(rfl)
def jit{es}:ev Γ G (.range es) ρ=(Ov (ev Γ G es ρ)):=(rfl)
def jp6{a b}:ev Γ G (.zip a b) ρ=(j7a (ev Γ G a ρ) (ev Γ G b ρ)):=(rfl)
def jmt{sep a}:ev Γ G (.join sep a) ρ=(Fe sep (ev Γ G a ρ)):=(rfl)
def jmv{a}:ev Γ G (.enum a) ρ=(Fp (ev Γ G a ρ)):=(rfl)
def jp9{a b}:ev Γ G (.tix a b) ρ=(Oj (ev Γ G a ρ) (ev Γ G b ρ)):=(rfl)
def jiw{f es}:ev Γ G (.callD f es) ρ=(match ev Γ G es ρ with
  |some (.a rs)=>match vm rs with
   |some ds=>match Γ f (ds++[.non]) with
    |.val d=>a8 (.v (.e d))
    |_=>af
   |none=>af
  |_=>af):=(rfl)
def jpa{a}:ev Γ G (.srt a) ρ=(j0d (ev Γ G a ρ)):=(rfl)
def jms{a}:ev Γ G (.lset a) ρ=(Fb (ev Γ G a ρ)):=(rfl)
def jiv{i es}:ev Γ G (.callV i es) ρ=(Rx Γ ρ[i]? (ev Γ G es ρ)):=(rfl)
def jmw{a b}:ev Γ G (.dget a b) ρ=(Ft (ev Γ G a ρ) (ev Γ G b ρ)):=(rfl)
def jiu{a}:ev Γ G (.dvals a) ρ=(Bs (ev Γ G a ρ)):=(rfl)
def jmq{a}:ev Γ G (.minT a) ρ=(Wi (ev Γ G a ρ)):=(rfl)
end
end L2
end
section
namespace L2
open PySem PySem.Spec PyProof.Rows
def DM(X:Cx)(ρ:Rho)(e:av)(s:Bool)(ds:List D):Prop:=∀σ H Q,Rep X.K ρ σ H->(∀a xs H',j0 H H'->SqB X.K s H' a xs->j4 X.K (del H' (owns ρ)) ds xs->Q (.ref a) H')->Jw X e σ H Q
variable{K:k9k}{H:Hp}{xs:List V}
section
variable{X:Cx}{ρ:Rho}{e a b c:av}{es:List av}{d:D}{ds ds':List D}{i j:Int}{pos p p2:aP}{k:Nat}{x:au}{s:Bool}
def jnn{a:ai}(h:SqL K H a xs):SqB K ae H a xs:=by unfold SqB;rw[if_pos rfl];exact h
def Rm{a:ai}(h:SqB K ae H a xs):SqL K H a xs:=by unfold SqB at h;rw[if_pos rfl]at h;exact h
def Zd{a:ai}(h:SqB K a9 H a xs):SqT K H a xs:=by unfold SqB at h;rw[if_neg xq]at h;exact h
def DE.toM(h:DE X ρ e (D.seq s ds)):DM X ρ e s ds:=λσ H Q R q=>h σ H Q R λv H1 g1 e1=>by obtain⟨t,xs,ev,sq,en⟩:=Zr e1;subst ev;exact q t xs H1 g1 (jw.seqB sq) en
def DL.toM(h:DL X ρ e ds):DM X ρ e ae ds:=λσ H Q R q=>h σ H Q R λt xs H1 g1 m en=>q t xs H1 g1 (jnn (.inl (.inl m))) en
theorem DO.toM(h:DO X ρ e ds):DM X ρ e ae ds:=h.toL.toM
def Has(X:Cx)(ρ:Rho)(e:av):Rk->Prop
 |.e d=>DE X ρ e d
 |.o l=>DO X ρ e l
 |.w l=>DL X ρ e l
 |.t d=>DT X ρ e d
theorem Has.toT:∀{r:Rk},Has X ρ e r->DT X ρ e r.d
 |.e _,h=>DE.toT h
 |.o _,h=>DL.toT (DO.toL h)
 |.w _,h=>DL.toT h
 |.t _,h=>h
theorem Has.toE:∀{r:Rk}{d:D},Has X ρ e r->r.st=a8 d->DE X ρ e d
 |.e _,_,h,q=>by cases q;exact h
 |.o _,_,h,q=>by cases q;exact DO.toE h
 |.w _,_,h,q=>by cases q
 |.t d',d,h,q=>by
  have q:(if Jy d'=ae then a8 d' else af)=a8 d:=q;by_cases z:Jy d'=ae
  .rw[if_pos z]at q;cases q;exact DT.toE h z
  .rw[if_neg z]at q;cases q
theorem Has.toM:∀{r:Rk}{s:Bool}{l:List D},Has X ρ e r->r.sq=a8 (s,l)->DM X ρ e s l
 |.e (.lst l),_,_,h,q=>by cases q;exact DE.toM (s:=ae) h
 |.e (.tup l),_,_,h,q=>by cases q;exact DE.toM (s:=a9) h
 |.e .non,_,_,_,q=>by cases q
 |.e (.bl _),_,_,_,q=>by cases q
 |.e (.int _),_,_,_,q=>by cases q
 |.e (.str _),_,_,_,q=>by cases q
 |.o l,_,_,h,q=>by cases q;exact DO.toM h
 |.w l,_,_,h,q=>by cases q;exact DL.toM h
 |.t _,_,_,_,q=>by cases q
def jhb:OpR X (bh .Add) (λx y H Q=>∃l b xs zs,x=.ref l/\y=.ref b/\SqL X.K H l xs/\SqL X.K H b zs/\xs.length+zs.length<=aw/\∀p,H p=af->Q (.ref p) (upd H p (.lst (xs++zs)))):=by
 intro pins s σ H x y v u Q I rx ry h;obtain⟨l,b,xs,zs,e1,e2,hH,hB,hz,q⟩:=h;subst e1 e2;cases rx;cases ry;obtain⟨us,ru,⟨⟨c1,d1,f1,g1⟩,n1,h1,k1,w1,m1⟩,_⟩:=I.list hH;obtain⟨vs,rv,⟨⟨c2,d2,f2,g2⟩,n2,h2,k2,w2,m2⟩,_⟩:=I.list hB;have k1:c1=.type "list":=k1;have m1:f1=.seq us.toArray n1:=m1;have k2:c2=.type "list":=k2;have m2:f2=.seq vs.toArray n2:=m2;subst k1 m1 k2 m2;have l1:=ru.length;have l2:=rv.length;have ea:us.toArray++vs.toArray=(us++vs).toArray:=by simp
 refine hZ ⟨_,h1,rfl⟩ ⟨_,h2,rfl⟩ noFill_list_add seq_list_add PySem.F.slot_list_add PySem.F.entry_list_add (PySem.F.args_list_add_2 _ _)
  (list_addW l b us.toArray vs.toArray n1 n2 d1 d2 g1 g2 (by rw[Xd,Xd,<-l1,<-l2];exact hz)) ⟨h1,h2,?_⟩
 rw[ea];exact⟨.ref _,_,I.lnew (t':=s.toks) (ru.append rv) (by rw[Xh];exact hz),rfl,q _ I.fresh⟩
def DO.catM(ha:DM X ρ a ae ds)(hb:DM X ρ b ae ds')(hl:ds.length+ds'.length<=aw):DO X ρ (.BinOp a .Add b pos) (ds++ds'):=λσ H Q R q =>
 (Wg jhb peS peS).to (ha σ H _ R λl xs H1 g1 s1 e1=>hb σ H1 _ (R.grow g1) λl' ys H2 g2 s2 e2 =>
  ⟨l,l',xs,ys,rfl,rfl,g2.seq (Rm s1),Rm s2,by rw[e1.length,e2.length];exact hl,λp hp=>q p _ _ ((g1.trans g2).trans (j6 hp)) ((g1.trans g2).free hp) j8 (Mw hp ((e1.mono (jg g2)).append e2))⟩)
def DE.catTM(ha:DM X ρ a a9 ds)(hb:DM X ρ b a9 ds')(hl:ds.length+ds'.length<=aw):DE X ρ (.BinOp a .Add b pos) (.tup (ds++ds')):=λσ H Q R q =>
 (Wg jcr peS peS).to (ha σ H _ R λt xs H1 g1 sq l=>hb σ H1 _ (R.grow g1) λt' ys H2 g2 sq' l'=>by
  have l2:=l.mono (jg g2)
  have enT:∀{t:ai}{xs:List V}{ds:List D},SqT X.K H2 t xs->j4 X.K (del H2 (owns ρ)) ds xs->Enc X.K (del H2 (owns ρ)) (.tup ds) (.ref t):=λ{t xs ds} sq l=>by
   refine⟨t,xs,rfl,?_,l⟩
   have ow:=(R.grow (g1.trans g2)).owned
   have out:∀{o:HO},H2 t=a8 o->(∀zs,o≠.lst zs)->del H2 (owns ρ) t=a8 o:=λ{o} h z=>by
    rw[j5];exact h
    intro y;obtain⟨zs,e'⟩:=ow t y;rw[h]at e';cases e';exact z zs rfl
   rcases sq with (h|⟨o,h⟩)|h
   .exact .inl (.inl (out h λ_ z=>by cases z))
   .exact .inl (.inr ⟨o,out h λ_ z=>by cases z⟩)
   .exact .inr h
  refine⟨t,t',xs,ys,rfl,rfl,g2.seqT (Zd sq),Zd sq',by rw[l.length,l'.length];exact hl,λh=>?_,λh h'=>?_,λh h' p hp=>?_⟩
  .subst h
   cases ds with
   |nil=>exact q _ H2 (g1.trans g2) (enT (Zd sq') l')
   |cons _ _=>have:=l.length;cases this
  .subst h'
   cases ds' with
   |nil=>exact q _ H2 (g1.trans g2) (by rw[Pa];exact enT (g2.seqT (Zd sq)) l2)
   |cons _ _=>have:=l'.length;cases this
  .have np:p∉owns ρ:=(R.grow (g1.trans g2)).fresh hp
   exact q _ _ ((g1.trans g2).trans (j6 hp)) ⟨p,xs++ys,rfl,.inl (.inl (by rw[j5 np];exact j8)),(l2.append l').mono (jg (j6 hp))⟩)
def DE.ixM(ha:DM X ρ a s ds)(hb:DT X ρ b (.int i))(h:L2.atI ds i=a8 d)(hs:Ut b):DE X ρ (.Subscript a b pos) d:=by
 cases s with
 |true=>exact λσ H Q R q=>(j35 jhq peS peS hs).to (ha σ H _ R λl xs H1 g1 sq en=>hb σ H1 _ (R.grow g1) λu H2 g2 e2=>by
   obtain⟨y,hy,ey⟩:=en.atI h
   exact⟨l,xs,i,y,rfl,e2,g2.seq (Rm sq),hy,q y H2 (g1.trans g2) (ey.mono (jg g2))⟩)
 |false=>exact λσ H Q R q=>(j35 jl3 peS peS hs).to (ha σ H _ R λl xs H1 g1 sq en=>hb σ H1 _ (R.grow g1) λu H2 g2 e2=>by
   obtain⟨y,hy,ey⟩:=en.atI h
   exact⟨l,xs,i,y,rfl,e2,g2.seqT (Zd sq),hy,q y H2 (g1.trans g2) (ey.mono (jg g2))⟩)
variable{lo hi:Option av}{l u:Option Int}
def DO.sliceM(ha:DM X ρ a ae ds)(hl:DP X ρ lo l)(hu:DP X ρ hi u):DO X ρ (.Subscript a (.Slice lo hi af p2) pos) (cutD ds l u):=λσ H Q R q =>
 (Lh jgb peS poS poS).to (ha σ H _ R λt xs H1 g1 sq en=>hl σ H1 _ (R.grow g1) λH2 g2=>hu σ H2 _ (R.grow (g1.trans g2)) λH3 g3=>⟨t,xs,rfl,(g2.trans g3).seq (Rm sq),λp hp =>
  q p _ _ ((g1.trans (g2.trans g3)).trans (j6 hp)) ((g1.trans (g2.trans g3)).free hp) j8 (Mw hp ((en.mono (jg (g2.trans g3))).cut l u))⟩)
def DE.sliceM(ha:DM X ρ a a9 ds)(hl:DP X ρ lo l)(hu:DP X ρ hi u)(hw:¬(HT.sIx ds.length 0 l=0/\HT.sIx ds.length ds.length u=ds.length)):DE X ρ (.Subscript a (.Slice lo hi af p2) pos) (.tup (cutD ds l u)):=λσ H Q R q =>
 (Lh jja peS poS poS).to (ha σ H _ R λt xs H1 g1 sq en=>hl σ H1 _ (R.grow g1) λH2 g2=>hu σ H2 _ (R.grow (g1.trans g2)) λH3 g3=>⟨t,xs,rfl,(g2.trans g3).seqT (Zd sq),by rw[en.length];exact hw,λp hp =>
  q _ _ ((g1.trans (g2.trans g3)).trans (j6 hp)) ⟨p,_,rfl,.inl (.inl (by rw[j5 ((R.grow (g1.trans (g2.trans g3))).fresh hp)];exact j8)),((en.mono (jg (g2.trans g3))).cut l u).mono (jg (j6 hp))⟩⟩)
def DE.tupM (ha:DM X ρ a s ds) (hm:X.mg "tuple" = af) (hg:Gl X "tuple") (hs:aj [a] X.env=[(a9,aC a X.env)]):DE X ρ (.Call (.Name "tuple" p) [a] [] pos) (.tup ds):=λσ H Q R q =>
 (Wh j30 hg hm boot_tuple (ji peS qb hs) (by decide) (by decide) hs).to (ha σ H _ R λl xs H1 g1 sq en=>by
  cases s with
  |true =>
   refine⟨l,xs,rfl,.inl ⟨Rm sq,λt ht=>?_⟩⟩
   have nt:t∉owns ρ:=(R.grow g1).fresh ht
   exact q _ _ (g1.trans (j6 ht)) ⟨t,xs,rfl,.inl (.inl (by rw[j5 nt];exact j8)),en.mono (jg (j6 ht))⟩
  |false =>
   refine⟨l,xs,rfl,.inr ⟨Zd sq,?_⟩⟩
   refine q _ _ g1 ⟨l,xs,rfl,?_,en⟩
   have ow:=(R.grow g1).owned
   have out:∀{o:HO},H1 l=a8 o->(∀zs,o≠.lst zs)->del H1 (owns ρ) l=a8 o:=λ{o} h z=>by
    rw[j5];exact h
    intro y;obtain⟨zs,e'⟩:=ow l y;rw[h]at e';cases e';exact z zs rfl
   rcases Zd sq with (h|⟨o,h⟩)|h
   .exact .inl (.inl (out h λ_ z=>by cases z))
   .exact .inl (.inr ⟨o,out h λ_ z=>by cases z⟩)
   .exact .inr h)
def DO.listM (ha:DM X ρ a s ds) (hm:X.mg "list" = af) (hg:Gl X "list") (hs:aj [a] X.env=[(a9,aC a X.env)]):DO X ρ (.Call (.Name "list" p) [a] [] pos) ds:=λσ H Q R q =>
 (Wh j5a hg hm boot_list (ji peS qb hs) (by decide) (by decide) hs).to (ha σ H _ R λl xs H1 g1 sq en =>
  ⟨l,xs,rfl,(by cases s with|true=>exact .inl (Rm sq)|false=>exact .inr (Zd sq)),λp hp=>q p _ _ (g1.trans (j6 hp)) (g1.free hp) j8 (Mw hp en)⟩)
end
def j0o:fillsNumberSlot (.type "tuple") "mul" = pure a9 :=
 PySem.fillsNumberSlot_seq (id:="tuple.__mul__") (r:=a8 (.builtin "tuple.__rmul__")) PySem.F.slot_tuple_mul.lookup (by decide +kernel) PySem.F.slot_tuple_rmul.lookup (by decide +kernel)
def jgw:seqRepeat? (.type "tuple")=pure (a8 (.builtin "tuple.__mul__")):=by
 unfold seqRepeat?;rw[k9 (T:="tuple") (name:="__mul__") (id:="tuple.__mul__") PySem.F.slot_tuple_mul.lookup (by decide +kernel),
  k9 (T:="tuple") (name:="__rmul__") (id:="tuple.__rmul__") PySem.F.slot_tuple_rmul.lookup (by decide +kernel)]
 rfl
section
variable(a:Int)(t:iy)(l:ai)(its:Array ah)(n:Nat)(d1:Option ai)(sl:Array (Option ah))
def j4q:jV (cC.«int.__rmul__» ⟨[.int a t,.ref l],[]⟩) (λ_ R s=>s.heap.get? l=a8 ⟨.type "tuple",d1,.seq its n,sl⟩/\R (.ok (.ret iO)) s) :=
 .of_wp λ_ _ _ _ s h=>by
  obtain⟨_,_,_,_,_⟩:=s;obtain⟨hl,h⟩:=h
  wp_walk
  exact⟨_,rfl,h⟩
def jbw:jV (cC.«tuple.__mul__» ⟨[.ref l,.int 1 t],[]⟩) (λ_ R s=>s.heap.get? l=a8 ⟨.type "tuple",d1,.seq its n,sl⟩/\R (.ok (.ret (.ref l))) s) :=
 .of_wp λ_ _ _ _ s h=>by
  obtain⟨_,_,_,_,_⟩:=s;obtain⟨hl,h⟩:=h
  wp_walk
  exact⟨_,rfl,h⟩
def jbv(h0:its.isEmpty=a9)(h1:1<a)(h2:a<2^63)(hz:its.size*a.toNat<=aw) :
  jV (cC.«tuple.__mul__» ⟨[.ref l,.int a t],[]⟩) (λ_ R s=>s.heap.get? l=a8 ⟨.type "tuple",d1,.seq its n,sl⟩ /\
   R (.ok (.ret (.ref s.heap.objs.size))) { s with heap:=s.heap.push { cls:=.type "tuple",data:=.seq (dC (λx y=>x++y) #[] (ak a.toNat its)) } }) :=
 .of_wp λ_ _ _ _ s h=>by
  obtain⟨_,_,_,_,_⟩:=s;obtain⟨hl,h⟩:=h;have c1:(decide (a < -2^63) || decide (a>=2^63))=a9:=by rw[decide_eq_false nofun,decide_eq_false nofun];rfl
  have c2:(its.isEmpty || a==1)=a9:=by rw[h0,beq_eq_false_iff_ne.mpr nofun];rfl
  have c3:(decide (a<=0) || its.isEmpty)=a9:=by rw[h0,decide_eq_false nofun];rfl
  have ea:((its.size*a.toNat:Nat):Int)=(its.size:Int)*a:=by rw[Int.natCast_mul,fH nofun]
  have hz':(its.size:Int)*a<=(aw:Int):=by rw[<-ea];exact Int.ofNat_le.mpr hz
  have c4:¬(its.size:Int)*a>(2^63-1)/8:=by
   have:(aw:Int)<=(2^63-1)/8:=by decide
   omega
  have c5:fE ((its.size:Int)*a)=a9:=by unfold fE;exact decide_eq_false nofun
  have c6:(dC (λx y=>x++y) #[] (ak a.toNat its)).size<=aw:=by rw[AutoListH.size_joined,Array.size_empty,Pj,eN];exact hz
  wp_walk
  rw[c1]
  wp_walk
  rw[c2]
  wp_walk
  rw[c3]
  wp_walk
  rw[if_neg c4]
  wp_walk
  exact⟨_,rfl,h⟩
end
def jh8{X:Cx}:OpR X (bh .Mult) (λx y H Q=>∃a k xs,x=.ref a/\y=.int k/\SqT X.K H a xs/\xs≠[]/\1<=k/\k<2^63/\xs.length*k.toNat<=aw /\
  (k=1->Q (.ref a) H)/\(1<k->∀p,H p=af->Q (.ref p) (upd H p (.tup (ak k.toNat xs).flatten)))):=by
 intro pins s σ H x y v u Q I rx ry h;obtain⟨a,k,xs,e1,e2,sq,hne,h1,h2,hz,q1,q2⟩:=h;subst e1 e2;cases rx;obtain⟨t,e⟩:=ry;subst e;obtain⟨us,ru,⟨⟨c1,d1,f1,g1⟩,p1,k1,n1,m1⟩,_⟩:=I.tuple sq;have k1:c1=.type "tuple":=k1;have m1:f1=.seq us.toArray n1:=m1;subst k1 m1;have lu:=ru.length;have hne':us.toArray.isEmpty=a9:=by
  cases us with
  |nil=>cases ru;exact absurd rfl hne
  |cons _ _=>simp
 refine jD (T:="tuple") (U:="int") (by decide) ⟨_,p1,rfl⟩ (λs'=>gG s' k t) j0o lJ f9 jgw F.slot_int_index.lookup
  (bD f9 (gG s k t) lj (kZ _ _) (j4q k t a us.toArray n1 d1 g1) ⟨p1,rfl,⟨_,p1,rfl⟩,?_⟩)
 by_cases hk:k=1
 .subst hk;exact bD lb ⟨_,p1,rfl⟩ kX (kF _ _) (jbw t a us.toArray n1 d1 g1) ⟨p1,⟨.ref a,H,I,rfl,q1 rfl⟩⟩
 .have hz':us.toArray.size*k.toNat<=aw:=by rw[Xd,<-lu];exact hz
  refine bD lb ⟨_,p1,rfl⟩ kX (kF _ _) (jbv k t a us.toArray n1 d1 g1 hne' nofun h2 hz') ⟨p1,?_⟩;have hnew:dC (λx1 x2=>x1++x2) #[] (ak k.toNat us.toArray)=(ak k.toNat us).flatten.toArray:=by have:=foldl_rep us k.toNat [];rw[gb]at this;exact this
  rw[hnew];refine⟨.ref _,_,I.laid (t':=s.toks) (λb o e=>xj _ e) (X8 _) ?_,rfl,q2 nofun _ I.fresh⟩;exact⟨by rw[len_rep,eN];exact hz,_,ru.rep k.toNat,IsTup.new _ _,Vh.new _ _⟩
def DE.repT{X:Cx}{ρ:Rho}{a b:av}{ds:List D}{k:Int}{pos:aP}(ha:DM X ρ a a9 ds)(hb:DT X ρ b (.int k))(hne:ds≠[])(h1:1<=k)(h2:k<2^63)(hl:ds.length*k.toNat<=aw) :
  DE X ρ (.BinOp a .Mult b pos) (.tup (ak k.toNat ds).flatten):=λσ H Q R q =>
 (Wg jh8 peS peS).to (ha σ H _ R λt xs H1 g1 sq l=>hb σ H1 _ (R.grow g1) λu H2 g2 e2=>by
  have l2:=l.mono (jg g2)
  refine⟨t,k,xs,rfl,e2,g2.seqT (Zd sq),?_,h1,h2,by rw[l.length];exact hl,λh=>?_,λh p hp=>?_⟩
  .intro z;subst z
   cases ds with
   |nil=>exact hne rfl
   |cons _ _=>have:=l.length;cases this
  .subst h
   have e:(ak (1:Int).toNat ds).flatten=ds:=by simp
   rw[e]at q
   refine q _ H2 (g1.trans g2) ⟨t,xs,rfl,?_,l2⟩
   have ow:=(R.grow (g1.trans g2)).owned
   have out:∀{o:HO},H2 t=a8 o->(∀zs,o≠.lst zs)->del H2 (owns ρ) t=a8 o:=λ{o} h z=>by
    rw[j5];exact h
    intro y;obtain⟨zs,e'⟩:=ow t y;rw[h]at e';cases e';exact z zs rfl
   rcases g2.seqT (Zd sq)with (h|⟨o,h⟩)|h
   .exact .inl (.inl (out h λ_ z=>by cases z))
   .exact .inl (.inr ⟨o,out h λ_ z=>by cases z⟩)
   .exact .inr h
  .have np:p∉owns ρ:=(R.grow (g1.trans g2)).fresh hp
   exact q _ _ ((g1.trans g2).trans (j6 hp)) ⟨p,_,rfl,.inl (.inl (by rw[j5 np];exact j8)),(l2.rep k.toNat).mono (jg (j6 hp))⟩)
section
variable{X:Cx}{ρ:Rho}{a:av}{m k:Bool}{d:D}{n:Nat}{pos p2:aP}
def DE.isNotN(ha:DT X ρ a d):DE X ρ (.Compare a [.IsNot] [.Constant .none n p2] pos) (.bl (!d.isNon)):=λσ H Q R q =>(Q6 jh9 peS j9r (zc _)).to (ha σ H _ R λx H1 g1 e1=>⟨rfl,q _ H1 g1 (by rw[j26 e1];rfl)⟩)
end
end L2
end
section
namespace L2
open PySem PySem.Spec PyProof.Rows
noncomputable def Sl.abs:Sl->Sv
 |.un=>.un
 |.val d=>.val d
 |.own _ l=>.own l
 |.raw _ _ x=>.exc x
noncomputable def j9(ρ:Rho):En:=ρ.map Sl.abs
variable{ρ:Rho}{i:Nat}
def K7:(j9 ρ)[i]?=(ρ[i]?).map Sl.abs:=xm ..
def W9{d:D}(h:(j9 ρ)[i]?=a8 (.val d)):ρ[i]?=a8 (.val d):=by
 rw[K7]at h;cases e:ρ[i]? with
 |none=>rw[e]at h;cases h
 |some s=>rw[e]at h;cases s<;>cases h;rfl
def jir(h:(j9 ρ)[i]?=a8 .un):ρ[i]?=a8 .un:=by
 rw[K7]at h;cases e:ρ[i]? with
 |none=>rw[e]at h;cases h
 |some s=>rw[e]at h;cases s<;>cases h;rfl
def Jc{l:List D}(h:(j9 ρ)[i]?=a8 (.own l)):∃a,ρ[i]?=a8 (.own a l):=by
 rw[K7]at h;cases e:ρ[i]? with
 |none=>rw[e]at h;cases h
 |some s=>rw[e]at h;cases s<;>cases h;exact⟨_,rfl⟩
def jh{s:Sl}:j9 (ρ.set i s)=(j9 ρ).set i s.abs:=cO ..
noncomputable def Bop.op:Bop->kL
 |.add=>.Add
 |.sub=>.Sub
 |.mul=>.Mult
 |.fdiv=>.FloorDiv
 |.mod=>.Mod
 |.pow=>.Pow
 |.shl=>.LShift
 |.shr=>.RShift
 |.band=>.BitAnd
 |.bxor=>.BitXor
noncomputable def Cop.op:Cop->iY
 |.lt=>.Lt
 |.le=>.LtE
 |.gt=>.Gt
 |.ge=>.GtE
 |.eq=>.Eq
 |.ne=>.NotEq
 |.isin=>.In
 |.notin=>.NotIn
noncomputable def Bf.name:Bf->au
 |.len=>"len"
 |.min=>"min"
 |.max=>"max"
 |.all=>"all"
 |.tuple=>"tuple"
 |.list=>"list"
 |.sum=>"sum"
 |.int=>"int"
 |.any=>"any"
 |.sorted=>"sorted"
noncomputable def N6:List au:=["len","min","max","all","tuple","list","sum","int","any","sorted","isinstance","bool","str","range","zip","enumerate","reversed","ValueError","set","dict"]
noncomputable def Eu(x:au):Bool:=x.cps.toList.head?==a8 33 || x.cps.toList.head?==a8 63
inductive Nd where
 |e (x:av)
 |b (x:av)
 |w (x:av)
 |a (xs:List av)
 |i (tg it:av)
 |o (x:Option av)
 |c (xs:List av)
 |p (xs:List av)
structure Cok(X:Cx)(G:au->Option D):Prop where
 un':X.A.units+100<aU
 un:X.calm=ae->X.A.units+150<aU
 dp:X.calm=ae->X.A.depth+4<fO
 bt:∀x∈N6,X.mg x=af
 gl:∀x d,Eu x=a9->G x=a8 d->∃u v,X.mg x=a8 u/\RelV v u/\∀H,Enc X.K H d v
 nd:X.N.Nodup
 po:g6 (aB X.prog X.w) X.A X.env X.xe
 kin:X.K.In X.base
 ns:X.base.Ns aA X.mg
 gd:X.calm=ae->X.A.guards=a8 []
 fr:∃(env0:dR)(out0:List dR)(L:ai),X.stack=env0::out0/\env0.frame=a8 L/\X.env.frame=a8 L
 lm:∀x∈Vn,X.env.qual=x ++ ".<locals>."->∃c P,X.env.code=.ref c/\W.codeHdIn X.K c P=ae/\W.tabIn X.K x=a8 (c,P)
def Gok(X:Cx)(Γ:au->List D->Rc):Prop:=∀f ds,match Γ f ds with
 |.val d=>Cal X f (spP X.K λds' d'=>ds'=ds/\d'=d)
 |.fresh l=>Cal X f (spF X.K λds' l'=>ds'=ds/\l'=l)
 |.lval d=>∀x,f=qg x->∃k,Room k X.A/\j3d X.prog X.w X.K X.mg X.base k x λds' d'=>ds'=ds/\d'=d
 |.no=>True
variable{scope:be}
def Cok.comp{X:Cx}{G:au->Option D}{C:ai}{s:aq}{H:Hp}{fp:List ai}{pn:k9m}(h:Cok X G):Cok (cCx X scope C s H fp pn) G:=⟨h.un',h.un,h.dp,h.bt,h.gl,h.nd,bX,h.kin,h.ns,h.gd,h.fr,h.lm⟩
theorem Gok.comp{X:Cx}{Γ:au->List D->Rc}{scope:be}{C:ai}{s:aq}{H:Hp}{fp:List ai}{pn:k9m}(h:Gok X Γ):Gok (cCx X scope C s H fp pn) Γ:=λf ds=>by
 have q:=h f ds;cases e:Γ f ds with
 |val d=>rw[e]at q;exact Cal.comp q
 |fresh l=>rw[e]at q;exact Cal.comp q
 |lval d=>rw[e]at q;exact q
 |no=>trivial
inductive HasA(X:Cx)(ρ:Rho):List av->List Rk->Prop where
 |nil:HasA X ρ [] []
 |cons {a:av} {es:List av} {r:Rk} {rs:List Rk} (hs:aj (a::es) X.env=(a9,aC a X.env)::aj es X.env):Has X ρ a r->HasA X ρ es rs->HasA X ρ (a::es) (r::rs)
variable{e:av}
section
variable{X:Cx}{ρ:Rho}{es:List av}{rs:List Rk}
theorem HasA.toA:∀{es:List av}{rs:List Rk}{ds:List D},HasA X ρ es rs->vm rs=a8 ds->DA X ρ es ds
 |_,_,_,.nil,q=>by cases q;exact DA.nil
 |_,_,ds,.cons (r:=r) (rs:=rs) hs h t,q=>by
  unfold vm at q;cases e1:r.st with
  |none=>rw[e1]at q;cases q
  |some d =>
   cases e2:vm rs with
   |none=>rw[e1,e2]at q;cases q
   |some ds'=>rw[e1,e2]at q;cases q;exact DA.cons (h.toE e1) (t.toA e2) hs
theorem HasA.toT:∀{es:List av}{rs:List Rk},HasA X ρ es rs->DTA X ρ es (rs.map Rk.d)
 |_,_,.nil=>DTA.nil
 |_,_,.cons hs h t=>DTA.cons h.toT t.toT hs
def HasA.one(h:HasA X ρ [e] rs):∃r,rs=[r]/\Has X ρ e r/\aj [e] X.env=[(a9,aC e X.env)]:=by cases h with|cons hs h t=>cases t;exact⟨_,rfl,h,hs⟩
def DO.unfrz{a:ai}{l ds:List D}(hk:ρ[i]?=a8 (.own a l))(h:DO X (ρ.set i (.val (.lst l))) e ds)(hn:qw ds=ae):DO X ρ e ds:=λσ H Q R q =>
 h σ H Q (R.freeze hk) λb xs H' g n m en=>q b xs H' g n m ((en.mono jw).hide (λc hc=>by
  rcases Xb.mp hc with z|z
  .rw[z];exact .inl ⟨xs,m⟩
  .exact .inl ((R.grow g).owned c z)) hn)
end
theorem Eo{f:D->Option (Option D)}:∀{ds l:List D},Je f ds=a8 l ->
  l=(ds.filter (λd=>(f d).join.isSome)).map (λd=>(f d).join.getD .non)/\∀d∈ds,∃o,f d=a8 o
 |[],l,h=>by cases h;exact⟨rfl,λd hd=>nomatch hd⟩
 |d::ds,l,h=>by
  unfold Je at h;cases e1:f d with
  |none=>rw[e1]at h;cases h
  |some o =>
   cases e2:Je f ds with
   |none=>rw[e1,e2]at h;cases o<;>cases h
   |some xs =>
    rw[e1,e2]at h;obtain⟨q1,q2⟩:=Eo e2;have mem:∀d'∈d::ds,∃o,f d'=a8 o:=λd' hd=>by
     rcases Xb.mp hd with z|z
     .subst z;exact⟨o,e1⟩
     .exact q2 d' z
    cases o with
    |none=>cases h;exact⟨by rw[eD (by rw[e1];simp)];exact q1,mem⟩
    |some x=>cases h;exact⟨by rw[eC (by rw[e1];rfl),X7,<-q1,e1];rfl,mem⟩
variable{i j:Int}
section
variable{X:Cx}{ρ:Rho}{a b:av}{d da db:D}{ds ds':List D}{pos:aP}{k:Bool}
def DE.neD(s:Bool)(hu:X.A.units+100<aU)(ha:DT X ρ a (D.seq s ds))(hb:DT X ρ b (D.seq s ds'))(hd:D.depL ds<=98)(nd:D.depL ds'<10000):DE X ρ (.Compare a [.NotEq] [b] pos) (.bl (!z9 ds ds')):=λσ H Q R q =>(Q6 (j9v hu) peS peS (zc _)).to (ha σ H _ R λv H1 g1 e1=>hb σ H1 _ (R.grow g1) λu H2 g2 e2=>⟨ds,ds',s,e1.mono g2,e2,hd,nd,q _ H2 (g1.trans g2) rfl⟩)
def DE.notIn(s:Bool)(hu:X.A.units+100<aU)(ha:DT X ρ a d)(hb:DT X ρ b (D.seq s ds))(hd:D.depL ds<=98)(nd:d.dep<10000)(hm:aO .NotIn b=a9):DE X ρ (.Compare a [.NotIn] [b] pos) (.bl (!ds.any λe=>deq e d)):=λσ H Q R q =>(Q6 (j1u hu) peS peS hm).to (ha σ H _ R λv H1 g1 e1=>hb σ H1 _ (R.grow g1) λu H2 g2 e2=>⟨d,ds,s,e1.mono g2,e2,hd,nd,q _ H2 (g1.trans g2) rfl⟩)
def DE.in(s:Bool)(hu:X.A.units+100<aU)(ha:DT X ρ a d)(hb:DT X ρ b (D.seq s ds))(hd:D.depL ds<=98)(nd:d.dep<10000)(hm:aO .In b=a9):DE X ρ (.Compare a [.In] [b] pos) (.bl (ds.any λe=>deq e d)):=λσ H Q R q =>(Q6 (j9w hu) peS peS hm).to (ha σ H _ R λv H1 g1 e1=>hb σ H1 _ (R.grow g1) λu H2 g2 e2=>⟨d,ds,s,e1.mono g2,e2,hd,nd,q _ H2 (g1.trans g2) rfl⟩)
def jg6:∀{b:D}{s:Bool}{l:List D},b.sqv=a8 (s,l)->b=D.seq s l
 |.lst _,_,_,h=>by cases h;rfl
 |.dct _ _,_,_,h=>by cases h
 |.sct _,_,_,h=>by cases h
 |.fn _ _,_,_,h=>by cases h
 |.tup _,_,_,h=>by cases h;rfl
 |.non,_,_,h=>by cases h
 |.bl _,_,_,h=>by cases h
 |.int _,_,_,h=>by cases h
 |.str _,_,_,h=>by cases h
def j8b{op:Cop}(h:cmpI op i j=a8 k)(ha:DT X ρ a (.int i))(hb:DT X ρ b (.int j)):DE X ρ (.Compare a [op.op] [b] pos) (.bl k)/\DB X ρ (.Compare a [op.op] [b] pos) k:=by
 cases op<;>(first|(cases h;done)|skip)
 .cases h;exact⟨DE.lt ha hb,DB.lt ha hb⟩
 .cases h;exact⟨DE.le ha hb,DB.le ha hb⟩
 .cases h;exact⟨DE.gt ha hb,DB.gt ha hb⟩
 .cases h;exact⟨DE.ge ha hb,DB.ge ha hb⟩
 .cases h;exact⟨DE.eqI ha hb,DB.eqI ha hb⟩
 .cases h;exact⟨DE.neI ha hb,DB.neI ha hb⟩
def j2e{op:Cop}(hu:X.A.units+100<aU)(h:Qe op da db=a8 k)(ha:DT X ρ a da)(hb:DT X ρ b db)(hm:aO op.op b=a9) :
  DE X ρ (.Compare a [op.op] [b] pos) (.bl k)/\DB X ρ (.Compare a [op.op] [b] pos) k:=by
 have inn:∀{r:Bool->Bool},(match db.sqv with|some (_,l)=>if D.depL l<=90/\da.dep<=90 then a8 (r (l.any λe=>deq e da))else af|none=>af)=a8 k->∃s l,DT X ρ b (D.seq s l)/\D.depL l<=98/\da.dep<10000/\k=r (l.any λe=>deq e da):=λ{r} h=>by
  cases e:db.sqv with
  |none=>rw[e]at h;cases h
  |some p =>
   obtain⟨s,l⟩:=p;rw[e]at h;have h:(if D.depL l<=90/\da.dep<=90 then a8 (r (l.any λe=>deq e da))else af)=a8 k:=h;by_cases z:D.depL l<=90/\da.dep<=90
   .rw[if_pos z]at h;cases h;exact⟨s,l,jg6 e▸hb,by omega,by omega,rfl⟩
   .rw[if_neg z]at h;cases h
 unfold Qe at h;split at h
 .exact j8b h ha hb
 .by_cases z:da.dep<=90/\db.dep<=90
  .rw[if_pos z]at h;cases h;exact⟨DE.eqD hu ha hb nofun nofun,DB.eqD hu ha hb nofun nofun⟩
  .rw[if_neg z]at h;cases h
 .cases h;exact⟨DE.neB ha hb,DB.neB ha hb⟩
 .cases h;exact⟨(DE.neS ha hb).eq (by rw[j51]),(DB.neS ha hb).eq (by rw[j51])⟩
 .cases h;exact⟨(DE.neS ha hb).eq (by simp),(DB.neS ha hb).eq (by simp)⟩
 .rename_i l m;by_cases z:D.depL l<=90/\D.depL m<=90
  .rw[if_pos z]at h;cases h;exact⟨DE.neD ae hu ha hb nofun nofun,DB.neD ae hu ha hb nofun nofun⟩
  .rw[if_neg z]at h;cases h
 .rename_i l m;by_cases z:D.depL l<=90/\D.depL m<=90
  .rw[if_pos z]at h;cases h;exact⟨DE.neD a9 hu ha hb nofun nofun,DB.neD a9 hu ha hb nofun nofun⟩
  .rw[if_neg z]at h;cases h
 .cases h;exact⟨DE.inS ha hb hm,DB.inS ha hb hm⟩
 .cases h;exact⟨DE.ltS ha hb,DB.ltS ha hb⟩
 .cases h;exact⟨DE.gtS ha hb,DB.gtS ha hb⟩
 .obtain⟨s,l,hb,hd,nd,e⟩:=inn (r:=id) h;subst e;exact⟨DE.in s hu ha hb hd nd hm,DB.in s hu ha hb hd nd hm⟩
 .obtain⟨s,l,hb,hd,nd,e⟩:=inn (r:=(!·)) h;subst e;exact⟨DE.notIn s hu ha hb hd nd hm,DB.notIn s hu ha hb hd nd hm⟩
 .cases h
def DE.shr(ha:DT X ρ a (.int i))(hb:DT X ρ b (.int j))(h:0<=j):DE X ρ (.BinOp a .RShift b pos) (.int (i/2^j.toNat)):=DE.arI (g:=λi j=>i/2^j.toNat) jka ha hb h
def qp{α:Type}{c:Prop}[Decidable c]{x y:α}(h:(if c then a8 x else af)=a8 y):c/\x=y:=by
 by_cases z:c
 .rw[if_pos z]at h;exact⟨z,ax h⟩
 .rw[if_neg z]at h;cases h
def j8e{op:Bop}{n:Int}(h:binI op i j=a8 n)(ha:DT X ρ a (.int i))(hb:DT X ρ b (.int j)):DE X ρ (.BinOp a op.op b pos) (.int n):=by
 cases op
 .cases h;exact DE.add ha hb
 .cases h;exact DE.sub ha hb
 .obtain⟨z,e⟩:=qp h;subst e;exact DE.mul ha hb z
 .obtain⟨z,e⟩:=qp h;subst e;exact DE.fdivB ha hb z
 .obtain⟨z,e⟩:=qp h;subst e;exact DE.mod ha hb z
 .obtain⟨z,e⟩:=qp h;subst e;exact DE.pow ha hb z
 .obtain⟨z,e⟩:=qp h;subst e;exact DE.shl ha hb z
 .obtain⟨z,e⟩:=qp h;subst e;exact DE.shr ha hb z
 .cases h;exact DE.arI0 jkg ha hb
 .cases h;exact DE.arI0 jk8 ha hb
def zf{n:Nat}(h:jz n=ae):n<=aw:=of_decide_eq_true h
end
variable{r:Rk}
section
variable{X:Cx}{ρ:Rho}{a b e:av}{es:List av}{d:D}{pos p:aP}
theorem Has.lw:∀{r:Rk}{l:List D},Has X ρ a r->r.lw=a8 l->DL X ρ a l
 |.o l,_,h,q=>by cases q;exact DO.toL h
 |.w l,_,h,q=>by cases q;exact h
 |.e _,_,_,q=>by cases q
 |.t _,_,_,q=>by cases q
def jbf{op:Bop}{x y:Rk}(h:W7 op x y=a8 r)(ha:Has X ρ a x)(hb:Has X ρ b y):Has X ρ (.BinOp a op.op b pos) r:=by
 unfold W7 at h;split at h
 .rename_i i j e1 e2;cases z:binI op i j with
  |none=>rw[z]at h;cases h
  |some n=>rw[z]at h;cases h;exact j8e z (e1▸ha.toT) (e2▸hb.toT)
 .rename_i y z e1 e2;split at h
  .obtain⟨q,e⟩:=qp h;subst e;exact DE.catS (e1▸ha.toT) (e2▸hb.toT) (zf q)
  .cases h
 .rename_i y k e1 e2;split at h
  .obtain⟨q,e⟩:=qp h;subst e;exact DE.mulS (e1▸ha.toT) (e2▸hb.toT) q.1 q.2
  .cases h
 .split at h
  .rename_i l m _ e1 e2;obtain⟨z,q⟩:=qp h;subst q;exact DO.catM (ha.toM e1) (hb.toM e2) (zf z)
  .rename_i l m _ e1 e2;obtain⟨z,q⟩:=qp h;subst q;exact DE.catTM (ha.toM e1) (hb.toM e2) (zf z)
  .rename_i l k _ _ e1 e3;obtain⟨z,q⟩:=qp h;subst q;exact DE.repT (ha.toM e1) (e3▸hb.toT) (λe=>by subst e;exact absurd z.2.2.1 (by simp)) z.1 z.2.1 (zf z.2.2.2)
  .rename_i k _ _ _ e3 _;cases e:x.lw with
   |none=>rw[e]at h;cases h
   |some l =>rw[e]at h;obtain⟨z,q⟩:=qp h;subst q;exact DO.rep (ha.lw e) (e3▸hb.toT) z.1 z.2.1 (zf z.2.2)
  .cases h
theorem O4:∀{l:List D}{bs:List Bool},boolsOf l=a8 bs->l=bs.map D.bl
 |[],_,h=>by cases h;rfl
 |.bl b::r,bs,h=>by
  unfold boolsOf at h;cases e:boolsOf r with
  |none=>rw[e]at h;cases h
  |some q=>rw[e]at h;cases h;rw[O4 e];rfl
 |.non::_,_,h=>by cases h
 |.int _::_,_,h=>by cases h
 |.str _::_,_,h=>by cases h
 |.tup _::_,_,h=>by cases h
 |.lst _::_,_,h=>by cases h
 |.dct _ _::_,_,h=>by cases h
 |.sct _::_,_,h=>by cases h
 |.fn _ _::_,_,h=>by cases h
theorem Jo:∀{l:List D}{bs:zo},intsOf l=a8 bs->l=bs.map D.int
 |[],_,h=>by cases h;rfl
 |.int b::r,bs,h=>by
  unfold intsOf at h;cases e:intsOf r with
  |none=>rw[e]at h;cases h
  |some q=>rw[e]at h;cases h;rw[Jo e];rfl
 |.non::_,_,h=>by cases h
 |.bl _::_,_,h=>by cases h
 |.str _::_,_,h=>by cases h
 |.tup _::_,_,h=>by cases h
 |.lst _::_,_,h=>by cases h
 |.dct _ _::_,_,h=>by cases h
 |.sct _::_,_,h=>by cases h
 |.fn _ _::_,_,h=>by cases h
theorem Yw:∀{l:List D}{bs:List au},strsOf l=a8 bs->l=bs.map D.str
 |[],_,h=>by cases h;rfl
 |.str b::r,bs,h=>by
  unfold strsOf at h;cases e:strsOf r with
  |none=>rw[e]at h;cases h
  |some q=>rw[e]at h;cases h;rw[Yw e];rfl
 |.non::_,_,h=>by cases h
 |.bl _::_,_,h=>by cases h
 |.int _::_,_,h=>by cases h
 |.tup _::_,_,h=>by cases h
 |.lst _::_,_,h=>by cases h
 |.dct _ _::_,_,h=>by cases h
 |.sct _::_,_,h=>by cases h
 |.fn _ _::_,_,h=>by cases h
def Ju{w:Option W}{k:Bool}(h:truth w=a8 k):∃r,w=a8 (.v r)/\r.d=.bl k:=by
 unfold truth at h;split at h
 .rename_i r;split at h
  .rename_i q e;cases h;exact⟨r,rfl,e⟩
  .cases h
 .cases h
def jna(X:Cx)(ρ:Rho):List av->List Rk->Prop
 |[],[]=>True
 |e::es,r::rs=>(∀y,jeu r.d=a8 y->DE X ρ e (.str y))/\jna X ρ es rs
 |_,_=>False
def jn8(Γ:au->List D->Rc)(G:au->Option D)(X:Cx)(t:Ex):Nd->Prop
 |.e e=>∀ρ r,ev Γ G t (j9 ρ)=a8 (.v r)->Has X ρ e r
 |.b e=>∀ρ k,truth (ev Γ G t (j9 ρ))=a8 k->DB X ρ e k
 |.w e=>∀ρ k,truth (ev Γ G t (j9 ρ))=a8 k->DW X ρ e k
 |.a es=>∀ρ rs,ev Γ G t (j9 ρ)=a8 (.a rs)->HasA X ρ es rs
 |.i tg it=>∀ρ ds,ev Γ G t (j9 ρ)=a8 (.i ds)->DI X ρ tg it ds
 |.o e=>∀ρ o,Zn (ev Γ G t (j9 ρ))=a8 o->DP X ρ e o
 |.p es=>∀ρ rs,ev Γ G t (j9 ρ)=a8 (.a rs)->jna X ρ es rs
 |.c ifs=>∀ρ,(ev Γ G t (j9 ρ)=a8 (.a [])->DTs X ρ ifs ae)/\∀y k,ev Γ G t (j9 ρ)=a8 (.a [y])->y.d=.bl k->DTs X ρ ifs k
end
variable{is:List Nat}{elt' it' c':Ex}{ifs:List av}{p:aP}
section
variable{Γ:au->List D->Rc}{G:au->Option D}{X:Cx}
def Du{elt it tg:av}
  (hit:∀ρ ds,ev Γ G it' (j9 ρ)=a8 (.i ds)->DI X ρ tg it ds)
  (hb:∀ρ d ρ2,qz is d (j9 ρ)=a8 ρ2->(∀j∈is,ρ[j]?=a8 .un)->∃ρ',j9 ρ'=ρ2/\Wk ρ' ρ/\owns ρ'=owns ρ/\∀C s H fp pn,DG (cCx X scope C s H fp pn) ρ tg d ρ')
  (he:∀C s H fp pn ρ r,ev Γ G elt' (j9 ρ)=a8 (.v r)->Has (cCx X scope C s H fp pn) ρ elt r)
  (hc:∀C s H fp pn ρ,(ev Γ G c' (j9 ρ)=a8 (.a [])->DTs (cCx X scope C s H fp pn) ρ ifs ae)/\∀y k,ev Γ G c' (j9 ρ)=a8 (.a [y])->y.d=.bl k->DTs (cCx X scope C s H fp pn) ρ ifs k)
  (h:ev Γ G (.comp is elt' it' c') (j9 ρ)=a8 (.v r)):∃(l:List D)(ρf:Rho)(ds:List D)(pr:D->Bool)(g:D->D),r=.o l/\l=(ds.filter pr).map g /\
   (ρf=ρ\/(qw l=ae/\∃(i:Nat)(a:ai)(l':List D),ρ[i]?=a8 (.own a l')/\ρf=ρ.set i (.val (.lst l'))))/\DI X ρf tg it ds/\(∀j∈is,ρf[j]?=a8 .un)/\ds.length<=aw /\
   (∀C s H fp pn,∀d∈ds,∃ρ2,DG (cCx X scope C s H fp pn) ρf tg d ρ2/\Wk ρ2 ρf/\owns ρ2=owns ρf/\DTs (cCx X scope C s H fp pn) ρ2 ifs (pr d)/\(pr d=ae->DE (cCx X scope C s H fp pn) ρ2 elt (g d))):=by
 have fr:∃ρf,j9 ρf=frz it' (j9 ρ)/\((Jm it' (j9 ρ)=a9/\ρf=ρ)\/(Jm it' (j9 ρ)=ae/\∃i a l,ρ[i]?=a8 (.own a l)/\ρf=ρ.set i (.val (.lst l)))):=by
  by_cases z:Jm it' (j9 ρ)=ae
  .unfold Jm at z;split at z
   .rename_i i ei;split at z
    .rename_i l e;obtain⟨a,q⟩:=Jc e;refine⟨ρ.set i (.val (.lst l)),?_,.inr ⟨?_,i,a,l,q,rfl⟩⟩
     .rw[jh];simp only[frz,ei,e,Sl.abs]
     .simp only[Jm,ei,e]
    .cases z
   .cases z
  .have z':Jm it' (j9 ρ)=a9:=by simpa using z
   refine⟨ρ,?_,.inl ⟨z',rfl⟩⟩;unfold frz;split
   .rename_i i ei;split
    .rename_i l e;simp only[Jm,ei,e]at z';cases z'
    .rfl
   .rfl
 obtain⟨ρf,ef,fr⟩:=fr;rw[jmx]at h;rw[<-ef]at h;split at h
 .rename_i ds hds;split at h
  .rename_i hz;obtain⟨hfree,hlen⟩:=hz;generalize hf:(λd=>_:D->Option (Option D))=f at h;cases hl:Je f ds with
   |none=>rw[hl]at h;cases h
   |some l =>
    rw[hl]at h;have h:(if (Jm it' (j9 ρ) && !qw l)=ae then af else a8 (W.v (.o l)))=a8 (.v r):=h;by_cases zz:(Jm it' (j9 ρ) && !qw l)=ae
    .rw[if_pos zz]at h;cases h
    .rw[if_neg zz]at h;cases h;obtain⟨el,hmem⟩:=Eo hl;have hun:∀j∈is,ρf[j]?=a8 .un:=λj hj=>by
      have:=ph.mp hfree j hj;split at this
      .rename_i e;exact jir e
      .cases this
     refine⟨l,ρf,ds,_,_,rfl,el,?_,hit ρf ds hds,hun,zf hlen,λC s H fp pn d hd=>?_⟩
     .rcases fr with ⟨_,e⟩|⟨e1,i,a,l',hk,e⟩
      .exact .inl e
      .exact .inr ⟨by rw[e1]at zz;simpa using zz,i,a,l',hk,e⟩
     ·
      obtain⟨o,ho⟩:=hmem d hd;rw[<-hf]at ho ⊢;dsimp only at ho ⊢;cases hb2:qz is d (j9 ρf) with
      |none=>rw[hb2]at ho;cases ho
      |some ρ2 =>
       obtain⟨ρ',e',wk,ow,dg⟩:=hb ρf d ρ2 hb2 hun;subst e';refine⟨ρ',dg C s H fp pn,wk,ow,?_⟩;rw[hb2]at ho;dsimp only at ho ⊢;cases hcv:ev Γ G c' (j9 ρ') with
       |none=>rw[hcv]at ho;cases ho
       |some w =>
        rw[hcv]at ho;split at ho
        .rename_i hw;cases hw;cases hev:ev Γ G elt' (j9 ρ') with
         |none=>rw[hev]at ho;cases ho
         |some w =>
          rw[hev]at ho;cases w with
          |i _=>cases ho
          |a _=>cases ho
          |v x =>
           dsimp only at ho ⊢;cases hst:x.st with
           |none=>rw[hst]at ho;cases ho
           |some y =>simp only[hst,gx,jW,fv,dW];exact⟨((hc C s H fp pn ρ').1 hcv),λ_=>(he C s H fp pn ρ' x hev).toE hst⟩
        .rename_i y hw;cases hw;split at ho
         .rename_i e1;cases hev:ev Γ G elt' (j9 ρ') with
          |none=>rw[hev]at ho;cases ho
          |some w =>
           rw[hev]at ho;cases w with
           |i _=>cases ho
           |a _=>cases ho
           |v x =>
            dsimp only at ho ⊢;cases hst:x.st with
            |none=>rw[hst]at ho;cases ho
            |some z =>simp only[e1,hst,gx,jW,fv,dW];exact⟨(hc C s H fp pn ρ').2 y ae hcv e1,λ_=>(he C s H fp pn ρ' x hev).toE hst⟩
         .rename_i e1;simp only[e1,Option.join,lD];exact⟨(hc C s H fp pn ρ').2 y a9 hcv e1,λz=>by cases z⟩
         .cases ho
        .cases ho
  .cases h
 .cases h
def Em{elt it tg:av}(hq:X.calm=ae)(hX:Cok X G)
  (hit:∀ρ ds,ev Γ G it' (j9 ρ)=a8 (.i ds)->DI X ρ tg it ds) (hkind:scope.kind=.function) (hok:Jp scope X.env X.N is=ae) (hs:∀x,aH it X.env x=pure x)
  (hb:∀ρ d ρ2,qz is d (j9 ρ)=a8 ρ2->(∀j∈is,ρ[j]?=a8 .un)->∃ρ',j9 ρ'=ρ2/\Wk ρ' ρ/\owns ρ'=owns ρ/\∀C s H fp pn,DG (cCx X scope C s H fp pn) ρ tg d ρ')
  (he:∀C s H fp pn ρ r,ev Γ G elt' (j9 ρ)=a8 (.v r)->Has (cCx X scope C s H fp pn) ρ elt r)
  (hc:∀C s H fp pn ρ,(ev Γ G c' (j9 ρ)=a8 (.a [])->DTs (cCx X scope C s H fp pn) ρ ifs ae)/\∀y k,ev Γ G c' (j9 ρ)=a8 (.a [y])->y.d=.bl k->DTs (cCx X scope C s H fp pn) ρ ifs k)
  (h:ev Γ G (.comp is elt' it' c') (j9 ρ)=a8 (.v r)):∃l,r=.o l/\DO X ρ (.ListComp elt [⟨tg,it,ifs,0⟩] scope p) l:=by
 obtain⟨l,ρf,ds,pr,g,er,el,hf,hi,hun,hz,hb'⟩:=Du hit hb he hc h;refine⟨l,er,?_⟩;have main:DO X ρf (.ListComp elt [⟨tg,it,ifs,0⟩] scope p) ((ds.filter pr).map g):=DO.comp is _ _ hi hb' hun hz hq hkind hok hs;rw[<-el]at main;rcases hf with e|⟨hn,i,a,l',hk,e⟩
 .subst e;exact main
 .subst e;exact DO.unfrz hk main hn
end
section
variable{X:Cx}{ρ:Rho}{a b e:av}{es:List av}{d:D}{pos p:aP}
def Has.map(h:∀σ H Q,Jw X a σ H Q->Jw X e σ H Q):∀{r:Rk},Has X ρ a r->Has X ρ e r
 |.e _,q=>λσ H Q R z=>h σ H Q (q σ H Q R z)
 |.o _,q=>λσ H Q R z=>h σ H Q (q σ H Q R z)
 |.w _,q=>λσ H Q R z=>h σ H Q (q σ H Q R z)
 |.t _,q=>λσ H Q R z=>h σ H Q (q σ H Q R z)
theorem Has.bl{r:Rk}{k:Bool}(h:Has X ρ a r)(e:r.d=.bl k):DE X ρ a (.bl k):=DT.toE (e▸h.toT)
def Zo{f:Bf}{rs:List Rk}{p2:aP}{G:au->Option D}(c:Cok X G)(hq:f=.min\/f=.all\/f=.sum\/f=.any\/f=.max->X.calm=ae)(hg:Gl X f.name)(h:V3 f rs=a8 r)(ha:HasA X ρ es rs):Has X ρ (.Call (.Name f.name p) es [] p2) r:=by
 have one:∀{x:Rk},HasA X ρ es [x]->∃e,es=[e]/\Has X ρ e x/\aj [e] X.env=[(a9,aC e X.env)]:=λ{x} h=>by cases h with|cons hs h t=>cases t;exact⟨_,rfl,h,hs⟩
 have two:∀{x y:Rk},HasA X ρ es [x,y]->∃e f,es=[e,f]/\Has X ρ e x/\Has X ρ f y/\aj [e,f] X.env=(a9,aC e X.env)::aj [f] X.env/\aj [f] X.env=[(a9,aC f X.env)]:=λ{x y} h=>by cases h with|cons hs h t=>cases t with|cons hs2 h2 t2=>cases t2;exact⟨_,_,rfl,h,h2,hs,hs2⟩
 unfold V3 at h;split at h
 .rename_i x;obtain⟨e,ee,hx,hs⟩:=one ha;subst ee;split at h
  .rename_i l el;cases h;exact DE.lenL (el▸hx.toT) (c.bt _ (by decide)) hg hs
  .rename_i l el;cases h;exact DE.lenT (el▸hx.toT) (c.bt _ (by decide)) hg hs
  .rename_i y el;obtain⟨z,q⟩:=qp h;subst q;exact DE.lenS (el▸hx.toT) (zf z) (c.bt _ (by decide)) hg hs
  .cases h
 .rename_i x y;obtain⟨e,f,ee,hx,hy,hs,hs2⟩:=two ha;subst ee;split at h
  .rename_i i j ei ej;cases h;exact DE.min (ei▸hx.toT) (ej▸hy.toT) (c.bt _ (by decide)) (hq (.inl rfl)) hg hs hs2 (by rw[hs2];rfl)
  .cases h
 .rename_i x y;obtain⟨e,f,ee,hx,hy,hs,hs2⟩:=two ha;subst ee;split at h
  .rename_i i j ei ej;cases h;exact DE.max2 (ei▸hx.toT) (ej▸hy.toT) (c.bt _ (by decide)) (hq (.inr (.inr (.inr (.inr rfl))))) hg hs hs2 (by rw[hs2];rfl)
  .cases h
 .rename_i x;obtain⟨e,ee,hx,hs⟩:=one ha;subst ee;split at h
  .rename_i l el;split at h
   .rename_i ns en;obtain⟨z,q⟩:=qp h;cases q;have:=Jo en;subst this;exact DE.maxL (el▸hx.toT) (λz'=>by subst z';simp at z) (c.bt _ (by decide)) (hq (.inr (.inr (.inr (.inr rfl))))) hg hs
   .cases h
  .cases h
 .rename_i x;obtain⟨e,ee,hx,hs⟩:=one ha;subst ee;split at h
  .rename_i l el;split at h
   .rename_i ns en;obtain⟨z,q⟩:=qp h;cases q;have:=Jo en;subst this;exact DE.minL (el▸hx.toT) (λz'=>by subst z';simp at z) (c.bt _ (by decide)) (hq (.inl rfl)) hg hs
   .cases h
  .cases h
 .rename_i x;obtain⟨e,ee,hx,hs⟩:=one ha;subst ee;split at h
  .rename_i l el;cases q:boolsOf l with
   |none=>rw[q]at h;cases h
   |some bs =>rw[q]at h;cases h;have:=O4 q;subst this;exact DE.all (el▸hx.toT) (c.bt _ (by decide)) (hq (.inr (.inl rfl))) hg hs
  .cases h
 .rename_i x;obtain⟨e,ee,hx,hs⟩:=one ha;subst ee;split at h
  .rename_i l el;cases q:boolsOf l with
   |none=>rw[q]at h;cases h
   |some bs =>rw[q]at h;cases h;have:=O4 q;subst this;exact DE.any (el▸hx.toT) (c.bt _ (by decide)) (hq (.inr (.inr (.inr (.inl rfl))))) hg hs
  .cases h
 .rename_i x;obtain⟨e,ee,hx,hs⟩:=one ha;subst ee;split at h
  .rename_i s l el;cases h;exact DE.tupM (hx.toM el) (c.bt _ (by decide)) hg hs
  .cases h
 .rename_i x;obtain⟨e,ee,hx,hs⟩:=one ha;subst ee;split at h
  .rename_i s l el;cases h;exact DO.listM (hx.toM el) (c.bt _ (by decide)) hg hs
  .cases h
 .rename_i x;obtain⟨e,ee,hx,hs⟩:=one ha;subst ee;split at h
  .rename_i l el;cases q:intsOf l with
   |none=>rw[q]at h;cases h
   |some ns =>rw[q]at h;cases h;have:=Jo q;subst this;exact DE.sum ae (show DT X ρ e (.lst (ns.map D.int))from el▸hx.toT) (c.bt _ (by decide)) (hq (.inr (.inr (.inl rfl)))) hg hs
  .rename_i l el;cases q:intsOf l with
   |none=>rw[q]at h;cases h
   |some ns =>rw[q]at h;cases h;have:=Jo q;subst this;exact DE.sum a9 (show DT X ρ e (.tup (ns.map D.int))from el▸hx.toT) (c.bt _ (by decide)) (hq (.inr (.inr (.inl rfl)))) hg hs
  .cases h
 .rename_i x;obtain⟨e,ee,hx,hs⟩:=one ha;subst ee;split at h
  .rename_i k el;cases h;exact DE.int1 (el▸hx.toT) (c.bt _ (by decide)) hg hs
  .rename_i y el;split at h
   .rename_i hl;obtain⟨n,hn,rfl⟩:=Pb.mp h;exact DE.intS (el▸hx.toT) hn hl (c.bt _ (by decide)) hg hs
   .cases h
  .cases h
 .cases h
end
section
variable{Γ:au->List D->Rc}{G:au->Option D}{X:Cx}
def j06{d:D}{ns:zo}(h:tupI d=a8 ns):d=.tup (ns.map D.int):=by
 unfold tupI at h;split at h
 .rw[Jo h]
 .cases h
theorem j3g:∀{l:List D}{ks:List zo},Wa l=a8 ks->l=ks.map λk=>D.tup (k.map D.int)
 |[],ks,h=>by cases h;rfl
 |d::l,ks,h=>by
  unfold Wa at h;split at h
  .rename_i k ks' e1 e2;cases h;rw[j06 e1,j3g e2];rfl
  .cases h
def jjy:∀{d:D}{k:Int×zo},prI d=a8 k->d=pairD k:=λ{d k} h=>by
 unfold prI at h;split at h
 .obtain⟨x,e,z⟩:=Pb.mp h;subst z;rw[j06 e];rfl
 .cases h
theorem j6i:∀{l:List D}{ks:List (Int×zo)},j0m l=a8 ks->l=ks.map pairD
 |[],ks,h=>by cases h;rfl
 |d::l,ks,h=>by
  unfold j0m at h;split at h
  .rename_i k ks' e1 e2;cases h;rw[jjy e1,j6i e2];rfl
  .cases h
def j8c  {f:au}  {es:List av} {rs:List Rk}  {p2:aP} (g:Gok X Γ) (hg:Gl X f) (hdb:(f==k9o)=a9) (he:aj (e::es) X.env=(a9,aC e X.env)::aj es X.env)
  (hpl:(aR p2 (aj es X.env)).any (·.1)=a9) (ha:HasA X ρ (e::es) rs)
  (h:(match vm rs with|some ds=>(Γ f ds).rk.map W.v|none=>match Γ f (rs.map Rk.d)with|.val d=>a8 (.v (.t d))|.fresh l=>if qw l=ae then a8 (.v (.o l))else af|_=>af)=a8 (.v r)):Has X ρ (.Call (.Name f p) (e::es) [] p2) r:=by
 split at h
 .rename_i ds hds;have q:=g f ds;cases z:Γ f ds with
  |val d=>rw[z]at h q;cases h;exact DE.call q (ha.toA hds) ⟨rfl,rfl⟩ hg hdb he hpl
  |fresh l=>rw[z]at h q;cases h;exact DO.call q (ha.toA hds) ⟨rfl,rfl⟩ hg hdb he hpl
  |lval d=>rw[z]at h;cases h
  |no=>rw[z]at h;cases h
 .have q:=g f (rs.map Rk.d);split at h
  .rename_i d z;rw[z]at q;cases h;exact DT.call q ha.toT ⟨rfl,rfl⟩ hg hdb he hpl
  .rename_i l z;rw[z]at q;obtain⟨hn,e1⟩:=qp h;cases e1;exact DO.callT q ha.toT ⟨rfl,rfl⟩ hn hg hdb he hpl
  .cases h
end
structure Tr(X:Cx)(t:Ex)(nd:Nd):Prop where
 m:∀(Γ:au->List D->Rc)(G:au->Option D),Cok X G->Gok X Γ->jn8 Γ G X t nd
theorem Tr.int:∀{X:Cx}{i:Int}{n:Nat}{p:aP},Tr X (.lit (.int i)) (.e (.Constant (.int i) n p)):=by intro _ _ _ _;refine⟨λΓ G=>?_⟩;intro _ _ ρ r h;simp only[j3c]at h;cases h;exact DE.int
theorem Tr.bl:∀{X:Cx}{b:Bool}{n:Nat}{p:aP},Tr X (.lit (.bl b)) (.e (.Constant (.bool b) n p)):=by intro _ _ _ _;refine⟨λΓ G=>?_⟩;intro _ _ ρ r h;simp only[j3c]at h;cases h;exact DE.bl
theorem Tr.non:∀{X:Cx}{n:Nat}{p:aP},Tr X (.lit .non) (.e (.Constant .none n p)):=by intro _ _ _;refine⟨λΓ G=>?_⟩;intro _ _ ρ r h;simp only[j3c]at h;cases h;exact DE.non
theorem Tr.str:∀{X:Cx}{y:au}{n:Nat}{p:aP},Tr X (.lit (.str y)) (.e (.Constant (.str y) n p)):=by intro _ _ _ _;refine⟨λΓ G=>?_⟩;intro _ _ ρ r h;simp only[j3c]at h;cases h;exact DE.str
theorem Tr.var:∀{X:Cx}{k:Nat}{x:au}{p:aP}(hN:X.N[k]?=a8 x) (hv:Vis X.env.scope x) (hd:(x==k9o)=a9) (hcd:(x==k9p)=a9),Tr X (.var k) (.e (.Name x p)):=by
 intro _ _ _ _ hN hv hd hcd;refine⟨λΓ G=>?_⟩;intro _ _ ρ r h;simp only[jp7,j03]at h;split at h
 .rename_i e;cases h;exact DE.var _ (W9 e) hN hv hd hcd
 .rename_i e;cases h;obtain⟨a,q⟩:=Jc e;exact DL.var _ q hN hv hd hcd
 .cases h
theorem Tr.glob:∀{X:Cx}{x:au}{p:aP}(hg:Gl X x)(hd:(x==k9o)=a9) (hb:Eu x=a9),Tr X (.glob x) (.e (.Name x p)):=by
 intro _ _ _ hg hd hb;refine⟨λΓ G=>?_⟩;rename_i X x p;intro c _ ρ r h;simp only[jmu]at h;cases e:G x with
 |none=>rw[e]at h;cases h
 |some d=>rw[e]at h;cases h;obtain⟨u,v,hm,r,q⟩:=c.gl x d hb e;exact DE.glob hg hm r q hd
theorem Tr.bin:∀{X:Cx}{op:Bop}{a' b':Ex}{a b:av}{p:aP},Tr X a' (.e a)->Tr X b' (.e b)->Tr X (.bin op a' b') (.e (.BinOp a op.op b p)):=by
 intro _ _ _ _ _ _ _ q0 q1;refine⟨λΓ G=>?_⟩;have iha:=q0.m Γ G;have ihb:=q1.m Γ G;intro c g ρ r h;simp only[jpe,Z4]at h;split at h
 .rename_i x y ex ey;cases e:W7 _ x y with
  |none=>rw[e]at h;cases h
  |some z=>rw[e]at h;cases h;exact jbf e (iha c g ρ x ex) (ihb c g ρ y ey)
 .cases h
theorem Tr.cmp:∀{X:Cx}{op:Cop}{a' b':Ex}{a b:av}{p:aP}(hm:aO op.op b=a9),Tr X a' (.e a)->Tr X b' (.e b)->Tr X (.cmp op a' b') (.e (.Compare a [op.op] [b] p)):=by
 intro _ _ _ _ _ _ _ hm q0 q1;refine⟨λΓ G=>?_⟩;have iha:=q0.m Γ G;have ihb:=q1.m Γ G;intro c g ρ r h;simp only[jfo,j16]at h;split at h
 .rename_i x y ex ey;cases e:Qe _ x.d y.d with
  |none=>rw[e]at h;cases h
  |some z=>rw[e]at h;cases h;exact(j2e c.un' e (iha c g ρ x ex).toT (ihb c g ρ y ey).toT hm).1
 .cases h
def Tr.bcmp:∀{X:Cx}{op:Cop}{a' b':Ex}{a b:av}{p:aP}(hm:aO op.op b=a9),Tr X a' (.e a)->Tr X b' (.e b)->Tr X (.cmp op a' b') (.b (.Compare a [op.op] [b] p)):=by
 intro _ _ _ _ _ _ _ hm q0 q1;refine⟨λΓ G=>?_⟩;have iha:=q0.m Γ G;have ihb:=q1.m Γ G;intro c g ρ k h;obtain⟨r,h,hk⟩:=Ju h;simp only[jfo,j16]at h;split at h
 .rename_i x y ex ey;cases e:Qe _ x.d y.d with
  |none=>rw[e]at h;cases h
  |some z=>rw[e]at h;cases h;cases hk;exact(j2e c.un' e (iha c g ρ x ex).toT (ihb c g ρ y ey).toT hm).2
 .cases h
def Tr.bisN:∀{X:Cx}{a':Ex}{a:av}{n:Nat}{p p2:aP},Tr X a' (.e a)->Tr X (.isN a') (.b (.Compare a [.Is] [.Constant .none n p2] p)):=by
 intro _ _ _ _ _ _ q0;refine⟨λΓ G=>?_⟩;have iha:=q0.m Γ G;intro c g ρ k h;obtain⟨r,h,hk⟩:=Ju h;simp only[jfn]at h;split at h
 .rename_i x ex;cases h;cases hk;exact DB.isN (iha c g ρ x ex).toT
 .cases h
def Tr.isNN:∀{X:Cx}{a':Ex}{a:av}{n:Nat}{p p2:aP},Tr X a' (.e a)->Tr X (.not (.isN a')) (.e (.Compare a [.IsNot] [.Constant .none n p2] p)):=by
 intro _ _ _ _ _ _ q0;refine⟨λΓ G=>?_⟩;have iha:=q0.m Γ G;intro c g ρ r h;simp only[jfm,jfn]at h;cases e:truth _ with
 |none=>rw[e]at h;cases h
 |some k =>
  rw[e]at h;cases h;obtain⟨x,ex,ed⟩:=Ju e;split at ex
  .rename_i y ey;cases ex;cases ed;exact DE.isNotN (iha c g ρ y ey).toT
  .cases ex
def Tr.one:∀{X:Cx}{a':Ex}{a:av}{op:BoolOp}{p:aP},Tr X a' (.e a)->Tr X a' (.e (.BoolOp op [a] p)):=by intro _ _ _ _ _ q0;refine⟨λΓ G=>?_⟩;have iha:=q0.m Γ G;intro c g ρ r h;exact Has.map (λσ H Q q=>(jk3 peS).to q) (iha c g ρ r h)
theorem Tr.and:∀{X:Cx}{a' t':Ex}{a b:av}{rest:List av}{p:aP},Tr X a' (.e a)->Tr X t' (.e (.BoolOp .And (b::rest) p))->Tr X (.and a' t') (.e (.BoolOp .And (a::b::rest) p)):=by
 intro _ _ _ _ _ _ _ q0 q1;refine⟨λΓ G=>?_⟩;have iha:=q0.m Γ G;have ihb:=q1.m Γ G;intro c g ρ r h;simp only[jfp]at h;split at h
 .rename_i e;cases h;obtain⟨x,ex,ed⟩:=Ju e;exact(DE.and (m:=a9) ((iha c g ρ x ex).bl ed).toT λz=>by cases z)
 .rename_i e;obtain⟨x,ex,ed⟩:=Ju e;cases e2:truth (ev Γ G _ (j9 ρ)) with
  |none=>rw[e2]at h;cases h
  |some k =>rw[e2]at h;cases h;obtain⟨y,ey,fd⟩:=Ju e2;exact(DE.and ((iha c g ρ x ex).bl ed).toT λ_=>(ihb c g ρ y ey).bl fd).eq (by simp)
 .cases h
def Tr.wand1:∀{X:Cx}{a':Ex}{a:av}{p:aP},Tr X a' (.b a)->Tr X a' (.w (.BoolOp .And [a] p)):=by intro _ _ _ _ q0;refine⟨λΓ G=>?_⟩;have iha:=q0.m Γ G;intro c g ρ k h;exact DW.and1 (iha c g ρ k h)
def Tr.wor1:∀{X:Cx}{a':Ex}{a:av}{p:aP},Tr X a' (.b a)->Tr X a' (.w (.BoolOp .Or [a] p)):=by intro _ _ _ _ q0;refine⟨λΓ G=>?_⟩;have iha:=q0.m Γ G;intro c g ρ k h;exact DW.or1 (iha c g ρ k h)
def Tr.wand:∀{X:Cx}{a' t':Ex}{a b:av}{rest:List av}{p:aP},Tr X a' (.b a)->Tr X t' (.w (.BoolOp .And (b::rest) p))->Tr X (.and a' t') (.w (.BoolOp .And (a::b::rest) p)):=by
 intro _ _ _ _ _ _ _ q0 q1;refine⟨λΓ G=>?_⟩;have iha:=q0.m Γ G;have ihb:=q1.m Γ G;intro c g ρ k h;obtain⟨r,h,hk⟩:=Ju h;simp only[jfp]at h;split at h
 .rename_i e;cases h;cases hk;exact DW.and (m:=a9) (iha c g ρ a9 e) λz=>by cases z
 .rename_i e;cases e2:truth (ev Γ G _ (j9 ρ)) with
  |none=>rw[e2]at h;cases h
  |some m =>rw[e2]at h;cases h;cases hk;have q:=DW.and (iha c g ρ ae e) λ_=>ihb c g ρ _ e2;rw[iA]at q;exact q
 .cases h
def Tr.wor:∀{X:Cx}{a' t':Ex}{a b:av}{rest:List av}{p:aP},Tr X a' (.b a)->Tr X t' (.w (.BoolOp .Or (b::rest) p))->Tr X (.or a' t') (.w (.BoolOp .Or (a::b::rest) p)):=by
 intro _ _ _ _ _ _ _ q0 q1;refine⟨λΓ G=>?_⟩;have iha:=q0.m Γ G;have ihb:=q1.m Γ G;intro c g ρ k h;obtain⟨r,h,hk⟩:=Ju h;simp only[jqr]at h;split at h
 .rename_i e;cases h;cases hk;exact DW.or (m:=a9) (iha c g ρ ae e) λz=>by cases z
 .rename_i e;cases e2:truth (ev Γ G _ (j9 ρ)) with
  |none=>rw[e2]at h;cases h
  |some m =>rw[e2]at h;cases h;cases hk;have q:=DW.or (iha c g ρ a9 e) λ_=>ihb c g ρ _ e2;rw[lG]at q;exact q
 .cases h
def Tr.bw:∀{X:Cx}{a':Ex}{op:BoolOp}{es:List av}{p:aP},Tr X a' (.w (.BoolOp op es p))->Tr X a' (.b (.BoolOp op es p)):=by intro _ _ _ _ _ q0;refine⟨λΓ G=>?_⟩;have iha:=q0.m Γ G;intro c g ρ k h;exact DW.toB (iha c g ρ k h)
def Tr.bnot:∀{X:Cx}{a':Ex}{a:av}{p:aP},Tr X a' (.b a)->Tr X (.not a') (.b (.UnaryOp .Not a p)):=by
 intro _ _ _ _ q0;refine⟨λΓ G=>?_⟩;have iha:=q0.m Γ G;intro c g ρ k h;obtain⟨r,h,hk⟩:=Ju h;simp only[jfm]at h;cases e:truth (ev Γ G _ (j9 ρ)) with
 |none=>rw[e]at h;cases h
 |some m=>rw[e]at h;cases h;cases hk;exact DB.not (iha c g ρ m e)
def Tr.bval:∀{X:Cx}{a':Ex}{a:av}(he:∀whole,gH a X.env whole=(do let v <-whole;hU a.pos;cN [v] (truthy v))),Tr X a' (.e a)->Tr X a' (.b a):=by intro _ _ _ he q0;refine⟨λΓ G=>?_⟩;have iha:=q0.m Γ G;intro c g ρ k h;obtain⟨r,h,hk⟩:=Ju h;exact DB.val ((iha c g ρ r h).bl hk).toT he
theorem Tr.ite:∀{X:Cx}{c' a' b':Ex}{c a b:av}{p:aP},Tr X c' (.b c)->Tr X a' (.e a)->Tr X b' (.e b)->Tr X (.ite c' a' b') (.e (.IfExp c a b p)):=by
 intro _ _ _ _ _ _ _ _ q0 q1 q2;refine⟨λΓ G=>?_⟩;have ihc:=q0.m Γ G;have iha:=q1.m Γ G;have ihb:=q2.m Γ G;intro c g ρ r h;simp only[jpd]at h;split at h
 .rename_i e;split at h
  .rename_i x ex;cases es:x.st with
   |none=>rw[es]at h;cases h
   |some d=>rw[es]at h;cases h;exact(DE.ite (d':=d) (ihc c g ρ ae e) (λ_=>(iha c g ρ x ex).toE es) λz=>by cases z).eq (by simp)
  .cases h
 .rename_i e;split at h
  .rename_i x ex;cases es:x.st with
   |none=>rw[es]at h;cases h
   |some d=>rw[es]at h;cases h;exact(DE.ite (d:=d) (ihc c g ρ a9 e) (λz=>by cases z) λ_=>(ihb c g ρ x ex).toE es).eq (by simp)
  .cases h
 .cases h
theorem Tr.nil:∀{X:Cx},Tr X .nil (.a []):=by intro _;refine⟨λΓ G=>?_⟩;intro c g ρ rs h;simp only[De]at h;cases h;exact .nil
theorem Tr.cons:∀{X:Cx}{a' b':Ex}{a:av}{es:List av}(hs:aj (a::es) X.env=(a9,aC a X.env)::aj es X.env),Tr X a' (.e a)->Tr X b' (.a es)->Tr X (.cons a' b') (.a (a::es)):=by
 intro _ _ _ _ _ hs q0 q1;refine⟨λΓ G=>?_⟩
 .have iha:=q0.m Γ G;have ihb:=q1.m Γ G;intro c g ρ rs h;simp only[j00,consW]at h;split at h
  .rename_i x xs ex exs;cases h;exact .cons hs (iha c g ρ x ex) (ihb c g ρ xs exs)
  .cases h
theorem Tr.tup:∀{X:Cx}{es':Ex}{es:List av}{n:Nat}{p:aP},Tr X es' (.a es)->Tr X (.tup es') (.e (.Tuple es n p)):=by
 intro _ _ _ _ _ q0;refine⟨λΓ G=>?_⟩;have iha:=q0.m Γ G;intro c g ρ r h;simp only[jp8,Wt]at h;split at h
 .rename_i rs ers;split at h
  .rename_i ds hds;obtain⟨z,q⟩:=qp h;cases q;exact DE.tup (n:=0) ((iha c g ρ rs ers).toA hds) (zf z)
  .cases h
 .cases h
theorem Tr.lst:∀{X:Cx}{es':Ex}{es:List av}{p:aP},Tr X es' (.a es)->Tr X (.lst es') (.e (.List es p)):=by
 intro _ _ _ _ q0;refine⟨λΓ G=>?_⟩;have iha:=q0.m Γ G;intro c g ρ r h;simp only[jpc,Vm]at h;split at h
 .rename_i rs ers;split at h
  .rename_i ds hds;obtain⟨z,q⟩:=qp h;cases q;exact DO.lst ((iha c g ρ rs ers).toA hds) (zf z)
  .cases h
 .cases h
theorem Tr.ix:∀{X:Cx}{a' b':Ex}{a b:av}{p:aP}(hs:Ut b),Tr X a' (.e a)->Tr X b' (.e b)->Tr X (.ix a' b') (.e (.Subscript a b p)):=by
 intro _ _ _ _ _ _ hs q0 q1;refine⟨λΓ G=>?_⟩;have iha:=q0.m Γ G;have ihb:=q1.m Γ G;intro c g ρ r h;simp only[jqs,ixW]at h;split at h
 .rename_i x y ex ey;split at h
  .rename_i s l i hx hy;cases z:atI l i with
   |none=>rw[z]at h;cases h
   |some d=>rw[z]at h;cases h;exact DE.ixM ((iha c g ρ x ex).toM hx) (hy▸(ihb c g ρ y ey).toT) z hs
  .rename_i i hx hy;split at h
   .rename_i y' ed;split at h
    .rename_i hl;cases z:atI y'.cps.toList i with
     |none=>rw[z]at h;cases h
     |some d=>rw[z]at h;cases h;exact DE.ixC (ed▸(iha c g ρ x ex).toT) (hy▸(ihb c g ρ y ey).toT) (zf hl) z hs
    .cases h
   .cases h
  .cases h
 .cases h
def Tr.oN:∀{X:Cx},Tr X .nil (.o af):=by intro _;refine⟨λΓ G=>?_⟩;intro c g ρ o h;simp only[De,Zn]at h;cases h;exact DP.none
def Tr.oS:∀{X:Cx}{a':Ex}{a:av},Tr X a' (.e a)->Tr X (.cons a' .nil) (.o (a8 a)):=by
 intro _ _ _ q0;refine⟨λΓ G=>?_⟩;have iha:=q0.m Γ G;intro c g ρ o h;simp only[j00,De,consW]at h;split at h
 .rename_i x xs ex exs;cases exs;simp only[Zn]at h;split at h
  .rename_i i ei;cases h;exact DP.some (ei▸(iha c g ρ x ex).toT)
  .cases h
 .cases h
theorem Tr.sl:∀{X:Cx}{a' l' h':Ex}{a:av}{lo hi:Option av}{p p2:aP},Tr X a' (.e a)->Tr X l' (.o lo)->Tr X h' (.o hi)->Tr X (.sl a' l' h') (.e (.Subscript a (.Slice lo hi af p2) p)):=by
 intro _ _ _ _ _ _ _ _ _ q0 q1 q2;refine⟨λΓ G=>?_⟩;have iha:=q0.m Γ G;have ihl:=q1.m Γ G;have ihh:=q2.m Γ G;intro c g ρ r h;simp only[jqq]at h;split at h
 .rename_i x l hh ex el eh;split at h
  .rename_i ds e;cases h;exact DO.sliceM ((iha c g ρ x ex).toM e) (ihl c g ρ l el) (ihh c g ρ hh eh)
  .rename_i ds e;split at h
   .cases h
   .rename_i z;cases h;exact DE.sliceM ((iha c g ρ x ex).toM e) (ihl c g ρ l el) (ihh c g ρ hh eh) z
  .split at h
   .rename_i y' ed;obtain⟨z,q⟩:=qp h;cases q;exact DE.sliceS (ed▸(iha c g ρ x ex).toT) (ihl c g ρ l el) (ihh c g ρ hh eh) (zf z)
   .cases h
 .cases h
theorem Tr.call:∀{X:Cx}{f:au}{es':Ex}{e:av}{es:List av}{p p2:aP}(hg:Gl X f) (hdb:(f==k9o)=a9) (he:aj (e::es) X.env=(a9,aC e X.env)::aj es X.env) (hpl:(aR p2 (aj es X.env)).any (·.1)=a9),Tr X es' (.a (e::es))->Tr X (.call f es') (.e (.Call (.Name f p) (e::es) [] p2)):=by
 intro _ f _ _ _ _ _ hg hdb he hpl q0;refine⟨λΓ G=>?_⟩
 .have iha:=q0.m Γ G;intro c g ρ r h;simp only[jmy,Jq]at h;split at h
  .rename_i rs ers;exact j8c g hg hdb he hpl (iha c g ρ rs ers) h
  .cases h
theorem Tr.callD:∀{X:Cx}{f:au}{es':Ex}{e:av}{es:List av}{p p2:aP}(hf:f∈j86) (hg:Gl X f) (hdb:(f==k9o)=a9) (he:aj (e::es) X.env=(a9,aC e X.env)::aj es X.env) (hpl:(aR p2 (aj es X.env)).any (·.1)=a9),Tr X es' (.a (e::es))->Tr X (.callD f es') (.e (.Call (.Name f p) (e::es) [] p2)):=by
 intro _ f _ _ _ _ _ hf hg hdb he hpl q0;refine⟨λΓ G=>?_⟩;have iha:=q0.m Γ G;intro c g ρ r h;simp only[jiw]at h;split at h
 .rename_i rs ers;split at h
  .rename_i ds eds;split at h
   .rename_i d ed;cases h;have q:=g f (ds++[.non]);rw[ed]at q;exact DE.callD q hf ((iha c g ρ rs ers).toA eds) ⟨rfl,rfl⟩ hg hdb he hpl
   .cases h
  .cases h
 .cases h
def Tr.max1:∀{X:Cx}{es':Ex}{e:av}{p p2:aP}(hq:X.calm=ae)(hg:Gl X "max"),Tr X es' (.a [e])->Tr X (.blt .max es') (.e (.Call (.Name "max" p) [e] [] p2)):=by
 intro _ _ _ _ _ hq hg q0;refine⟨λΓ G=>?_⟩;have iha:=q0.m Γ G;intro c g ρ r h;simp only[Oa,zp]at h;split at h
 .rename_i rs ers;cases e:V3 _ rs with
  |none=>rw[e]at h;cases h
  |some x=>rw[e]at h;cases h;exact Zo (f:=.max) c (λ_=>hq) hg e (iha c g ρ rs ers)
 .cases h
theorem Tr.len:∀{X:Cx}{es':Ex}{e:av}{p p2:aP}(hg:Gl X "len"),Tr X es' (.a [e])->Tr X (.blt .len es') (.e (.Call (.Name "len" p) [e] [] p2)):=by
 intro _ _ _ _ _ hg q0;refine⟨λΓ G=>?_⟩;have iha:=q0.m Γ G;intro c g ρ r h;simp only[Oa,zp]at h;split at h
 .rename_i rs ers;cases e:V3 _ rs with
  |none=>rw[e]at h;cases h
  |some x=>rw[e]at h;cases h;exact Zo (f:=.len) c (λz=>by rcases z with z|z|z|z|z<;>cases z) hg e (iha c g ρ rs ers)
 .cases h
theorem Tr.all:∀{X:Cx}{es':Ex}{e:av}{p p2:aP}(hq:X.calm=ae)(hg:Gl X "all"),Tr X es' (.a [e])->Tr X (.blt .all es') (.e (.Call (.Name "all" p) [e] [] p2)):=by
 intro _ _ _ _ _ hq hg q0;refine⟨λΓ G=>?_⟩;have iha:=q0.m Γ G;intro c g ρ r h;simp only[Oa,zp]at h;split at h
 .rename_i rs ers;cases e:V3 _ rs with
  |none=>rw[e]at h;cases h
  |some x=>rw[e]at h;cases h;exact Zo (f:=.all) c (λ_=>hq) hg e (iha c g ρ rs ers)
 .cases h
theorem Tr.tuple:∀{X:Cx}{es':Ex}{e:av}{p p2:aP}(hg:Gl X "tuple"),Tr X es' (.a [e])->Tr X (.blt .tuple es') (.e (.Call (.Name "tuple" p) [e] [] p2)):=by
 intro _ _ _ _ _ hg q0;refine⟨λΓ G=>?_⟩;have iha:=q0.m Γ G;intro c g ρ r h;simp only[Oa,zp]at h;split at h
 .rename_i rs ers;cases e:V3 _ rs with
  |none=>rw[e]at h;cases h
  |some x=>rw[e]at h;cases h;exact Zo (f:=.tuple) c (λz=>by rcases z with z|z|z|z|z<;>cases z) hg e (iha c g ρ rs ers)
 .cases h
theorem Tr.list:∀{X:Cx}{es':Ex}{e:av}{p p2:aP}(hg:Gl X "list"),Tr X es' (.a [e])->Tr X (.blt .list es') (.e (.Call (.Name "list" p) [e] [] p2)):=by
 intro _ _ _ _ _ hg q0;refine⟨λΓ G=>?_⟩;have iha:=q0.m Γ G;intro c g ρ r h;simp only[Oa,zp]at h;split at h
 .rename_i rs ers;cases e:V3 _ rs with
  |none=>rw[e]at h;cases h
  |some x=>rw[e]at h;cases h;exact Zo (f:=.list) c (λz=>by rcases z with z|z|z|z|z<;>cases z) hg e (iha c g ρ rs ers)
 .cases h
theorem Tr.sum:∀{X:Cx}{es':Ex}{e:av}{p p2:aP}(hq:X.calm=ae)(hg:Gl X "sum"),Tr X es' (.a [e])->Tr X (.blt .sum es') (.e (.Call (.Name "sum" p) [e] [] p2)):=by
 intro _ _ _ _ _ hq hg q0;refine⟨λΓ G=>?_⟩;have iha:=q0.m Γ G;intro c g ρ r h;simp only[Oa,zp]at h;split at h
 .rename_i rs ers;cases e:V3 _ rs with
  |none=>rw[e]at h;cases h
  |some x=>rw[e]at h;cases h;exact Zo (f:=.sum) c (λ_=>hq) hg e (iha c g ρ rs ers)
 .cases h
def Tr.intc:∀{X:Cx}{es':Ex}{e:av}{p p2:aP}(hg:Gl X "int"),Tr X es' (.a [e])->Tr X (.blt .int es') (.e (.Call (.Name "int" p) [e] [] p2)):=by
 intro _ _ _ _ _ hg q0;refine⟨λΓ G=>?_⟩;have iha:=q0.m Γ G;intro c g ρ r h;simp only[Oa,zp]at h;split at h
 .rename_i rs ers;cases e:V3 _ rs with
  |none=>rw[e]at h;cases h
  |some x=>rw[e]at h;cases h;exact Zo (f:=.int) c (λz=>by rcases z with z|z|z|z|z<;>cases z) hg e (iha c g ρ rs ers)
 .cases h
theorem Tr.join:∀{X:Cx}{a':Ex}{a:av}{sep:au}{n:Nat}{p0 p1 p2:aP}(hbase:aL (.Constant (.str sep) n p0) "join" X.env (aC (.Constant (.str sep) n p0) X.env)=aC (.Constant (.str sep) n p0) X.env) (hfew:((aR p2 (aj [a] X.env)).all (λx=>!x.1)&&(br p2 (aV [] X.env)).all (λx=>x.1.isSome)&&decide (([a]:List av).length+([]:List aS).length+(if ([]:List aS).isEmpty then 0 else 1)<30))=ae) (hline:(p1.endLine==p2.line)=ae) (hs:aj [a] X.env=(a9,aC a X.env)::aj [] X.env),Tr X a' (.e a)->Tr X (.join sep a') (.e (.Call (.Attribute (.Constant (.str sep) n p0) "join" p1) [a] [] p2)):=by
 intro _ _ _ _ _ _ _ _ hbase hfew hline hs q0;refine⟨λΓ G=>?_⟩;have iha:=q0.m Γ G;intro c g ρ r h;simp only[jmt,Fe]at h;split at h
 .rename_i x ex;split at h
  .rename_i l el;split at h
   .rename_i ts et;obtain⟨z,q⟩:=qp h;cases q;have:=Yw et;subst this;exact DE.join (el▸(iha c g ρ x ex).toT) z hfew hbase hline hs
   .cases h
  .cases h
 .cases h
theorem Tr.srt:∀{X:Cx}{a':Ex}{a:av}{p pos:aP}(hg:Gl X "sorted") (hs:aj [a] X.env=[(a9,aC a X.env)]),Tr X a' (.e a)->Tr X (.srt a') (.e (.Call (.Name "sorted" p) [a] [] pos)):=by
 intro _ _ _ _ _ hg hs q0;refine⟨λΓ G=>?_⟩;have iha:=q0.m Γ G;intro c g ρ r h;simp only[jpa,j0d]at h;split at h
 .rename_i x ex;have z:=(iha c g ρ x ex).toT;split at h
  .rename_i l el;rw[el]at z;split at h
   .rename_i ts et;split at h
    .rename_i hl;cases h;exact DO.sortedS (.inl (by rw[Yw et])) hl (c.bt _ (by decide)) hg z hs
    .cases h
   .cases h
  .rename_i l el;rw[el]at z;split at h
   .rename_i ts et;split at h
    .rename_i hl;cases h;exact DO.sortedS (.inr (by rw[Yw et])) hl (c.bt _ (by decide)) hg z hs
    .cases h
   .cases h
  .cases h
 .cases h
theorem Tr.lset:∀{X:Cx}{a':Ex}{a:av}{p p1 p2 pos:aP}(hq:X.calm=ae)(hg:Gl X "len") (hg2:Gl X "set") (hs:aj [a] X.env=[(a9,aC a X.env)]) (hs2:aj [.Call (.Name "set" p1) [a] [] p2] X.env=[(a9,aC (.Call (.Name "set" p1) [a] [] p2) X.env)]),Tr X a' (.e a)->Tr X (.lset a') (.e (.Call (.Name "len" p) [.Call (.Name "set" p1) [a] [] p2] [] pos)):=by
 intro _ _ _ _ _ _ _ hq hg hg2 hs hs2 q0;refine⟨λΓ G=>?_⟩;have iha:=q0.m Γ G;intro c g ρ r h;simp only[jms,Fb]at h;split at h
 .rename_i x ex;split at h
  .rename_i l el;split at h
   .rename_i ts et;obtain⟨z,q⟩:=qp h;cases q;have:=Yw et;subst this;exact DE.lenSet (el▸(iha c g ρ x ex).toT) hq nofun (c.bt _ (by decide)) (c.bt _ (by decide)) hg hg2 hs hs2
   .split at h
    .rename_i ts et;obtain⟨z,q⟩:=qp h;cases q;have:=Jo et;subst this;exact DE.lenSetI (el▸(iha c g ρ x ex).toT) hq nofun (c.bt _ (by decide)) (c.bt _ (by decide)) hg hg2 hs hs2
    .cases h
  .cases h
 .cases h
theorem Tr.tix:∀{X:Cx}{a' b':Ex}{a e:av}{p1 p2:aP}(hbase:aL a "index" X.env (aC a X.env)=aC a X.env) (hfew:((aR p2 (aj [e] X.env)).all (λx=>!x.1)&&(br p2 (aV [] X.env)).all (λx=>x.1.isSome)&&decide (([e]:List av).length+([]:List aS).length+(if ([]:List aS).isEmpty then 0 else 1)<30))=ae) (hline:(p1.endLine==p2.line)=ae) (hs:aj [e] X.env=(a9,aC e X.env)::aj [] X.env),Tr X a' (.e a)->Tr X b' (.e e)->Tr X (.tix a' b') (.e (.Call (.Attribute a "index" p1) [e] [] p2)):=by
 intro _ _ _ _ _ _ _ hbase hfew hline hs q0 q1;refine⟨λΓ G=>?_⟩;have iha:=q0.m Γ G;have ihb:=q1.m Γ G;intro c g ρ r h;simp only[jp9,Oj]at h;split at h
 .rename_i x y ex ey;split at h
  .rename_i l el;by_cases z:D.depL l<=90/\y.d.dep<=90
   .rw[if_pos z]at h;cases e:ixD y.d l with
    |none=>rw[e]at h;cases h
    |some k=>rw[e]at h;cases h;exact DE.indexT c.un' (el▸(iha c g ρ x ex).toT) (ihb c g ρ y ey).toT nofun nofun e hbase hfew hline hs
   .rw[if_neg z]at h;cases h
  .rename_i l el;by_cases z:D.depL l<=90/\y.d.dep<=90
   .rw[if_pos z]at h;cases e:ixD y.d l with
    |none=>rw[e]at h;cases h
    |some k=>rw[e]at h;cases h;exact DE.indexL c.un' (el▸(iha c g ρ x ex).toT) (ihb c g ρ y ey).toT nofun nofun e hbase hfew hline hs
   .rw[if_neg z]at h;cases h
  .cases h
 .cases h
theorem Tr.enum:∀{X:Cx}{a':Ex}{a:av}{es:List av}{n:Nat}{p p2 pt:aP}(hg:Gl X "enumerate") (hs:aj [a] X.env=[(a9,aC a X.env)]),Tr X a' (.e a)->Tr X (.enum a') (.i (.Tuple es n pt) (.Call (.Name "enumerate" p) [a] [] p2)):=by
 intro _ _ _ _ _ _ _ _ hg hs q0;refine⟨λΓ G=>?_⟩;have iha:=q0.m Γ G;intro c g ρ ds h;simp only[jmv,Fp]at h;split at h
 .rename_i x ex;have ha:=iha c g ρ x ex;split at h
  .rename_i l e1;cases h;exact DI.enum ae (ha.toE e1) (c.bt _ (by decide)) hg hs
  .rename_i l e1;cases h;exact DI.enum a9 (ha.toE e1) (c.bt _ (by decide)) hg hs
  .cases h
 .cases h
theorem Tr.count:∀{X:Cx}{a' es':Ex}{a e:av}{p1 p2:aP}(hbase:aL a "count" X.env (aC a X.env)=aC a X.env) (hfew:((aR p2 (aj [e] X.env)).all (λx=>!x.1)&&(br p2 (aV [] X.env)).all (λx=>x.1.isSome)&&decide (([e]:List av).length+([]:List aS).length+(if ([]:List aS).isEmpty then 0 else 1)<30))=ae) (hline:(p1.endLine==p2.line)=ae),Tr X a' (.e a)->Tr X es' (.a [e])->Tr X (.meth .count a' es') (.e (.Call (.Attribute a "count" p1) [e] [] p2)):=by
 intro _ _ _ _ _ _ _ hbase hfew hline q0 q1;refine⟨λΓ G=>?_⟩;have iha:=q0.m Γ G;have ihb:=q1.m Γ G;intro c g ρ r h;simp only[jmr,Ny]at h;split at h
 .rename_i x rs ex ers;obtain⟨y,e,hy,hs⟩:=(ihb c g ρ rs ers).one;subst e;simp only[j7w]at h;split at h
  .rename_i l el;split at h
   .rename_i z;cases h;exact DE.countT c.un' (el▸(iha c g ρ x ex).toT) hy.toT nofun nofun hbase hfew hline hs
   .cases h
  .rename_i l el;split at h
   .rename_i z;cases h;exact DE.countL c.un' (el▸(iha c g ρ x ex).toT) hy.toT nofun nofun hbase hfew hline hs
   .cases h
  .cases h
 .cases h
theorem Tr.callV:∀{X:Cx}{i:Nat}{y:au}{es':Ex}{e:av}{es:List av}{p p2:aP} (hN:X.N[i]?=a8 y) (hv:Vis X.env.scope y) (hd:(y==k9o)=a9) (hcd:(y==k9p)=a9) (he:aj (e::es) X.env=(a9,aC e X.env)::aj es X.env) (hpl:(aR p2 (aj es X.env)).any (·.1)=a9),Tr X es' (.a (e::es))->Tr X (.callV i es') (.e (.Call (.Name y p) (e::es) [] p2)):=by
 intro _ i y es' e es p p2 hN hv hd hcd he hpl q0;refine⟨λΓ G=>?_⟩;have iha:=q0.m Γ G;intro c g ρ r h;simp only[jiv,Rx]at h;split at h
 .rename_i x cs rs ei ers;split at h
  .rename_i ds eds;split at h
   .rename_i nf;have q:=g (qg x) (cs++ds);cases z:Γ (qg x) (cs++ds) with
    |lval d =>rw[z]at h q;cases h;obtain⟨k,hr,lk⟩:=q x rfl;exact DE.callV lk hr (W9 ei) ((iha c g ρ rs ers).toA eds) nf ⟨rfl,rfl⟩ hN hv hd hcd he hpl
    |val d=>rw[z]at h;cases h
    |fresh l=>rw[z]at h;cases h
    |no=>rw[z]at h;cases h
   .cases h
  .cases h
 .cases h
theorem Tr.dget:∀{X:Cx}{a' b':Ex}{a b:av}{p:aP}(hs:Ut b),Tr X a' (.e a)->Tr X b' (.e b)->Tr X (.dget a' b') (.e (.Subscript a b p)):=by
 intro _ _ _ _ _ _ hs q0 q1;refine⟨λΓ G=>?_⟩
 .have iha:=q0.m Γ G;have ihb:=q1.m Γ G;intro c g ρ r h;simp only[jmw,Ft]at h;split at h
  .rename_i ks ds y ex ey;split at h
   .rename_i k ek;cases e:zj ks ds k with
    |none=>rw[e]at h;cases h
    |some d=>rw[e]at h;cases h;exact DE.dget c.un' ((iha c g ρ (.e (.dct ks ds)) ex).toE rfl) (j06 ek▸(ihb c g ρ y ey).toT) e hs
   .cases h
  .cases h
theorem Tr.dvals:∀{X:Cx}{a':Ex}{a:av}{p p1 p2 pos:aP}(hq:X.calm=ae)(hg:Gl X "tuple") (hbase:aL a "values" X.env (aC a X.env)=aC a X.env) (hline:(p1.endLine==p2.line)=ae) (hs2:aj [.Call (.Attribute a "values" p1) [] [] p2] X.env=[(a9,aC (.Call (.Attribute a "values" p1) [] [] p2) X.env)]),Tr X a' (.e a)->Tr X (.dvals a') (.e (.Call (.Name "tuple" p) [.Call (.Attribute a "values" p1) [] [] p2] [] pos)):=by
 intro _ _ _ _ _ _ _ hq hg hbase hline hs2 q0;refine⟨λΓ G=>?_⟩;have iha:=q0.m Γ G;intro c g ρ r h;simp only[jiu,Bs]at h;split at h
 .rename_i ks ds ex;cases h;exact DE.tupVals ((iha c g ρ (.e (.dct ks ds)) ex).toE rfl) hq (c.bt _ (by decide)) hg hbase hline hs2
 .cases h
theorem Tr.minT:∀{X:Cx}{a':Ex}{a:av}{p pos:aP}(hq:X.calm=ae)(hg:Gl X "min") (hs:aj [a] X.env=[(a9,aC a X.env)]),Tr X a' (.e a)->Tr X (.minT a') (.e (.Call (.Name "min" p) [a] [] pos)):=by
 intro _ _ _ _ _ hq hg hs q0;refine⟨λΓ G=>?_⟩;have iha:=q0.m Γ G;intro c g ρ r h;simp only[jmq,Wi]at h;split at h
 .rename_i x ex;split at h
  .rename_i l el;split at h
   .rename_i ks ek;cases e:ks[aN (Q0 ks) (ks.length-1)]? with
    |none=>rw[e]at h;cases h
    |some k =>rw[e]at h;cases h;exact DT.minT c.un' hq (c.bt _ (by decide)) hg (by have z:=(iha c g ρ x ex).toT;rw[el,j3g ek]at z;exact z) e hs
   .split at h
    .rename_i ks ek;cases e:ks[aN (Vb ks) (ks.length-1)]? with
     |none=>rw[e]at h;cases h
     |some k =>rw[e]at h;cases h;exact DT.minP c.un' hq (c.bt _ (by decide)) hg (by have z:=(iha c g ρ x ex).toT;rw[el,j6i ek]at z;exact z) e hs
    .cases h
  .cases h
 .cases h
def Tr.c0:∀{X:Cx},Tr X .nil (.c []):=by intro _;refine⟨λΓ G=>?_⟩;intro c g ρ;exact⟨λ_=>DTs.nil,λy k h=>by simp only[De]at h;cases h⟩
def Tr.c1:∀{X:Cx}{c':Ex}{c:av},Tr X c' (.b c)->Tr X (.cons c' .nil) (.c [c]):=by
 intro _ _ _ q0;refine⟨λΓ G=>?_⟩;have iha:=q0.m Γ G;intro c g ρ;refine⟨λh=>?_,λy k h hk=>DTs.one ?_⟩
 .simp only[j00,De,consW]at h;split at h<;>cases h
 .simp only[j00,De,consW]at h;split at h
  .rename_i x xs ex exs;cases exs;cases h;exact iha c g ρ k (by rw[ex];simp only[truth,hk])
  .cases h
def Tr.comp1:∀{X:Cx}{i:Nat}{y:au}{py p:aP}{elt' it' c':Ex}{elt it:av}{ifs:List av} {scope:be} (hq:X.calm=ae) (hi:X.N[i]?=a8 y) (hl:Wb scope y=ae) (hkind:scope.kind=.function) (hok:Jp scope X.env X.N [i]=ae) (hs:∀x,aH it X.env x=pure x),Tr X it' (.i (.Name y py) it)->(∀C s H fp pn,Tr (cCx X scope C s H fp pn) elt' (.e elt))->(∀C s H fp pn,Tr (cCx X scope C s H fp pn) c' (.c ifs))->Tr X (.comp [i] elt' it' c') (.e (.ListComp elt [⟨.Name y py,it,ifs,0⟩] scope p)):=by
 intro _ _ _ _ _ _ _ _ _ _ _ _ hq hi hl hkind hok hs q0 q1 q2;refine⟨λΓ G=>?_⟩;have ihi:=q0.m Γ G;have ihe:=λC s H fp pn=>(q1 C s H fp pn).m Γ G;have ihc:=λC s H fp pn=>(q2 C s H fp pn).m Γ G;intro c g ρ r h;obtain⟨l,e,q⟩:=Em hq c (λρ ds z=>ihi c g ρ ds z) hkind hok hs (λρ d ρ2 hb hun=>by
  simp only[qz]at hb
  cases hb
  have hu:=hun _ (xu.mpr rfl)
  exact⟨_,jh,Wk.set hu,Yp hu,λC s H fp pn=>DG.name _ c.nd hi (Nh hl) (Ko hl)⟩)
  (λC s H fp pn ρ r z=>ihe C s H fp pn c.comp g.comp ρ r z) (λC s H fp pn ρ=>ihc C s H fp pn c.comp g.comp ρ) h
 subst e;exact q
def Tr.comp2:∀{X:Cx}{i j:Nat}{x y:au}{px py pt p:aP}{n:Nat}{elt' it' c':Ex}{elt it:av} {ifs:List av} {scope:be} (hq:X.calm=ae) (hij:i≠j) (hi:X.N[i]?=a8 x) (hj:X.N[j]?=a8 y) (hl:Wb scope x=ae) (hl':Wb scope y=ae) (hkind:scope.kind=.function) (hok:Jp scope X.env X.N [i,j]=ae) (hs:∀x,aH it X.env x=pure x),Tr X it' (.i (.Tuple [.Name x px,.Name y py] n pt) it)->(∀C s H fp pn,Tr (cCx X scope C s H fp pn) elt' (.e elt))->(∀C s H fp pn,Tr (cCx X scope C s H fp pn) c' (.c ifs))->Tr X (.comp [i,j] elt' it' c') (.e (.ListComp elt [⟨.Tuple [.Name x px,.Name y py] n pt,it,ifs,0⟩] scope p)):=by
 intro _ i j _ _ _ _ _ _ _ _ _ _ _ _ _ _ hq hij hi hj hl hl' hkind hok hs q0 q1 q2;refine⟨λΓ G=>?_⟩;have ihi:=q0.m Γ G;have ihe:=λC s H fp pn=>(q1 C s H fp pn).m Γ G;have ihc:=λC s H fp pn=>(q2 C s H fp pn).m Γ G;intro c g ρ r h;obtain⟨l,e,q⟩:=Em hq c (λρ ds z=>ihi c g ρ ds z) hkind hok hs (λρ d ρ2 hb hun=>by
  simp only[qz]at hb
  split at hb
  .rename_i a b
   cases hb
   have hu:=hun _ (X6 ..)
   have hu':=hun _ (xn _ (xu.mpr rfl))
   have h1:(ρ.set i (.val a))[j]?=a8 Sl.un:=by rw[zq hij];exact hu'
   exact⟨(ρ.set i (.val a)).set j (.val b),by rw[jh,jh];rfl,λK σ H R=>Wk.set hu K σ H (Wk.set h1 K σ H R),by rw[Yp h1,Yp hu],
    λC s H fp pn=>DG.pair _ _ hij c.nd hi hj (Nh hl) (Nh hl') (Ko hl) (Ko hl') hq⟩
  .cases hb)
  (λC s H fp pn ρ r z=>ihe C s H fp pn c.comp g.comp ρ r z) (λC s H fp pn ρ=>ihc C s H fp pn c.comp g.comp ρ) h
 subst e;exact q
theorem Tr.seq:∀{X:Cx}{a':Ex}{tg a:av},Tr X a' (.e a)->Tr X (.seq a') (.i tg a):=by
 intro _ _ _ _ q0;refine⟨λΓ G=>?_⟩;have iha:=q0.m Γ G;intro c g ρ ds h;simp only[jpb,Cr]at h;split at h
 .rename_i l e;cases h;exact DI.lst (iha c g ρ _ e)
 .rename_i l e;cases h;exact DI.tup (iha c g ρ _ e)
 .rename_i l e;cases h;exact DI.lst (DO.toE (iha c g ρ _ e))
 .rename_i y e;obtain⟨z,q⟩:=qp h;cases q;exact DI.str (iha c g ρ _ e).toT z
 .cases h
theorem Tr.range:∀{X:Cx}{es':Ex}{tg:av}{es:List av}{p p2:aP}(hg:Gl X "range"),Tr X es' (.a es)->Tr X (.range es') (.i tg (.Call (.Name "range" p) es [] p2)):=by
 intro _ _ _ _ _ _ hg q0;refine⟨λΓ G=>?_⟩;have iha:=q0.m Γ G;intro c g ρ ds h;simp only[jit,Ov]at h;split at h
 .rename_i x ex;have q:=iha c g ρ _ ex;cases q with|cons hs hx t =>
  cases t;split at h
  .rename_i n en;obtain⟨z,q⟩:=qp h;cases q;exact DI.range1 (en▸hx.toT) (c.bt _ (by decide)) z.1 z.2 hg hs
  .cases h
 .rename_i x y ex;have q:=iha c g ρ _ ex;cases q with|cons hs hx t =>
  cases t with|cons hs2 hy t2 =>
  cases t2;split at h
  .rename_i m n em en;obtain⟨z,q⟩:=qp h;cases q;exact DI.range2 (em▸hx.toT) (en▸hy.toT) (c.bt _ (by decide)) z.1 z.2.1 z.2.2.1 z.2.2.2 hg (by rw[hs,hs2];rfl) hs2 hs
  .cases h
 .cases h
theorem Tr.zip:∀{X:Cx}{a' b':Ex}{a b:av}{es:List av}{n:Nat}{p p2 pt:aP}(hg:Gl X "zip") (hs:aj [a,b] X.env=(a9,aC a X.env)::aj [b] X.env) (hs2:aj [b] X.env=(a9,aC b X.env)::aj [] X.env),Tr X a' (.e a)->Tr X b' (.e b)->Tr X (.zip a' b') (.i (.Tuple es n pt) (.Call (.Name "zip" p) [a,b] [] p2)):=by
 intro _ _ _ _ _ _ _ _ _ _ hg hs hs2 q0 q1;refine⟨λΓ G=>?_⟩;have iha:=q0.m Γ G;have ihb:=q1.m Γ G;intro c g ρ ds h;simp only[jp6,j7a]at h;split at h
 .rename_i x y ex ey;have ha:=iha c g ρ x ex;have hb:=ihb c g ρ y ey;have pl:∀{p2:aP},(aR p2 (aj [_] _)).any (·.1)=a9:=λ{p2}=>by rw[hs2];rfl
  split at h
  .rename_i l m e1 e2;cases h;exact DI.zip ae ae (ha.toE e1) (hb.toE e2) (c.bt _ (by decide)) hg hs hs2 pl
  .rename_i l m e1 e2;cases h;exact DI.zip ae a9 (ha.toE e1) (hb.toE e2) (c.bt _ (by decide)) hg hs hs2 pl
  .rename_i l m e1 e2;cases h;exact DI.zip a9 ae (ha.toE e1) (hb.toE e2) (c.bt _ (by decide)) hg hs hs2 pl
  .rename_i l m e1 e2;cases h;exact DI.zip a9 a9 (ha.toE e1) (hb.toE e2) (c.bt _ (by decide)) hg hs hs2 pl
  .cases h
 .cases h
section
variable{Γ:au->List D->Rc}{G:au->Option D}{X:Cx}
def sound{t:Ex}{nd:Nd}(h:Tr X t nd):Cok X G->Gok X Γ->jn8 Γ G X t nd:=h.m Γ G
end
inductive So where
 |next (ρ:En)
 |ret (r:Rc)
 |brk (ρ:En)
 |cnt (ρ:En)
 |no
inductive Sx where
 |nop
 |seq (a b:Sx)
 |set (i:Nat) (e:Ex)
 |mov (i j:Nat)
 |expr (e:Ex)
 |ret (e:Ex)
 |retV (i:Nat)
 |ife (c:Ex) (a b:Sx)
 |loop (is:List Nat) (it:Ex) (body:Sx)
 |app (i:Nat) (e:Ex)
 |ext (i:Nat) (e:Ex)
 |put (i:Nat) (k e:Ex)
 |fgt (i:Nat)
 |keep (i:Nat)
 |unp (i j:Nat) (e:Ex)
 |retL (x:au) (is:List Nat)
 |retC (f x:au) (a b:Ex) (is:List Nat)
 |nmake (x t y:Nat) (it e1 e2:Ex)
 |apop (i w:Nat) (e:Ex)
 |wmake (x t:Nat) (it e:Ex)
 |fail
noncomputable def Jz(f:D->En->So):List D->En->So
 |[],ρ=>.next ρ
 |d::ds,ρ=>match f d ρ with
  |.next ρ'=>Jz f ds ρ'
  |.cnt ρ'=>Jz f ds ρ'
  |.brk ρ'=>.next ρ'
  |.ret r=>.ret r
  |.no=>.no
noncomputable def stOf:Option W->Option D
 |some (.v x)=>x.st
 |_=>af
noncomputable def Yr(f1 f2:En->Option D)(x t y:Nat):List D->En->List zo->zo->Option (List zo×zo)
 |[],_,ks,ns=>a8 (ks,ns)
 |d::ds,ρ,ks,ns=>match d with
  |.tup l=>match intsOf l,f1 (ρ.set t (.val d)) with
   |some k,a8 d1=>match f2 (((ρ.set t (.val d)).set y (.val d1)).set x (.val (.dct ks (ns.map D.int)))) with
    |some (.int n)=>if ks.contains k=a9/\ks.length<aw then Yr f1 f2 x t y ds ((ρ.set t (.val d)).set y (.val d1)) (ks++[k]) (ns++[n])else af
    |_=>af
   |_,_=>af
  |_=>af
noncomputable def Ym(f2:En->Option D)(x t:Nat):List D->En->List zo->zo->Option (List zo×zo)
 |[],_,ks,ns=>a8 (ks,ns)
 |d::ds,ρ,ks,ns=>match d with
  |.tup l=>match intsOf l,f2 ((ρ.set t (.val d)).set x (.val (.dct ks (ns.map D.int)))) with
   |some k,a8 (.int n)=>if ks.contains k=a9/\ks.length<aw then Ym f2 x t ds (ρ.set t (.val d)) (ks++[k]) (ns++[n])else af
   |_,_=>af
  |_=>af
noncomputable def Z1(ρ:En):List Nat->Option (List D)
 |[]=>a8 []
 |i::is=>match ρ[i]?,Z1 ρ is with
  |some (.val d),a8 ds=>a8 (d::ds)
  |_,_=>af
noncomputable def Om(i:Nat)(w:Option W)(ρ:En):So:=match w with
 |some (.v (.o l))=>.next (ρ.set i (.own l))
 |some (.v x)=>match x.st with
  |some d=>.next (ρ.set i (.val d))
  |none=>.no
 |_=>.no
noncomputable def retS(w:Option W):So:=match w with
 |some (.v (.o l))=>.ret (.fresh l)
 |some (.v x)=>.ret (.val x.d)
 |_=>.no
noncomputable def Nk(s:Option Sv):So:=match s with
 |some (.own l)=>.ret (.fresh l)
 |some (.val d)=>.ret (.val d)
 |_=>.no
noncomputable def j0s(i j:Nat)(s:Option Sv)(ρ:En):So:=match s with
 |some (.own l)=>if i=j then .no else .next ((ρ.set j .un).set i (.own l))
 |some (.val d)=>.next (ρ.set i (.val d))
 |_=>.no
noncomputable def j4t(w:Option W)(ρ:En):So:=match w with
 |some (.v _)=>.next ρ
 |_=>.no
noncomputable def j1f(i:Nat)(s:Option Sv)(w:Option W)(ρ:En):So:=match s,w with
 |some (.own l),a8 (.v x)=>match x.st with
  |some d=>if l.length<aw then .next (ρ.set i (.own (l++[d])))else .no
  |none=>.no
 |_,_=>.no
noncomputable def j14(i:Nat)(s:Option Sv)(w:Option W)(ρ:En):So:=match s,w with
 |some (.own l),a8 (.v (.o m))=>if jz (l.length+m.length)=ae then .next (ρ.set i (.own (l++m)))else .no
 |_,_=>.no
noncomputable def j0k(i:Nat)(s:Option Sv)(k w:Option W)(ρ:En):So:=match s,k,w with
 |some (.own l),a8 (.v y),a8 (.v x)=>match y.d,x.st with
  |.int j,a8 d=>match ixN l.length j with
   |some n=>.next (ρ.set i (.own (l.set n d)))
   |none=>.no
  |_,_=>.no
 |_,_,_=>.no
noncomputable def j05(i j:Nat)(d:Option D)(ρ:En):So:=match d with
 |some (.tup [d,d'])=>if i=j then .no else .next ((ρ.set i (.val d)).set j (.val d'))
 |_=>.no
noncomputable def Fd(i:Nat)(v:Option Sv)(ρ:En):So:=match v with
 |some (.own l)=>.next (ρ.set i (.val (.lst l)))
 |some (.val _)=>.next ρ
 |_=>.no
noncomputable def Ia(x:au)(v:Option (List D)):So:=match v with
 |some ds=>.ret (.val (.fn x ds))
 |none=>.no
noncomputable def j34(r:Rc):So:=match r with
 |.val d=>if noFn d=ae then .ret (.val d)else .no
 |_=>.no
noncomputable def Ib(Γ:au->List D->Rc)(f x:au)(v:Option (List D))(a b:Option W):So:=match v,a,b with
 |some ds,a8 (.v u),a8 (.v v)=>j34 (Γ f [u.d,v.d,.fn x ds])
 |_,_,_=>.no
noncomputable def Fx(i w:Nat)(s t:Option Sv)(x:Option W)(ρ:En):So:=match s,t,x with
 |some (.own l),a8 (.own m),a8 (.v y)=>match y.st with
  |some (.int z)=>match ixN m.length z with
   |some k=>match m[k]? with
    |some d=>if i≠w/\l.length<aw/\m.length<=1000000 then .next ((ρ.set w (.own (m.eraseIdx k))).set i (.own (l++[d])))else .no
    |none=>.no
   |none=>.no
  |_=>.no
 |_,_,_=>.no
noncomputable def run(fu:Nat)(Γ:au->List D->Rc)(G:au->Option D):Sx->En->So
 |.nop,ρ=>.next ρ
 |.seq a b,ρ=>match run fu Γ G a ρ with
  |.next ρ'=>run fu Γ G b ρ'
  |o=>o
 |.set i e,ρ=>Om i (ev Γ G e ρ) ρ
 |.mov i j,ρ=>j0s i j ρ[j]? ρ
 |.expr e,ρ=>j4t (ev Γ G e ρ) ρ
 |.ret e,ρ=>retS (ev Γ G e ρ)
 |.retV i,ρ=>Nk ρ[i]?
 |.ife c a b,ρ=>match truth (ev Γ G c ρ) with
  |some ae=>run fu Γ G a ρ
  |some a9=>run fu Γ G b ρ
  |none=>.no
 |.loop is it body,ρ=>match ev Γ G it (frz it ρ) with
  |some (.i ds)=>Jz (λd ρ=>match qz is d ρ with
   |some ρ2=>run fu Γ G body ρ2
   |none=>.no) ds (frz it ρ)
  |_=>.no
 |.app i e,ρ=>j1f i ρ[i]? (ev Γ G e ρ) ρ
 |.ext i e,ρ=>j14 i ρ[i]? (ev Γ G e ρ) ρ
 |.put i k e,ρ=>j0k i ρ[i]? (ev Γ G k ρ) (ev Γ G e ρ) ρ
 |.fgt i,ρ=>.next (ρ.set i .un)
 |.keep i,ρ=>Fd i ρ[i]? ρ
 |.unp i j e,ρ=>j05 i j (stOf (ev Γ G e ρ)) ρ
 |.retL x is,ρ=>Ia x (Z1 ρ is)
 |.retC f x a b is,ρ=>Ib Γ f x (Z1 ρ is) (ev Γ G a ρ) (ev Γ G b ρ)
 |.nmake x t y it e1 e2,ρ=>if x<ρ.length/\t<ρ.length/\y<ρ.length/\x≠t/\x≠y/\t≠y then match ev Γ G it (ρ.set x .un) with
   |some (.i ds)=>match Yr (λρ=>stOf (ev Γ G e1 ρ)) (λρ=>stOf (ev Γ G e2 ρ)) x t y ds (ρ.set x .un) [] [] with
    |some r=>.ret (.val (.dct r.1 (r.2.map D.int)))
    |none=>.no
   |_=>.no
  else .no
 |.wmake x t it e,ρ=>if x<ρ.length/\t<ρ.length/\x≠t then match ev Γ G it (ρ.set x .un) with
   |some (.i ds)=>match Ym (λρ=>stOf (ev Γ G e ρ)) x t ds (ρ.set x .un) [] [] with
    |some r=>.ret (.val (.dct r.1 (r.2.map D.int)))
    |none=>.no
   |_=>.no
  else .no
 |.apop i w e,ρ=>Fx i w ρ[i]? ρ[w]? (ev Γ G e ρ) ρ
 |.fail,_=>.no
section
variable{Γ:au->List D->Rc}{G:au->Option D}{ρ:En}{fu:Nat}
def j8i{a b}:run fu Γ G (.seq a b) ρ=(match run fu Γ G a ρ with
  |.next ρ'=>run fu Γ G b ρ'
  |o=>o):=(rfl)
def jfq{i e}:run fu Γ G (.set i e) ρ=(Om i (ev Γ G e ρ) ρ):=(rfl)
def jph{i j}:run fu Γ G (.mov i j) ρ=(j0s i j ρ[j]? ρ):=(rfl)
def jn4{e}:run fu Γ G (.expr e) ρ=(j4t (ev Γ G e ρ) ρ):=(rfl)
def jfr{e}:run fu Γ G (.ret e) ρ=(retS (ev Γ G e ρ)):=(rfl)
def jmz{i}:run fu Γ G (.retV i) ρ=(Nk ρ[i]?):=(rfl)
def jpi{c a b}:run fu Γ G (.ife c a b) ρ=(match truth (ev Γ G c ρ) with
  |some ae=>run fu Γ G a ρ
  |some a9=>run fu Γ G b ρ
  |none=>.no):=(rfl)
def jn2{is it body}:run fu Γ G (.loop is it body) ρ=(match ev Γ G it (frz it ρ) with
  |some (.i ds)=>Jz (λd ρ=>match qz is d ρ with
   |some ρ2=>run fu Γ G body ρ2
   |none=>.no) ds (frz it ρ)
  |_=>.no):=(rfl)
def jpl{i e}:run fu Γ G (.app i e) ρ=(j1f i ρ[i]? (ev Γ G e ρ) ρ):=(rfl)
def jpk{i e}:run fu Γ G (.ext i e) ρ=(j14 i ρ[i]? (ev Γ G e ρ) ρ):=(rfl)
def jpg{i k e}:run fu Γ G (.put i k e) ρ=(j0k i ρ[i]? (ev Γ G k ρ) (ev Γ G e ρ) ρ):=(rfl)
def jpj{i}:run fu Γ G (.fgt i) ρ=(.next (ρ.set i .un)):=(rfl)
def jn3{i}:run fu Γ G (.keep i) ρ=(Fd i ρ[i]? ρ):=(rfl)
def jpf{i j e}:run fu Γ G (.unp i j e) ρ=(j05 i j (stOf (ev Γ G e ρ)) ρ):=(rfl)
def jn0{x is}:run fu Γ G (.retL x is) ρ=(Ia x (Z1 ρ is)):=(rfl)
def jn1{f x a b is}:run fu Γ G (.retC f x a b is) ρ=(Ib Γ f x (Z1 ρ is) (ev Γ G a ρ) (ev Γ G b ρ)):=(rfl)
def j79{x t y it e1 e2}:run fu Γ G (.nmake x t y it e1 e2) ρ=(if x<ρ.length/\t<ρ.length/\y<ρ.length/\x≠t/\x≠y/\t≠y then match ev Γ G it (ρ.set x .un) with
   |some (.i ds)=>match Yr (λρ=>stOf (ev Γ G e1 ρ)) (λρ=>stOf (ev Γ G e2 ρ)) x t y ds (ρ.set x .un) [] [] with
    |some r=>.ret (.val (.dct r.1 (r.2.map D.int)))
    |none=>.no
   |_=>.no
  else .no):=(rfl)
def j78{x t it e}:run fu Γ G (.wmake x t it e) ρ=(if x<ρ.length/\t<ρ.length/\x≠t then match ev Γ G it (ρ.set x .un) with
   |some (.i ds)=>match Ym (λρ=>stOf (ev Γ G e ρ)) x t ds (ρ.set x .un) [] [] with
    |some r=>.ret (.val (.dct r.1 (r.2.map D.int)))
    |none=>.no
   |_=>.no
  else .no):=(rfl)
def jn5{i w e}:run fu Γ G (.apop i w e) ρ=(Fx i w ρ[i]? ρ[w]? (ev Γ G e ρ) ρ):=(rfl)
end
def j8j(X:Cx):List (au×ai)->List Nat->Prop
 |[],is=>is=[]
 |p::cl,is=>∃(i:Nat)(r:List Nat),is=i::r/\X.N[i]?=a8 p.1/\X.env.scope.names.lookup p.1=a8 .cell/\X.env.cells.lookup p.1=a8 p.2/\X.fn p.1=ae/\j8j X cl r
theorem j1a{X:Cx}{ρ:Rho}:∀{cl:List (au×ai)} {is:List Nat} {ds:List D},j8j X cl is->Z1 (j9 ρ) is=a8 ds->Vi X ρ cl ds
 |[],_,ds,h,e=>by cases h;cases e;rfl
 |p::cl,_,ds,⟨i,r,ei,h1,h2,h3,h4,l⟩,e=>by
  subst ei;unfold Z1 at e;split at e
  .rename_i d ds' e1 e2;cases e;exact⟨d,ds',i,rfl,h1,h2,h3,h4,W9 e1,j1a l e2⟩
  .cases e
inductive Ns where
 |s (st:aX)
 |ss (sts:List aX)
noncomputable def Rt.rc:Rt->Rc
 |.val d=>.val d
 |.fresh l=>.fresh l
def Dc(o:So)(P:Po):Prop:=match o with
 |.next ρ'=>∀ρ2,j9 ρ2=ρ'->P.nx ρ2
 |.ret r=>∀x:Rt,x.rc=r->P.rt x
 |.brk ρ'=>∀ρ2,j9 ρ2=ρ'->P.bk ρ2
 |.cnt ρ'=>∀ρ2,j9 ρ2=ρ'->P.ct ρ2
 |.no=>False
def jfs(fu:Nat)(Γ:au->List D->Rc)(G:au->Option D)(X:Cx)(t:Sx):Ns->Prop
 |.s st=>∀ρ P,Dc (run fu Γ G t (j9 ρ)) P->DS X ρ st P
 |.ss sts=>∀ρ P,Dc (run fu Γ G t (j9 ρ)) P->DSs X ρ sts P
section
variable{K:k9k}{ρ:Rho}{σ:St}{H:Hp}{i j:Nat}{a:ai}{l:List D}
def Rep.move(R:Rep K ρ σ H)(hj:ρ[j]?=a8 (.own a l))(hij:i≠j):Rep K ((ρ.set j .un).set i (.own a l)) (σ.set i (a8 (.ref a))) H:=by
 have s1:(owns (ρ.set j .un)).Sublist (owns ρ):=qe rfl;have na:a∉owns (ρ.set j .un):=λz=>by
  obtain⟨k,l',q⟩:=Yq z;rcases getElem?_set_of q with ⟨_,z,_⟩|⟨n,q⟩
  .cases z
  .exact n (Ux R.nd hj q)
 obtain⟨nd,sub⟩:=Q7 (ds:=l) (i:=i) (s1.nodup R.nd) na;have g:j0 (del H (owns ρ)) (del H (owns ((ρ.set j .un).set i (.own a l)))):=Jh λb hb=>by
  rcases sub b hb with e|z
  .exact e▸Ql hj
  .exact s1.subset z
 refine⟨by simp[R.len],λk d' h=>?_,λk b ds' h=>?_,nd,λk b o x h=>?_,R.tb⟩
 .rcases getElem?_set_of h with ⟨rfl,z,_⟩|⟨n,h⟩
  .cases z
  .rcases getElem?_set_of h with ⟨rfl,z,_⟩|⟨n2,h⟩
   .cases z
   .obtain⟨u,q,e⟩:=R.val k d' h;exact⟨u,by rw[zq n];exact q,e.mono g⟩
 .rcases getElem?_set_of h with ⟨rfl,z,hl⟩|⟨n,h⟩
  .cases z;obtain⟨_,xs,hx,en⟩:=R.own j a l hj;exact⟨Uv (by rw[R.len];simpa using hl),xs,hx,en.mono g⟩
  .rcases getElem?_set_of h with ⟨rfl,z,_⟩|⟨n2,h⟩
   .cases z
   .obtain⟨q,xs,hx,en⟩:=R.own k b ds' h;exact⟨by rw[zq n];exact q,xs,hx,en.mono g⟩
 .rcases getElem?_set_of h with ⟨rfl,z,_⟩|⟨n,h⟩
  .cases z
  .rcases getElem?_set_of h with ⟨rfl,z,_⟩|⟨n2,h⟩
   .cases z
   .obtain⟨q,h⟩:=R.raw k b o x h;exact⟨by rw[zq n];exact q,h.mono g⟩
end
section
variable{X:Cx}{ρ:Rho}{e a b c:av}{es:List av}{st:aX}{rest sa sb body:List aX}{P:Po}{d:D}{ds ds':List D}{pos p p1 p2 p3:aP}{x y:au}{i j:Nat}
theorem DS.freeze(i:Nat){l:ai}(h:ρ[i]?=a8 (.own l ds))(h2:DS X (ρ.set i (.val (.lst ds))) st P):DS X ρ st P:=λσ H E R q =>h2 σ H E (R.freeze h) (q.step (.drop λb hb=>(qe rfl).subset hb))
def DS.mov{l:ai}(hk:ρ[j]?=a8 (.own l ds))(hij:i≠j)(h:P.nx ((ρ.set j .un).set i (.own l ds)))(hN:X.N.Nodup)(hi:X.N[i]?=a8 x)(hj:X.N[j]?=a8 y)(hx:Loc X.env.scope x)
  (hf:X.fn x=ae\/X.env.scope.names.lookup x=a8 .local) (hv:Vis X.env.scope y) (hd:(y==k9o)=a9) (hcd:(y==k9p)=a9):DS X ρ (.Assign [.Name x p] (.Name y p1) pos) P:=λσ H E R q=>by
 obtain⟨hs,xs,m,en⟩:=R.own j l ds hk;refine(Ro hN hi hx (vz hj hv hd hcd) rfl hf).to ⟨_,hs,q.nx _ _ H h (R.move hk hij) (.drop λb hb=>?_)⟩;have s1:(owns (ρ.set j .un)).Sublist (owns ρ):=qe rfl;have na:l∉owns (ρ.set j .un):=λz=>by
  obtain⟨k,l',q⟩:=Yq z;rcases getElem?_set_of q with ⟨_,z,_⟩|⟨n,q⟩
  .cases z
  .exact n (Ux R.nd hk q)
 rcases(Q7 (ds:=ds) (i:=i) (s1.nodup R.nd) na).2 b hb with z|z
 .exact z▸Ql hk
 .exact s1.subset z
def DS.setCf{ρf:Rho}{tg elt iter:av}{spos:aP}(i:Nat)(cs:List Nat)(pr:D->Bool)(g:D->D)(hfr:∀K σ H,Rep K ρ σ H->Rep K ρf σ H)(hno:ρf=ρ\/qw ((ds.filter pr).map g)=ae)(hi:DI X ρf tg iter ds)
  (hb:∀C s H fp pn,∀d∈ds,∃ρ2,DG (cCx X scope C s H fp pn) ρf tg d ρ2/\Wk ρ2 ρf/\owns ρ2=owns ρf/\DTs (cCx X scope C s H fp pn) ρ2 ifs (pr d)/\(pr d=ae->DE (cCx X scope C s H fp pn) ρ2 elt (g d)))
  (h:∀l,P.nx (ρ.set i (.own l ((ds.filter pr).map g)))) (hN:X.N.Nodup) (hcs:∀j∈cs,ρf[j]?=a8 .un) (hsz:ds.length<=aw) (hX:X.N[i]?=a8 x) (hx:Loc X.env.scope x)
  (hf:X.fn x=ae\/X.env.scope.names.lookup x=a8 .local)
  (hsw:aT (.ListComp elt [⟨tg,iter,ifs,0⟩] scope pos) (a8 (.Name x p1)) spos.line X.env=pure ae)
  (hc:X.calm=ae) (hkind:scope.kind=.function) (hok:Jp scope X.env X.N cs=ae)
  (hs:∀x,aH iter X.env x=pure x):DS X ρ (.Assign [.Name x p1] (.ListComp elt [⟨tg,iter,ifs,0⟩] scope pos) spos) P:=λσ H E R q pins s I=>by
 have Rf:=hfr _ _ _ R;rw[exec_Assign_Name_used _ _ _ _ hsw];refine aa (gu (aa ?_));show ay _ X.A (do let _ <-comprehension (.ListComp elt [⟨tg,iter,ifs,0⟩] scope pos) scope X.env _ (lO []) a9 (aC iter X.env) (a8 (dk (.Name x p1) X.env))) _ _ s;refine aa (bC (jH (use:=a8 (dk (.Name x p1) X.env)) (Q:=λ_ s'=>SP X pins E .next s') rfl hs (Ep (Dv hok)) hkind (Bv hok)
  (thn (hi σ H (λJ H'=>j0 H H'/\Ub X.K (del H' (owns ρf)) J ds) Rf (λJ H' g1 ok=>⟨g1,ok⟩) pins s I) λv s1 h1=>thn h1 λitv s2 h2=>?_)) (λ_ s' hq=>ar (ar hq)) λ_ _ e=>e)
 obtain⟨it,fp,tn,J,H2,e,I2,T,st2,f2,g2,ok⟩:=h2;subst e;refine j2b (RR:=λacc C=>compPost (aB X.prog X.w) X.A X.xe (a8 (dk (.Name x p1) X.env)) (λ_ s'=>SP X pins E .next s') acc C) I2 (Rf.grow g2) T st2 f2 ok hc hkind hok hcs hsz hb ?_;intro D C xs H' s' m I' gg n m' en hm L;show ay _ X.A (dk (.Name x p1) X.env (.ref D)) _ _ _;refine lL (j1o I' hN hX hx (v:=.ref D) rfl (λs'' I'' ⟨a,sb,ha⟩=>?_) hf);have hCa:C≠a:=by
  rcases ha with e|e
  .rw[e];exact L.loc
  .exact bu (L.cell x a e)
 have en':j4 X.K (del H' (D::owns ρ)) ((ds.filter pr).map g) xs:=by
  rcases hno with e|e
  .rw[e]at en;exact en
  .exact(en.mono jw).hide (λc hc=>by
    rcases Xb.mp hc with z|z
    .rw[z];exact .inl ⟨xs,m'⟩
    .exact .inl ((R.grow (g2.trans gg)).owned c z)) e
 refine⟨m,hm.sameBut sb hCa,λh' sb'=>⟨σ.set i (a8 (.ref D)),H',I''.loose L sb',?_⟩⟩;exact q.nx _ _ H' (h D) (R.set_own (g2.trans gg) (g2.free n) m' en') (Fr0.new R (g2.trans gg) (g2.free n))
end
section
variable{fu:Nat}{Γ:au->List D->Rc}{G:au->Option D}{X:Cx}{P:Po}
def bind1{i:Nat}{y:au}(nd:X.N.Nodup)(hi:X.N[i]?=a8 y)(hx:Loc X.env.scope y)(hf:X.fn y=ae\/X.env.scope.names.lookup y=a8 .local) :
  ∀ρ d ρ2,qz [i] d (j9 ρ)=a8 ρ2->∃ρ',j9 ρ'=ρ2/\DG X ρ (.Name y p) d ρ':=λρ d ρ2 h=>by
 simp only[qz]at h;cases h;exact⟨_,jh,DG.name _ nd hi hx hf⟩
def jp3{i j:Nat}{x y:au}{n:Nat}{p q pt:aP}(hc:X.calm=ae)(hij:i≠j)(nd:X.N.Nodup)(hi:X.N[i]?=a8 x)(hj:X.N[j]?=a8 y)(hx:Loc X.env.scope x)(hy:Loc X.env.scope y)
  (hf:X.fn x=ae\/X.env.scope.names.lookup x=a8 .local) (hg:X.fn y=ae\/X.env.scope.names.lookup y=a8 .local) :
  ∀ρ d ρ2,qz [i,j] d (j9 ρ)=a8 ρ2->∃ρ',j9 ρ'=ρ2/\DG X ρ (.Tuple [.Name x p,.Name y q] n pt) d ρ':=λρ d ρ2 h=>by
 simp only[qz]at h;split at h
 .rename_i a b;cases h;exact⟨(ρ.set i (.val a)).set j (.val b),by rw[jh,jh];rfl,DG.pair _ _ hij nd hi hj hx hy hf hg hc⟩
 .cases h
def Ip{b:Sx}{it tg:av}{body:List aX}{pos:aP}(hq:X.calm=ae)(c:Cok X G)(hs:∀x,aH it X.env x=pure x)
  (hb:∀ρ d ρ2,qz is d (j9 ρ)=a8 ρ2->∃ρ',j9 ρ'=ρ2/\DG X ρ tg d ρ') (hi:∀ρ ds,ev Γ G it' (j9 ρ)=a8 (.i ds)->DI X ρ tg it ds)
  (ih:∀ρ P,Dc (run fu Γ G b (j9 ρ)) P->DSs X ρ body P) (h:Dc (run fu Γ G (.loop is it' b) (j9 ρ)) P):DS X ρ (.For tg it body [] pos) P:=by
 have main:∀ρf:Rho,j9 ρf=frz it' (j9 ρ)->DS X ρf (.For tg it body [] pos) P:=λρf ef=>by
  rw[jn2]at h;rw[<-ef]at h;split at h
  .rename_i ds hds;generalize hf:(λd ρ=>_:D->En->So)=f at h;refine DS.for (ds:=ds) (λi ρ'=>Dc (Jz f (ds.drop i) (j9 ρ')) P) (hi ρf ds hds) (by rw[dD];exact h) (λi d ρ' hd w=>?_) (λρ' w=>?_) hq c.po hs
   .have hdr:ds.drop i=d::ds.drop (i+1):=by obtain⟨hlt,e⟩:=Xe.mp hd;rw[su hlt,e]
    rw[hdr,Jz]at w;have ef2:f d (j9 ρ')=match qz is d (j9 ρ')with|some ρ2=>run fu Γ G b ρ2|none=>.no:=by rw[<-hf]<;>rfl
    rw[ef2]at w;cases hb2:qz is d (j9 ρ') with
    |none=>rw[hb2]at w;exact w.elim
    |some ρ2 =>
     rw[hb2]at w;obtain⟨ρ3,e3,dg⟩:=hb ρ' d ρ2 hb2;refine⟨ρ3,dg,ih ρ3 _ ?_⟩;rw[e3];dsimp only at w;cases ho:run fu Γ G b ρ2 with
     |next ρ4=>rw[ho]at w;exact λρ5 e=>by rw[<-e]at w;exact w
     |cnt ρ4=>rw[ho]at w;exact λρ5 e=>by rw[<-e]at w;exact w
     |brk ρ4=>rw[ho]at w;exact w
     |ret r=>rw[ho]at w;exact w
     |no=>rw[ho]at w;exact w
   .rw[gB,Jz]at w;exact w ρ' rfl
  .exact h.elim
 by_cases z:Jm it' (j9 ρ)=ae
 .unfold Jm at z;split at z
  .rename_i i ei;split at z
   .rename_i l e;obtain⟨a,q⟩:=Jc e;refine DS.freeze i q (main _ ?_);rw[jh];simp only[frz,ei,e,Sl.abs]
   .cases z
  .cases z
 .have z':Jm it' (j9 ρ)=a9:=by simpa using z
  refine main ρ ?_;unfold frz;split
  .rename_i i ei;split
   .rename_i l e;simp only[Jm,ei,e]at z';cases z'
   .rfl
  .rfl
def j7l{elt it tg:av}{p1 pos:aP}{k:Nat}{z:au}(hq:X.calm=ae)(hX:Cok X G)
  (hk:X.N[k]?=a8 z) (hx:Loc X.env.scope z) (hf:X.fn z=ae\/X.env.scope.names.lookup z=a8 .local)
  (hsw:aT (.ListComp elt [⟨tg,it,ifs,0⟩] scope p) (a8 (.Name z p1)) pos.line X.env=pure ae)
  (hit:∀ρ ds,ev Γ G it' (j9 ρ)=a8 (.i ds)->DI X ρ tg it ds) (hkind:scope.kind=.function) (hok:Jp scope X.env X.N is=ae) (hs:∀x,aH it X.env x=pure x)
  (hb:∀ρ d ρ2,qz is d (j9 ρ)=a8 ρ2->(∀j∈is,ρ[j]?=a8 .un)->∃ρ',j9 ρ'=ρ2/\Wk ρ' ρ/\owns ρ'=owns ρ/\∀C s H fp pn,DG (cCx X scope C s H fp pn) ρ tg d ρ')
  (he:∀C s H fp pn ρ r,ev Γ G elt' (j9 ρ)=a8 (.v r)->Has (cCx X scope C s H fp pn) ρ elt r)
  (hc:∀C s H fp pn ρ,(ev Γ G c' (j9 ρ)=a8 (.a [])->DTs (cCx X scope C s H fp pn) ρ ifs ae)/\∀y k,ev Γ G c' (j9 ρ)=a8 (.a [y])->y.d=.bl k->DTs (cCx X scope C s H fp pn) ρ ifs k)
  (h:Dc (run fu Γ G (.set k (.comp is elt' it' c')) (j9 ρ)) P):DS X ρ (.Assign [.Name z p1] (.ListComp elt [⟨tg,it,ifs,0⟩] scope p) pos) P:=by
 rw[jfq]at h;unfold Om at h;cases e:ev Γ G (.comp is elt' it' c') (j9 ρ) with
 |none=>rw[e]at h;exact h.elim
 |some w =>
  rw[e]at h;cases w with
  |a _=>exact h.elim
  |i _=>exact h.elim
  |v r =>
   obtain⟨l,ρf,ds,pr,g,er,el,hfz,hi,hun,hz,hb'⟩:=Du hit hb he hc e;subst er;refine DS.setCf (ρf:=ρf) k is pr g ?_ ?_ hi hb' (λa=>?_) hX.nd hun hz hk hx hf hsw hq hkind hok hs
   .rcases hfz with e|⟨_,i,a,l',q,e⟩
    .subst e;exact λ_ _ _ R=>R
    .subst e;exact λ_ _ _ R=>R.freeze q
   .rcases hfz with e|⟨n,_⟩
    .exact .inl e
    .exact .inr (el▸n)
   .rw[<-el];exact h _ jh
def Ni{w:Option W}{d:D}(h:stOf w=a8 d):∃z,w=a8 (.v z)/\z.st=a8 d:=by
 unfold stOf at h;split at h
 .exact⟨_,rfl,h⟩
 .cases h
end
structure Ts(X:Cx)(t:Sx)(nd:Ns):Prop where
 m:∀(fu:Nat)(Γ:au->List D->Rc)(G:au->Option D),Cok X G->Gok X Γ->jfs fu Γ G X t nd
theorem Ts.nil:∀{X:Cx},Ts X .nop (.ss []):=by intro _;refine⟨λfu Γ G=>?_⟩;intro c g ρ P h;exact DSs.nil (h ρ rfl)
theorem Ts.cons:∀{X:Cx}{a b:Sx}{st:aX}{rest:List aX},Ts X a (.s st)->Ts X b (.ss rest)->Ts X (.seq a b) (.ss (st::rest)):=by
 intro _ _ _ _ _ q0 q1;refine⟨λfu Γ G=>?_⟩;have iha:=q0.m fu Γ G;have ihb:=q1.m fu Γ G;intro c g ρ P h;rw[j8i]at h;split at h
 .rename_i ρ' e;exact DSs.cons (N:=λρ1=>j9 ρ1=ρ') (iha c g ρ _ (by rw[e];exact λρ2 z=>z)) λρ1 z=>ihb c g ρ1 P (by rw[z];exact h)
 .rename_i o hn;refine DSs.cons (N:=λ_=>False) (iha c g ρ _ ?_) λ_ z=>z.elim;cases e:run fu Γ G _ (j9 ρ) with
  |next ρ'=>exact absurd e (hn ρ')
  |ret r=>rw[e]at h;exact h
  |brk r=>rw[e]at h;exact h
  |cnt r=>rw[e]at h;exact h
  |no=>rw[e]at h;exact h
theorem Ts.fgt:∀{X:Cx}{i:Nat}{b:Sx}{sts:List aX},Ts X b (.ss sts)->Ts X (.seq (.fgt i) b) (.ss sts):=by intro _ _ _ _ q0;refine⟨λfu Γ G=>?_⟩;have ih:=q0.m fu Γ G;intro c g ρ P h;simp only[j8i,jpj]at h;exact DSs.forget _ (ih c g _ P (by rw[jh];exact h))
theorem Ts.keep:∀{X:Cx}{i:Nat}{b:Sx}{sts:List aX},Ts X b (.ss sts)->Ts X (.seq (.keep i) b) (.ss sts):=by
 intro _ i _ _ q0;refine⟨λfu Γ G=>?_⟩;have ih:=q0.m fu Γ G;intro c g ρ P h;simp only[j8i,jn3,Fd]at h;cases e:(j9 ρ)[i]? with
 |none=>rw[e]at h;exact h.elim
 |some v =>
  rw[e]at h;cases v with
  |own l =>obtain⟨a,q⟩:=Jc e;exact DSs.freeze _ q (ih c g _ P (by rw[jh];exact h))
  |un=>exact h.elim
  |val d=>exact ih c g ρ P h
  |exc x=>exact h.elim
theorem Ts.fail:∀{X:Cx}{st:aX},Ts X .fail (.s st):=by intro _ _;refine⟨λfu Γ G=>?_⟩;intro c g ρ P h;exact h.elim
theorem Ts.set:∀{X:Cx}{i:Nat}{x:au}{e':Ex}{e:av}{p pos:aP}(hi:X.N[i]?=a8 x) (hx:Loc X.env.scope x) (hs:aT e (a8 (.Name x p)) pos.line X.env=pure a9) (hf:X.fn x=ae\/X.env.scope.names.lookup x=a8 .local),Tr X e' (.e e)->Ts X (.set i e') (.s (.Assign [.Name x p] e pos)):=by
 intro _ _ _ _ _ _ _ hi hx hs hf he;refine⟨λfu Γ G=>?_⟩;intro c g ρ P h;have S:=sound he c g;rw[jfq]at h;unfold Om at h;split at h
 .rename_i l e;exact DS.setO _ (S ρ _ e) (λa=>h _ jh) c.nd hi hx hs hf
 .rename_i r hn e;split at h
  .rename_i d hd;exact DS.set _ ((S ρ _ e).toE hd) (h _ jh) c.nd hi hx hs hf
  .exact h.elim
 .exact h.elim
def Ts.setC1:∀{X:Cx}{k i:Nat}{z y:au}{py p p1 pos:aP}{elt' it' c':Ex}{elt it:av}{ifs:List av} {scope:be} (hq:X.calm=ae) (hk:X.N[k]?=a8 z) (hx:Loc X.env.scope z) (hf:X.fn z=ae\/X.env.scope.names.lookup z=a8 .local) (hsw:aT (.ListComp elt [⟨.Name y py,it,ifs,0⟩] scope p) (a8 (.Name z p1)) pos.line X.env=pure ae) (hi:X.N[i]?=a8 y) (hl:Wb scope y=ae) (hkind:scope.kind=.function) (hok:Jp scope X.env X.N [i]=ae) (hs:∀x,aH it X.env x=pure x),Tr X it' (.i (.Name y py) it)->(∀C s H fp pn,Tr (cCx X scope C s H fp pn) elt' (.e elt))->(∀C s H fp pn,Tr (cCx X scope C s H fp pn) c' (.c ifs))->Ts X (.set k (.comp [i] elt' it' c')) (.s (.Assign [.Name z p1] (.ListComp elt [⟨.Name y py,it,ifs,0⟩] scope p) pos)):=by
 intro _ _ _ _ _ _ _ _ _ _ _ _ _ _ _ _ hq hk hx hf hsw hi hl hkind hok hs hit he hc;refine⟨λfu Γ G=>?_⟩;intro c g ρ P h;exact j7l hq c hk hx hf hsw (λρ ds z=>sound hit c g ρ ds z) hkind hok hs (λρ d ρ2 hb hun=>by
  simp only[qz]at hb
  cases hb
  have hu:=hun _ (xu.mpr rfl)
  exact⟨_,jh,Wk.set hu,Yp hu,λC s H fp pn=>DG.name _ c.nd hi (Nh hl) (Ko hl)⟩)
  (λC s H fp pn ρ r z=>sound (he C s H fp pn) c.comp g.comp ρ r z) (λC s H fp pn ρ=>sound (hc C s H fp pn) c.comp g.comp ρ) h
theorem Ts.mov:∀{X:Cx}{i j:Nat}{x y:au}{p q pos:aP}(hi:X.N[i]?=a8 x) (hj:X.N[j]?=a8 y) (hx:Loc X.env.scope x) (hf:X.fn x=ae\/X.env.scope.names.lookup x=a8 .local) (hv:Vis X.env.scope y) (hd:(y==k9o)=a9) (hcd:(y==k9p)=a9),Ts X (.mov i j) (.s (.Assign [.Name x p] (.Name y q) pos)):=by
 intro _ _ _ _ _ _ _ _ hi hj hx hf hv hd hcd;refine⟨λfu Γ G=>?_⟩;intro c g ρ P h;rw[jph]at h;unfold j0s at h;split at h
 .rename_i l e;obtain⟨a,q⟩:=Jc e;split at h
  .exact h.elim
  .rename_i hij;exact DS.mov q hij (h _ (by rw[jh,jh];rfl)) c.nd hi hj hx hf hv hd hcd
 .rename_i d e;exact DS.set _ (DE.var _ (W9 e) hj hv hd hcd) (h _ jh) c.nd hi hx rfl hf
 .exact h.elim
theorem Ts.expr:∀{X:Cx}{e':Ex}{e:av}{pos:aP}(hs:aT e af pos.line X.env=pure a9),Tr X e' (.e e)->Ts X (.expr e') (.s (.Expr e pos)):=by
 intro _ _ _ _ hs he;refine⟨λfu Γ G=>?_⟩;intro c g ρ P h;rw[jn4]at h;unfold j4t at h;split at h
 .rename_i r e;exact DS.expr (sound he c g ρ r e).toT (h ρ rfl) hs
 .exact h.elim
theorem Ts.ret:∀{X:Cx}{e':Ex}{e:av}{pos:aP},Tr X e' (.e e)->Ts X (.ret e') (.s (.Return (a8 e) pos)):=by
 intro _ _ _ _ he;refine⟨λfu Γ G=>?_⟩;intro c g ρ P h;rw[jfr]at h;unfold retS at h;split at h
 .rename_i l e;exact DS.retO (sound he c g ρ _ e) (h _ rfl)
 .rename_i r hn e;exact DS.ret (sound he c g ρ _ e).toT (h _ rfl)
 .exact h.elim
theorem Ts.retV:∀{X:Cx}{i:Nat}{x:au}{p pos:aP}(hi:X.N[i]?=a8 x) (hv:Vis X.env.scope x) (hd:(x==k9o)=a9) (hcd:(x==k9p)=a9),Ts X (.retV i) (.s (.Return (a8 (.Name x p)) pos)):=by
 intro _ _ _ _ _ hi hv hd hcd;refine⟨λfu Γ G=>?_⟩;intro c g ρ P h;rw[jmz]at h;unfold Nk at h;split at h
 .rename_i l e;obtain⟨a,q⟩:=Jc e;exact DS.retV _ q (h _ rfl) hi hv hd hcd
 .rename_i d e;exact DS.ret (DE.toT (DE.var _ (W9 e) hi hv hd hcd)) (h _ rfl)
 .exact h.elim
theorem Ts.ife:∀{X:Cx}{c':Ex}{a b:Sx}{c:av}{sa sb:List aX}{pos:aP},Tr X c' (.b c)->Ts X a (.ss sa)->Ts X b (.ss sb)->Ts X (.ife c' a b) (.s (.If c sa sb pos)):=by
 intro _ _ _ _ _ _ _ _ hc q1 q2;refine⟨λfu Γ G=>?_⟩;have iha:=q1.m fu Γ G;have ihb:=q2.m fu Γ G;intro c g ρ P h;rw[jpi]at h;split at h
 .rename_i e;exact DS.if (sound hc c g ρ ae e) (λ_=>iha c g ρ P h) λz=>by cases z
 .rename_i e;exact DS.if (sound hc c g ρ a9 e) (λz=>by cases z) λ_=>ihb c g ρ P h
 .exact h.elim
def Ts.for1:∀{X:Cx}{i:Nat}{y:au}{it':Ex}{b:Sx}{it:av}{body:List aX} {p pos:aP} (hq:X.calm=ae) (hi:X.N[i]?=a8 y) (hx:Loc X.env.scope y) (hf:X.fn y=ae\/X.env.scope.names.lookup y=a8 .local) (hs:∀x,aH it X.env x=pure x),Tr X it' (.i (.Name y p) it)->Ts X b (.ss body)->Ts X (.loop [i] it' b) (.s (.For (.Name y p) it body [] pos)):=by intro _ _ _ _ _ _ _ _ _ hq hi hx hf hs hit q1;refine⟨λfu Γ G=>?_⟩;have ih:=q1.m fu Γ G;intro c g ρ P h;exact Ip hq c hs (bind1 c.nd hi hx hf) (λρ ds z=>sound hit c g ρ ds z) (ih c g) h
def Ts.for2:∀{X:Cx}{i j:Nat}{x y:au}{it':Ex}{b:Sx}{it:av}{body:List aX} {n:Nat} {p q pt pos:aP} (hq:X.calm=ae) (hij:i≠j) (hi:X.N[i]?=a8 x) (hj:X.N[j]?=a8 y) (hx:Loc X.env.scope x) (hy:Loc X.env.scope y) (hf:X.fn x=ae\/X.env.scope.names.lookup x=a8 .local) (hg:X.fn y=ae\/X.env.scope.names.lookup y=a8 .local) (hs:∀x,aH it X.env x=pure x),Tr X it' (.i (.Tuple [.Name x p,.Name y q] n pt) it)->Ts X b (.ss body)->Ts X (.loop [i,j] it' b) (.s (.For (.Tuple [.Name x p,.Name y q] n pt) it body [] pos)):=by intro _ _ _ _ _ _ _ _ _ _ _ _ _ _ hq hij hi hj hx hy hf hg hs hit q1;refine⟨λfu Γ G=>?_⟩;have ih:=q1.m fu Γ G;intro c g ρ P h;exact Ip hq c hs (jp3 hq hij c.nd hi hj hx hy hf hg) (λρ ds z=>sound hit c g ρ ds z) (ih c g) h
theorem Ts.app:∀{X:Cx}{i:Nat}{x:au}{e':Ex}{e:av}{p p1 p2 pos:aP}(hN:X.N[i]?=a8 x) (hv:Vis X.env.scope x) (hd:(x==k9o)=a9) (hcd:(x==k9p)=a9) (hst:aj [e] X.env=[(a9,aC e X.env)]) (hline:(p1.endLine==p2.line)=ae) (hbase:aL (.Name x p) "append" X.env (aC (.Name x p) X.env)=aC (.Name x p) X.env) (hfew:((aR p2 (aj [e] X.env)).all (λx=>!x.1)&&(br p2 (aV [] X.env)).all (λx=>x.1.isSome)&&decide (([e]:List av).length+([]:List aS).length+(if ([]:List aS).isEmpty then 0 else 1)<30))=ae),Tr X e' (.e e)->Ts X (.app i e') (.s (.Expr (.Call (.Attribute (.Name x p) "append" p1) [e] [] p2) pos)):=by
 intro _ _ _ _ _ _ _ _ _ hN hv hd hcd hst hline hbase hfew he;refine⟨λfu Γ G=>?_⟩;intro c g ρ P h;rw[jpl]at h;unfold j1f at h;split at h
 .rename_i l x el ex;obtain⟨a,q⟩:=Jc el;split at h
  .rename_i d hd';split at h
   .rename_i hz;exact DS.append _ q ((sound he c g ρ x ex).toE hd') hz (h _ jh) hN hv hd hcd hst hline hbase hfew rfl
   .exact h.elim
  .exact h.elim
 .exact h.elim
theorem Ts.ext:∀{X:Cx}{i:Nat}{x:au}{e':Ex}{e:av}{p p1 p2 pos:aP}(hN:X.N[i]?=a8 x) (hv:Vis X.env.scope x) (hd:(x==k9o)=a9) (hcd:(x==k9p)=a9) (hst:aj [e] X.env=[(a9,aC e X.env)]) (hline:(p1.endLine==p2.line)=ae) (hbase:aL (.Name x p) "extend" X.env (aC (.Name x p) X.env)=aC (.Name x p) X.env) (hfew:((aR p2 (aj [e] X.env)).all (λx=>!x.1)&&(br p2 (aV [] X.env)).all (λx=>x.1.isSome)&&decide (([e]:List av).length+([]:List aS).length+(if ([]:List aS).isEmpty then 0 else 1)<30))=ae),Tr X e' (.e e)->Ts X (.ext i e') (.s (.Expr (.Call (.Attribute (.Name x p) "extend" p1) [e] [] p2) pos)):=by
 intro _ _ _ _ _ _ _ _ _ hN hv hd hcd hst hline hbase hfew he;refine⟨λfu Γ G=>?_⟩;intro c g ρ P h;rw[jpk]at h;unfold j14 at h;split at h
 .rename_i l m el ex;obtain⟨a,q⟩:=Jc el;split at h
  .rename_i hz;exact DS.extend _ q (sound he c g ρ _ ex) (zf hz) (h _ jh) hN hv hd hcd hst hline hbase hfew rfl
  .exact h.elim
 .exact h.elim
theorem Ts.put:∀{X:Cx}{i:Nat}{x:au}{k' e':Ex}{k e:av}{p p1 pos:aP}(hN:X.N[i]?=a8 x) (hv:Vis X.env.scope x) (hd:(x==k9o)=a9) (hcd:(x==k9p)=a9) (ha:∀v,dk (.Subscript (.Name x p) k p1) X.env v=(do
    let ov <-cN [v] (aC (.Name x p) X.env)
    let iv <-cN [v,ov] (aC k X.env)
    hU p1
    cN [v,ov,iv] (setItem ov iv v)
    release [v,ov,iv] [])) (hs:eL [.Subscript (.Name x p) k p1] e pos.line X.env=pure a9) (hw:eM [.Subscript (.Name x p) k p1] e X.env=pure af),Tr X k' (.e k)->Tr X e' (.e e)->Ts X (.put i k' e') (.s (.Assign [.Subscript (.Name x p) k p1] e pos)):=by
 intro _ _ _ _ _ _ _ _ _ _ hN hv hd hcd ha hs hw hk he;refine⟨λfu Γ G=>?_⟩;intro c g ρ P h;rw[jpg]at h;unfold j0k at h;split at h
 .rename_i l y x el ey ex;obtain⟨a,q⟩:=Jc el;split at h
  .rename_i j d ej ed;split at h
   .rename_i n en;exact DS.setItem _ q ((sound he c g ρ x ex).toE ed) (ej▸(sound hk c g ρ y ey).toT) en (h _ jh) hN hv hd hcd ha hs hw rfl
   .exact h.elim
  .exact h.elim
 .exact h.elim
theorem Ts.unp:∀{X:Cx}{i j:Nat}{x y:au}{e':Ex}{e:av}{px py pt pos:aP}{n:Nat} (hq:X.calm=ae) (hi:X.N[i]?=a8 x) (hj:X.N[j]?=a8 y) (hx:Loc X.env.scope x) (hy:Loc X.env.scope y) (fx:X.fn x=ae\/X.env.scope.names.lookup x=a8 .local) (fy:X.fn y=ae\/X.env.scope.names.lookup y=a8 .local) (hs:eL [.Tuple [.Name x px,.Name y py] n pt] e pos.line X.env=pure a9) (hw:eM [.Tuple [.Name x px,.Name y py] n pt] e X.env=pure af),Tr X e' (.e e)->Ts X (.unp i j e') (.s (.Assign [.Tuple [.Name x px,.Name y py] n pt] e pos)):=by
 intro _ _ _ _ _ _ _ _ _ _ _ _ hq hi hj hx hy fx fy hs hw he;refine⟨λfu Γ G=>?_⟩;intro c g ρ P h;rw[jpf]at h;unfold j05 at h;split at h
 .rename_i d d' ed;split at h
  .exact h.elim
  .rename_i hij;obtain⟨z,ez,ed⟩:=Ni ed;exact DS.unp hij ((sound he c g ρ z ez).toE ed) (h _ (by rw[jh,jh];rfl)) hq c.nd hi hj hx hy fx fy hs hw
 .exact h.elim
theorem Ts.retL:∀{X:Cx}{x:au}{is:List Nat}{params:dS}{body:av}{scope:be}{cl:List (au×ai)} {p1 pos:aP} (hx:x∈Vn) (hqu:X.env.qual=x ++ ".<locals>.") (hdef:gJ params X.env=([],[])) (hcl:dZ scope X.env=pure cl) (ht:Qn X.K x=a8 (params,body,scope)) (hn:cl.map (·.1)=v6 scope) (nd:(v6 scope).Nodup) (hc:j8j X cl is),Ts X (.retL x is) (.s (.Return (a8 (.Lambda params body scope p1)) pos)):=by
 intro _ _ _ _ _ _ _ _ _ hx hqu hdef hcl ht hn nd hc;refine⟨λfu Γ G=>?_⟩;intro c g ρ P h;rw[jn0]at h;unfold Ia at h;split at h
 .rename_i ds e;exact DS.retLam ⟨hx,hqu,c.lm _ hx hqu⟩ hdef hcl ht hn nd (j1a hc e) (h (.val _) rfl)
 .exact h.elim
theorem Ts.retC:∀{X:Cx}{f x:au}{is:List Nat}{a' b':Ex}{a b:av}{params:dS}{body:av} {scope:be} {cl:List (au×ai)} {p1 p2 p3 pos:aP} (hx:x∈Vn) (hqu:X.env.qual=x ++ ".<locals>.") (hdef:gJ params X.env=([],[])) (hcl:dZ scope X.env=pure cl) (ht:Qn X.K x=a8 (params,body,scope)) (hn:cl.map (·.1)=v6 scope) (nd:(v6 scope).Nodup) (hc:j8j X cl is) (hg:Gl X f) (hdb:(f==k9o)=a9) (hs1:aj [a,b,.Lambda params body scope p1] X.env=(a9,aC a X.env)::aj [b,.Lambda params body scope p1] X.env) (hs2:aj [b,.Lambda params body scope p1] X.env=(a9,aC b X.env)::aj [.Lambda params body scope p1] X.env) (hs3:aj [.Lambda params body scope p1] X.env=(a9,aC (.Lambda params body scope p1) X.env)::aj [] X.env) (hpl:(aR p3 (aj [b,.Lambda params body scope p1] X.env)).any (·.1)=a9),Tr X a' (.e a)->Tr X b' (.e b)->Ts X (.retC f x a' b' is) (.s (.Return (a8 (.Call (.Name f p2) [a,b,.Lambda params body scope p1] [] p3)) pos)):=by
 intro _ f x is a' b' a b params body scope cl p1 p2 p3 pos hx hqu hdef hcl ht hn nd hc hg hdb hs1 hs2 hs3 hpl ha hb;refine⟨λfu Γ G=>?_⟩;intro c g ρ P h;rw[jn1]at h;unfold Ib at h;split at h
 .rename_i ds u v e1 e2 e3;have q:=g f [u.d,v.d,.fn x ds];cases z:Γ f [u.d,v.d,.fn x ds] with
  |val d =>
   rw[z]at h q;dsimp only[j34]at h;split at h
   .rename_i nf;exact DS.ret (DT.callL q ⟨hx,hqu,c.lm _ hx hqu⟩ hdef hcl ht hn nd (j1a hc e1) (sound ha c g ρ u e2).toT (sound hb c g ρ v e3).toT nf ⟨rfl,rfl⟩ hg hdb hs1 hs2 hs3 hpl) (h (.val _) rfl)
   .exact h.elim
  |fresh l=>rw[z]at h;exact h.elim
  |lval d=>rw[z]at h;exact h.elim
  |no=>rw[z]at h;exact h.elim
 .exact h.elim
theorem Ts.nmake:∀{X:Cx}{x t y:Nat}{nx nt ny:au}{it' e1' e2':Ex}{it e1 e2:av}{p1 p2 p3 p4 p5 p6 p10 p11 p12 p14 p16 p17 p18:aP}(hq:X.calm=ae) (hX:X.N[x]?=a8 nx) (hT:X.N[t]?=a8 nt) (hY:X.N[y]?=a8 ny) (lx:Loc X.env.scope nx) (lt:Loc X.env.scope nt) (ly:Loc X.env.scope ny) (fx:X.fn nx=ae\/X.env.scope.names.lookup nx=a8 .local) (ft:X.fn nt=ae\/X.env.scope.names.lookup nt=a8 .local) (fy:X.fn ny=ae\/X.env.scope.names.lookup ny=a8 .local) (dx:(nx==k9o)=a9) (cx:(nx==k9p)=a9) (dt:(nt==k9o)=a9) (ct:(nt==k9p)=a9) (s1:aT (.Dict [] [] p2) (a8 (.Name nx p1)) p3.line X.env=pure a9) (s2:aT e1 (a8 (.Name ny p5)) p6.line X.env=pure a9) (s3:aT e2 (a8 (.Subscript (.Name nx p10) (.Name nt p11) p12)) p14.line X.env=pure a9) (hf:∀x,aH it X.env x=pure x),Tr X it' (.i (.Name nt p4) it)->Tr X e1' (.e e1)->Tr X e2' (.e e2)->Ts X (.nmake x t y it' e1' e2') (.ss (jf5 nx nt ny it e1 e2 p1 p2 p3 p4 p5 p6 p10 p11 p12 p14 p16 p17 p18)):=by
 intro _ x t y nx nt ny it' e1' e2' it e1 e2 p1 p2 p3 p4 p5 p6 p10 p11 p12 p14 p16 p17 p18 hq hX hT hY lx lt ly fx ft fy dx cx dt ct s1 s2 s3 hf hit he1 he2;refine⟨λfu Γ G=>?_⟩;intro c g ρ P h;rw[j79]at h;split at h
 .rename_i hcnd;obtain⟨rx,rt,ry,hxt,hxy,hty⟩:=hcnd;have ln:(j9 ρ).length=ρ.length:=by unfold j9;rw[xg]
  rw[ln]at rx rt ry;split at h
  .rename_i ds eds;split at h
   .rename_i r er;refine DSs.nmake (W:=λi ρ' ks ns=>Yr (λρ=>stOf (ev Γ G e1' ρ)) (λρ=>stOf (ev Γ G e2' ρ)) x t y (ds.drop i) (j9 ρ') ks ns=a8 r) rx rt ry hxt hxy hty (sound hit c g (ρ.set x .un) ds (by rw[jh];exact eds))
     (by rw[dD,jh];exact er) (λi d ρ' ks ns hd w=>?_) (λρ' ks ns w=>?_) c.un' hq c.po c.nd hX hT hY lx lt ly fx ft fy dx cx dt ct s1 s2 s3 hf
    .have hdr:ds.drop i=d::ds.drop (i+1):=by obtain⟨hlt,e⟩:=Xe.mp hd;rw[su hlt,e]
     rw[hdr]at w;cases d with
     |tup l =>
      simp only[Yr]at w;split at w
      .rename_i k d1 ek ed;obtain⟨z,ez,ed2⟩:=Ni ed;have hk:=Jo ek;subst hk;split at w
       .rename_i n en;obtain⟨z2,ez2,ed3⟩:=Ni en;split at w
        .rename_i hh;refine⟨k,d1,n,rfl,(sound he1 c g (ρ'.set t (.val (.tup (k.map D.int)))) z (by rw[jh];exact ez)).toE ed2,(sound he2 c g (((ρ'.set t (.val (.tup (k.map D.int)))).set y (.val d1)).set x (.val (.dct ks (ns.map D.int)))) z2 (by rw[jh,jh,jh];exact ez2)).toE ed3,hh.1,hh.2,by rw[jh,jh];exact w⟩
        .cases w
       .cases w
      .cases w
     |_=>simp only[Yr]at w;cases w
    .rw[gB,Yr]at w;cases w;exact h (.val (.dct ks (ns.map D.int))) rfl
   .exact h.elim
  .exact h.elim
 .exact h.elim
theorem Ts.wmake:∀{X:Cx}{x t:Nat}{nx nt:au}{it' e2':Ex}{it e2:av}{p1 p2 p3 p4 p10 p11 p12 p14 p16 p17 p18:aP}(hq:X.calm=ae) (hX:X.N[x]?=a8 nx) (hT:X.N[t]?=a8 nt) (lx:Loc X.env.scope nx) (lt:Loc X.env.scope nt) (fx:X.fn nx=ae\/X.env.scope.names.lookup nx=a8 .local) (ft:X.fn nt=ae\/X.env.scope.names.lookup nt=a8 .local) (dx:(nx==k9o)=a9) (cx:(nx==k9p)=a9) (dt:(nt==k9o)=a9) (ct:(nt==k9p)=a9) (s1:aT (.Dict [] [] p2) (a8 (.Name nx p1)) p3.line X.env=pure a9) (s3:aT e2 (a8 (.Subscript (.Name nx p10) (.Name nt p11) p12)) p14.line X.env=pure a9) (hf:∀x,aH it X.env x=pure x),Tr X it' (.i (.Name nt p4) it)->Tr X e2' (.e e2)->Ts X (.wmake x t it' e2') (.ss (jep nx nt it e2 p1 p2 p3 p4 p10 p11 p12 p14 p16 p17 p18)):=by
 intro _ x t nx nt it' e2' it e2 p1 p2 p3 p4 p10 p11 p12 p14 p16 p17 p18 hq hX hT lx lt fx ft dx cx dt ct s1 s3 hf hit he2;refine⟨λfu Γ G=>?_⟩;intro c g ρ P h;rw[j78]at h;split at h
 .rename_i hcnd;obtain⟨rx,rt,hxt⟩:=hcnd;have ln:(j9 ρ).length=ρ.length:=by unfold j9;rw[xg]
  rw[ln]at rx rt;split at h
  .rename_i ds eds;split at h
   .rename_i r er;refine DSs.wmake (W:=λi ρ' ks ns=>Ym (λρ=>stOf (ev Γ G e2' ρ)) x t (ds.drop i) (j9 ρ') ks ns=a8 r) rx rt hxt (sound hit c g (ρ.set x .un) ds (by rw[jh];exact eds))
     (by rw[dD,jh];exact er) (λi d ρ' ks ns hd w=>?_) (λρ' ks ns w=>?_) c.un' hq c.po c.nd hX hT lx lt fx ft dx cx dt ct s1 s3 hf
    .have hdr:ds.drop i=d::ds.drop (i+1):=by obtain⟨hlt,e⟩:=Xe.mp hd;rw[su hlt,e]
     rw[hdr]at w;cases d with
     |tup l =>
      simp only[Ym]at w;split at w
      .rename_i k n ek en;obtain⟨z2,ez2,ed3⟩:=Ni en;have hk:=Jo ek;subst hk;split at w
       .rename_i hh;refine⟨k,n,rfl,(sound he2 c g ((ρ'.set t (.val (.tup (k.map D.int)))).set x (.val (.dct ks (ns.map D.int)))) z2 (by rw[jh,jh];exact ez2)).toE ed3,hh.1,hh.2,by rw[jh];exact w⟩
       .cases w
      .cases w
     |_=>simp only[Ym]at w;cases w
    .rw[gB,Ym]at w;cases w;exact h (.val (.dct ks (ns.map D.int))) rfl
   .exact h.elim
  .exact h.elim
 .exact h.elim
theorem Ts.apop:∀{X:Cx}{i w:Nat}{x u:au}{e':Ex}{e:av}{p1 p2 p3 p4 p5 p6 pos:aP}(hN:X.N[i]?=a8 x) (hv:Vis X.env.scope x) (hd:(x==k9o)=a9) (hcd:(x==k9p)=a9) (hN2:X.N[w]?=a8 u) (hv2:Vis X.env.scope u) (hd2:(u==k9o)=a9) (hcd2:(u==k9p)=a9) (hst:aj [e] X.env=[(a9,aC e X.env)]) (hst1:aj [.Call (.Attribute (.Name u p4) "pop" p5) [e] [] p6] X.env=[(a9,aC (.Call (.Attribute (.Name u p4) "pop" p5) [e] [] p6) X.env)]) (hline:(p2.endLine==p3.line)=ae) (hline2:(p5.endLine==p6.line)=ae) (hbase:aL (.Name x p1) "append" X.env (aC (.Name x p1) X.env)=aC (.Name x p1) X.env) (hbase2:aL (.Name u p4) "pop" X.env (aC (.Name u p4) X.env)=aC (.Name u p4) X.env) (hfew:((aR p3 (aj [.Call (.Attribute (.Name u p4) "pop" p5) [e] [] p6] X.env)).all (λx=>!x.1)&&(br p3 (aV [] X.env)).all (λx=>x.1.isSome)&&decide (([.Call (.Attribute (.Name u p4) "pop" p5) [e] [] p6]:List av).length+([]:List aS).length+(if ([]:List aS).isEmpty then 0 else 1)<30))=ae) (hfew2:((aR p6 (aj [e] X.env)).all (λx=>!x.1)&&(br p6 (aV [] X.env)).all (λx=>x.1.isSome)&&decide (([e]:List av).length+([]:List aS).length+(if ([]:List aS).isEmpty then 0 else 1)<30))=ae) (hs:aT (.Call (.Attribute (.Name x p1) "append" p2) [.Call (.Attribute (.Name u p4) "pop" p5) [e] [] p6] [] p3) af pos.line X.env=pure a9),Tr X e' (.e e)->Ts X (.apop i w e') (.s (.Expr (.Call (.Attribute (.Name x p1) "append" p2) [.Call (.Attribute (.Name u p4) "pop" p5) [e] [] p6] [] p3) pos)):=by
 intro _ _ _ _ _ _ _ _ _ _ _ _ _ _ hN hv hd hcd hN2 hv2 hd2 hcd2 hst hst1 hline hline2 hbase hbase2 hfew hfew2 hs he;refine⟨λfu Γ G=>?_⟩;intro c g ρ P h;rw[jn5]at h;unfold Fx at h;split at h
 .rename_i l m y el em ey;obtain⟨a,q⟩:=Jc el;obtain⟨b,q2⟩:=Jc em;split at h
  .rename_i z ez;split at h
   .rename_i k ek;split at h
    .rename_i d ed;split at h
     .rename_i hc;exact DS.apop q q2 hc.1 ((sound he c g ρ y ey).toE ez) ek ed hc.2.1 hc.2.2 (h _ (by rw[jh,jh];rfl)) hN hv hd hcd hN2 hv2 hd2 hcd2 hst hst1 hline hline2 hbase hbase2 hfew hfew2 hs
     .exact h.elim
    .exact h.elim
   .exact h.elim
  .exact h.elim
 .exact h.elim
section
def Kq{fu:Nat}{Γ:au->List D->Rc}{G:au->Option D}{X:Cx}{t:Sx}{nd:Ns}(h:Ts X t nd):Cok X G->Gok X Γ->jfs fu Γ G X t nd:=h.m fu Γ G
end
end L2
end
section
namespace L2
open PySem PySem.Spec PyProof.Rows
structure Fi where
 n:Nat
 nn:Nat
 body:Sx
 lam:Bool
noncomputable def j80:Rc->Rc
 |.val d=>.lval d
 |_=>.no
noncomputable def fin:So->Rc
 |.ret r=>r
 |.next _=>.val .non
 |_=>.no
noncomputable def enter(F:Fi)(ds:List D):En:=ds.map Sv.val++ak (F.nn-F.n) Sv.un
noncomputable def evP(fu:Nat)(G:au->Option D)(T:au->Option Fi):Nat->au->List D->Rc
 |0,_,_=>.no
 |n+1,f,ds=>match T f with
  |none=>.no
  |some F=>if ds.length=F.n then(if F.lam=ae then j80 (fin (run fu (evP fu G T n) G F.body (enter F ds)))else fin (run fu (evP fu G T n) G F.body (enter F ds)))else .no
structure Lk(P:az)(w:aD)(K:k9k)(mg:k9n)(base:aE)(x:au)(F:Fi):Prop where
 ex:∃(st:aX)(f:ai)(fd:aJ)(N ps:List au),Fun K x x st f fd/\FnScope N ps (jn st)/\ps.length=F.n/\N.length=F.nn/\Binds K fd ps []/\Dfl K x fd ps/\mg x=a8 (.ref f) /\
  ∀(cdv:ah)(A:aF)(outer:List dR)(s:aq)(H:Hp)(E:XK)(xe:k9l),Ts ((Ua CX0 P w K mg base N x (jn st) f cdv A outer s H E).wish xe) F.body (.ss (ql st))
structure LkL(P:az)(w:aD)(K:k9k)(mg:k9n)(base:aE)(x:au)(F:Fi):Prop where
 ex:∃(tx:Tx)(N ps:List au)(e:Ex),Qn K x=a8 tx/\LamScope N ps tx.2.2/\N.length=F.n/\F.nn=F.n/\F.body=.ret e /\
  (∀(cl:List (au×ai)) (pm:ah) (c:ai) (ctv:ah) (us:List ah),us.length=ps.length->fU (W.kla_fn "<lambda>" (qg x) tx.1 tx.2.1 tx.2.2 cl pm (.ref c) ctv) ⟨us,[]⟩=pure (ps.zip us)) /\
  ∀(a c:ai)(cl:List (au×ai)) (A:aF) (outer:List dR) (s:aq) (H:Hp),Tr (Wm P w K mg base N (qg x) tx.2.2 a (.ref c) cl A outer s H) e (.e tx.2.1)
structure Tb(P:az)(w:aD)(K:k9k)(mg:k9n)(base:aE)(G:au->Option D):Prop where
 bt:∀x∈N6,mg x=af
 gl:∀x d,Eu x=a9->G x=a8 d->∃u v,mg x=a8 u/\RelV v u/\∀H,Enc K H d v
 kin:K.In base
 ns:base.Ns aA mg
 lm:∀x∈Vn,∀f cdv,mg x=a8 (.ref f)->K8 K f cdv->∃c Pt,cdv=.ref c/\W.codeHdIn K c Pt=ae/\W.tabIn K x=a8 (c,Pt)
def LkF(P:az)(w:aD)(K:k9k)(mg:k9n)(base:aE)(f:au)(F:Fi):Prop:=(F.lam=a9->Lk P w K mg base f F/\f.cps.toList.getLast?≠a8 62)/\(F.lam=ae->∃x,f=qg x/\LkL P w K mg base x F)
variable{x:au}{n:Nat}{f:ai}
section
variable{P:az}{w:aD}{K:k9k}{mg:k9n}{base:aE}{fu:Nat}{G:au->Option D}{T:au->Option Fi}
def O9{N:List au}{ds:List D}{F:Fi}(h1:ds.length=F.n)(h2:N.length=F.nn):j9 (zb N ds)=enter F ds:=by unfold j9 zb enter;rw[Xi,Xf,jY,h1,h2];rfl
def Fw{y z:au}(h:x++z=y++z):x=y:=by have h:(⟨x.cps++z.cps⟩:au)=⟨y.cps++z.cps⟩:=h;have h:=congrArg Str.cps h;have e:x.cps=y.cps:=Array.append_inj_left' h rfl;cases x;cases y;cases e;rfl
def jd4{y:au}(h:qg x=qg y):x=y:=Fw (Fw h)
def j23(x:au):(qg x).cps.toList.getLast?=a8 62:=by unfold qg;show(((x ++ ".<locals>.").cps)++("<lambda>":au).cps).toList.getLast?=a8 62;rw[fm,List.getLast?_append];rfl
def j81(x:au):qg x∉Vn:=λh=>by
 have e:=j23 x
 revert e
 unfold Vn at h;rcases Xb.mp h with h|h
 .rw[h];decide
 rcases Xb.mp h with h|h
 .rw[h];decide
 rcases Xb.mp h with h|h
 .rw[h];decide
 .rw[xu.mp h];decide
def jjl{fu:Nat}{Γ:au->List D->Rc}{G:au->Option D}{e:Ex}{ρ:En}{d:D}(h:fin (run fu Γ G (.ret e) ρ)=.val d):∃r,ev Γ G e ρ=a8 (.v r)/\r.d=d:=by
 rw[jfr]at h;cases z:ev Γ G e ρ with
 |none=>rw[z]at h;cases h
 |some w =>
  cases w with
  |v r =>
   rw[z]at h;cases r with
   |o l=>cases h
   |e d=>cases h;exact⟨_,rfl,rfl⟩
   |w l=>cases h;exact⟨_,rfl,rfl⟩
   |t d=>cases h;exact⟨_,rfl,rfl⟩
  |a l=>rw[z]at h;cases h
  |i l=>rw[z]at h;cases h
def Bx (t:Tb P w K mg base G) {X:Cx}  (h1:X.prog=P) (h2:X.w=w) (h3:X.K=K) (h4:X.mg=mg) (h5:X.base=base) (hn:14<=n) (hr:Room n X.A) (nd:X.N.Nodup) (po:g6 (aB X.prog X.w) X.A X.env X.xe) (hlm:∀x∈Vn,X.env.qual=x ++ ".<locals>."->∃c P,X.env.code=.ref c/\W.codeHdIn K c P=ae/\W.tabIn K x=a8 (c,P)) (hfr:∃(env0:dR)(out0:List dR)(L:ai),X.stack=env0::out0/\env0.frame=a8 L/\X.env.frame=a8 L:=by exact⟨_,_,_,rfl,rfl,rfl⟩):Cok X G:=by subst h1 h2 h3 h4 h5;exact⟨by have:=hr.un;omega,(λ_=>by have:=hr.un;omega),(λ_=>by have:=hr.dp;omega),t.bt,t.gl,nd,po,t.kin,t.ns,(λ_=>hr.gd),hfr,hlm⟩
def j38 (t:Tb P w K mg base G) {g:au}  {cdv:ah} {env:dR} (hm:mg g=a8 (.ref f)) (hcv:K8 K f cdv) (hq:env.qual=g ++ ".<locals>.") (hc:env.code=cdv):∀x∈Vn,env.qual=x ++ ".<locals>."->∃c P,env.code=.ref c/\W.codeHdIn K c P=ae/\W.tabIn K x=a8 (c,P):=λx hx e=>by have eg:=Fw (hq.symm.trans e);subst eg;rw[hc];exact t.lm _ hx f cdv hm hcv
noncomputable def lv:Nat->Nat
 |0=>12
 |n+1=>lv n+4
theorem Nz:∀n,14<=lv n+3
 |0=>by decide
 |n+1=>by have:=Nz n;unfold lv;omega
theorem Ie(hT:∀x F,T x=a8 F->LkF P w K mg base x F)(t:Tb P w K mg base G):∀(n:Nat)(x:au)(ds:List D),
  ∃(f:ai)(fd:aJ)(ps:List au),match evP fu G T n x ds with
   |.val d=>FnOk P w K mg base CX0 (lv n) f fd ps (spP K λds' d'=>ds'=ds/\d'=d)/\mg x=a8 (.ref f)/\W.keepIn K (.ref f)=ae/\Binds K fd ps []/\Dfl K x fd ps
   |.fresh l=>FnOk P w K mg base CX0 (lv n) f fd ps (spF K λds' l'=>ds'=ds/\l'=l)/\mg x=a8 (.ref f)/\W.keepIn K (.ref f)=ae/\Binds K fd ps []/\Dfl K x fd ps
   |.lval d=>∀y,x=qg y->j3d P w K mg base (lv n) y λds' d'=>ds'=ds/\d'=d
   |.no=>True
 |0,x,ds=>⟨0,W.fnOf x x { posonlyargs:=[],args:=[],vararg:=af,kwonlyargs:=[],kw_defaults:=[],kwarg:=af,defaults:=[] } [] { kind:=.function,names:=[],isGenerator:=a9,isCoroutine:=a9 } .none .none .none .none af .none .none,[],trivial⟩
 |n+1,x,ds=>by
  have ih:=Ie hT t n;cases hF:T x with
  |none =>
   obtain⟨f,fd,ps,_⟩:=ih x ds;refine⟨f,fd,ps,?_⟩;have e:evP fu G T (n+1) x ds=.no:=by simp only[evP,hF]
   rw[e];trivial
  |some F =>
   have gok:∀{X:Cx},X.prog=P->X.w=w->X.K=K->X.mg=mg->X.base=base->Room (lv n+3) X.A->Gok X (evP fu G T n):=λ{X} h1 h2 h3 h4 h5 hr g ds'=>by
    subst h1 h2 h3 h4 h5;obtain⟨f',fd',ps',q⟩:=ih g ds';cases z:evP fu G T n g ds' with
    |val d=>rw[z]at q;exact⟨lv n,f',fd',ps',q.1,hr,q.2.1,q.2.2.1,q.2.2.2⟩
    |fresh l=>rw[z]at q;exact⟨lv n,f',fd',ps',q.1,hr,q.2.1,q.2.2.1,q.2.2.2⟩
    |lval d=>rw[z]at q;exact λy hy=>⟨lv n,hr.mono nofun,q y hy⟩
    |no=>trivial
   cases hlam:F.lam with
   |true =>
    obtain⟨f,fd,ps,_⟩:=ih x ds;refine⟨f,fd,ps,?_⟩;by_cases hl:ds.length=F.n
    .have e:evP fu G T (n+1) x ds=j80 (fin (run fu (evP fu G T n) G F.body (enter F ds))):=by simp only[evP,hF,if_pos hl,hlam,if_true]
     rw[e];obtain⟨y,ey,L⟩:=(hT x F hF).2 hlam;obtain⟨tx,N,ps,ex,htx,hsc,hN,hnn,hbd,hba,htr⟩:=L.ex;cases ho:fin (run fu (evP fu G T n) G F.body (enter F ds)) with
     |val d =>intro y' hy';have eyy:y=y':=jd4 (ey.symm.trans hy');subst eyy;refine jkx (k:=lv n+3) htx hsc (λds' d' h=>by rw[h.1,hl,hN]) hba λa c cl A outer s H hcl hr ds' d' ⟨e1,e2⟩=>?_;subst e1 e2;have ab:j9 (zb N ds')=enter F ds':=O9 hl (by rw[hN,hnn]);rw[hbd,<-ab]at ho;obtain⟨r,er,ed⟩:=jjl ho;exact ed▸(sound (htr a c cl A outer s H) (Bx t rfl rfl rfl rfl rfl (Nz _) hr hsc.nd bX λz hz hq=>absurd (Fw hq▸hz) (j81 y)) (gok rfl rfl rfl rfl rfl hr) (zb N ds') r er).toT
     |fresh l=>trivial
     |lval z=>trivial
     |no=>trivial
    .have e:evP fu G T (n+1) x ds=.no:=by simp only[evP,hF,if_neg hl]
     rw[e];trivial
   |false =>
   obtain⟨L,hlast⟩:=(hT x F hF).1 hlam;obtain⟨st,f,fd,N,ps,hfun,hsc,hps,hN,hb,hdf,hm,hts⟩:=L.ex;refine⟨f,fd,ps,?_⟩;by_cases hl:ds.length=F.n
   .have e:evP fu G T (n+1) x ds=fin (run fu (evP fu G T n) G F.body (enter F ds)):=by simp only[evP,hF,if_pos hl,hlam,Pn,if_false]
    have ab:j9 (zb N ds)=enter F ds:=O9 hl hN;cases ho:run fu (evP fu G T n) G F.body (enter F ds) with
    |next ρ' =>rw[e,ho];refine⟨j12 (k:=lv n+3) hfun hsc (λds' d' h=>by rw[h.1,hl,hps]) λcdv A outer s H E hcv hr ds' d' ⟨e1,e2⟩=>?_,hm,hfun.kp,hb,hdf⟩;subst e1 e2;refine Kq (fu:=fu) (hts cdv A outer s H E _) (Bx t rfl rfl rfl rfl rfl (Nz _) hr hsc.nd bX (j38 t hm hcv rfl rfl)) (gok rfl rfl rfl rfl rfl hr) (zb N ds') _ ?_;rw[ab,ho];exact λ_ _=>rfl
    |ret r =>
     rw[e,ho];cases r with
     |no=>trivial
     |lval d=>exact λy hy=>absurd (hy▸j23 y) hlast
     |val d =>
      refine⟨j12 (k:=lv n+3) hfun hsc (λds' d' h=>by rw[h.1,hl,hps]) λcdv A outer s H E hcv hr ds' d' ⟨e1,e2⟩=>?_,hm,hfun.kp,hb,hdf⟩;subst e1 e2;refine Kq (fu:=fu) (hts cdv A outer s H E _) (Bx t rfl rfl rfl rfl rfl (Nz _) hr hsc.nd bX (j38 t hm hcv rfl rfl)) (gok rfl rfl rfl rfl rfl hr) (zb N ds') _ ?_;rw[ab,ho];intro y hy;cases y with
      |val d=>cases hy;rfl
      |fresh l=>cases hy
     |fresh l =>
      refine⟨jdh (k:=lv n+3) hfun hsc (λds' d' h=>by rw[h.1,hl,hps]) λcdv A outer s H E hcv hr ds' d' ⟨e1,e2⟩=>?_,hm,hfun.kp,hb,hdf⟩;subst e1 e2;refine Kq (fu:=fu) (hts cdv A outer s H E _) (Bx t rfl rfl rfl rfl rfl (Nz _) hr hsc.nd bX (j38 t hm hcv rfl rfl)) (gok rfl rfl rfl rfl rfl hr) (zb N ds') _ ?_;rw[ab,ho];intro y hy;cases y with
      |val d=>cases hy
      |fresh l=>cases hy;rfl
    |brk _=>rw[e,ho];trivial
    |cnt _=>rw[e,ho];trivial
    |no=>rw[e,ho];trivial
   .have e:evP fu G T (n+1) x ds=.no:=by simp only[evP,hF,if_neg hl]
    rw[e];trivial
end
noncomputable def Gof(gs:List (au×D))(x:au):Option D:=if Eu x=ae then af else gs.lookup x
variable{K:k9k}{mg:k9n}
def jnd{P:az}{w:aD}{base:aE}{gs:List (au×D)}(bt:∀x∈N6,mg x=af)
  (gl:∀x d,gs.lookup x=a8 d->∃u v,mg x=a8 u/\RelV v u/\∀H,Enc K H d v) (kin:K.In base) (ns:base.Ns aA mg) (lm:∀x∈Vn,∀f cdv,mg x=a8 (.ref f)->K8 K f cdv->∃c Pt,cdv=.ref c/\W.codeHdIn K c Pt=ae/\W.tabIn K x=a8 (c,Pt)):Tb P w K mg base (Gof gs):=by
 refine⟨bt,λx d hb h=>?_,kin,ns,lm⟩;unfold Gof at h;rw[if_neg (by rw[hb];decide)]at h;exact gl x d h
def j33(K:k9k):Sp:=λvs H Q _=>∃(a:ai)(ns:zo),vs=[.ref a]/\TabOk K H/\SqL K H a (ns.map V.int)/\ns.length<=63/\∀H':Hp,j0 H H'->Q (.bl ae) H'
def j5z{H:Hp}{a:ai}{ns:zo}(h:SqL K H a (ns.map V.int)):j4 K H [.lst (ns.map D.int)] [.ref a] :=
 ⟨_,[],rfl,⟨a,_,rfl,h,j4.ints ns⟩,rfl⟩
def jkv{P:az}{w:aD}{base:aE}{fu:Nat}{G:au->Option D}{T:au->Option Fi}{p:au}{fa:ai}{st:aX}{F:Fi}
  (hT:∀x F,T x=a8 F->LkF P w K mg base x F) (t:Tb P w K mg base G)
  (hx:T x=a8 F) (hlam:F.lam=a9) (hm:mg x=a8 (.ref fa)) {fd:aJ} (hfun:Fun K x x st fa fd) (N:List au) (hsc:FnScope N [p] (jn st)) (h1:F.n=1) (hN:N.length=F.nn)
  (hts:∀(cdv:ah)(A:aF)(outer:List dR)(s:aq)(H:Hp)(E:XK)(xe:k9l),Ts ((Ua CX0 P w K mg base N x (jn st) fa cdv A outer s H E).wish xe) F.body (.ss (ql st)))
  (hlaw:∀ns:zo,ns.length<=63->evP fu G T (n+1) x [.lst (ns.map D.int)]=.val (.bl ae)):FnOk P w K mg base CX0 (lv (n+1)) fa fd [p] (j33 K):=by
 have S:FnOk P w K mg base CX0 (lv (n+1)) fa fd [p] (spP K λds d=>∃ns:zo,ns.length<=63/\ds=[.lst (ns.map D.int)]/\d=.bl ae):=by
  refine j12 (k:=lv n+3) hfun hsc (λds d ⟨ns,_,h,_⟩=>by rw[h];rfl) λcdv A outer s H E hcv hr ds d ⟨ns,hns,e1,e2⟩=>?_;subst e1 e2;have e:=hlaw ns hns;simp only[evP,hx,h1,hlam,Pn,if_false,xx,Tg,if_true]at e;have ab:j9 (zb N [D.lst (ns.map D.int)])=enter F [D.lst (ns.map D.int)]:=O9 (by rw[h1];rfl) hN;have g:Gok (Ua CX0 P w K mg base N x (jn st) fa cdv A outer s H E).nox (evP fu G T n):=λg ds'=>by
   obtain⟨f',fd',ps',q⟩:=Ie (fu:=fu) hT t n g ds';cases z:evP fu G T n g ds' with
   |val d=>rw[z]at q;exact⟨lv n,f',fd',ps',q.1,hr,q.2.1,q.2.2.1,q.2.2.2⟩
   |fresh l=>rw[z]at q;exact⟨lv n,f',fd',ps',q.1,hr,q.2.1,q.2.2.1,q.2.2.2⟩
   |lval d=>rw[z]at q;exact λy hy=>⟨lv n,hr.mono nofun,q y hy⟩
   |no=>trivial
  refine Kq (fu:=fu) (hts cdv A outer s H E _) (Bx t rfl rfl rfl rfl rfl (Nz _) hr hsc.nd bX (j38 t hm hcv rfl rfl)) g (zb N _) _ ?_;rw[ab];cases ho:run fu (evP fu G T n) G F.body (enter F [D.lst (ns.map D.int)]) with
  |ret r =>
   rw[ho]at e;have e:r=.val (.bl ae):=e;subst e;intro y hy;cases y with
   |val d=>cases hy;rfl
   |fresh l=>cases hy
  |next ρ'=>rw[ho]at e;cases e
  |brk _=>rw[ho]at e;cases e
  |cnt _=>rw[ho]at e;cases e
  |no=>rw[ho]at e;cases e
 refine S.imp λvs H Q E ⟨a,ns,hv,tb,hS,hl,k⟩=>?_;subst hv;exact⟨[],_,_,tb,(λa h=>nomatch h),by rw[Qd];exact j5z hS,⟨ns,hl,rfl,rfl⟩,λv H' g e=>by cases(show v=.bl ae from e);exact k H' g⟩
noncomputable def j32(K:k9k):List (ai×au):=Vn.filterMap λx=>(W.tabIn K x).map λq=>(q.2,qg x)
noncomputable def tOk(K:k9k)(ts:List ai):Bool:=(Vn.all λx=>match W.nsIn K aA x with
  |some af=>ae
  |_=>match W.tabIn K x with
   |some (c,P)=>W.codeHdIn K c P&&ts.contains P
   |none=>a9)&&W.noTabs K&&decide ((j32 K).map (·.1)).Nodup
variable{ts:List ai}
def jg2{h:aE}(hk:tOk K ts=ae)(X:K.In h)(ht:∀P∈ts,h.get? P=a8 (W.tabObj #[])):jen (j32 K) h:=by
 unfold tOk at hk;rw[Xl,Xl]at hk;refine⟨of_decide_eq_true hk.2,λt hm=>?_⟩;obtain⟨x,hx,e⟩:=Sq.mp hm;obtain⟨⟨c,P⟩,e1,e2⟩:=Pb.mp e;subst e2;have z:=ph.mp hk.1.1 x hx;split at z
 .rename_i y;exfalso;unfold W.tabIn at e1;rw[y]at e1;cases e1
 .rw[e1]at z;have z:(W.codeHdIn K c P&&ts.contains P)=ae:=z;rw[Xl]at z;exact⟨⟨c,W.codeHd_of_K X z.1⟩,ht P (by simpa using z.2)⟩
def jo6{h:aE}(hk:tOk K ts=ae)(X:K.In h)(Gn:h.Ns aA mg):∀x∈Vn,∀f cdv,mg x=a8 (.ref f)->K8 K f cdv->∃c Pt,cdv=.ref c/\W.codeHdIn K c Pt=ae/\W.tabIn K x=a8 (c,Pt):=λx hx f cdv hm hcv=>by
 unfold tOk at hk;rw[Xl,Xl]at hk;have z:=ph.mp hk.1.1 x hx;split at z
 .rename_i y;rw[W.mg_none_of X Gn y]at hm;cases hm
 .split at z
  .rename_i c P e;rw[Xl]at z;refine⟨c,P,?_,z.1,e⟩;obtain⟨oc,od,fd,sl,e3,e4⟩:=hcv;unfold W.tabIn at e;split at e
   .rename_i f' hf;have e5:=W.mg_of X Gn hf;rw[hm]at e5;cases e5;rw[e3]at e;dsimp only at e;split at e
    .rename_i c' hc;split at e
     .split at e
      .cases e;rw[<-e4];exact hc
      .cases e
     .cases e
    .cases e
   .cases e
  .cases z
def jj5{H:Hp}(hO:Only (j32 K) H):TabOk K H:=λx hx c P e=>hO.2 (P,qg x) (Sq.mpr ⟨x,hx,by rw[e];rfl⟩)
def ja0(hk:tOk K ts=ae):W.noTabs K=ae:=by unfold tOk at hk;rw[Xl,Xl]at hk;exact hk.1.2
def walkL{l:dQ}{q:az}{loose:List au}{XP:(au->Option ah)->aE->Prop}{YP:aD->aE->Prop}{d:DefRec}{K:nj->k9k}{k:Nat}(hk:k<=200)(hn:l.most=a8 63)(hdf:d.params.defaults=[])
  (hY:∀(w:aD)(h:aE),YP w h->(K w.params).In h/\∀P∈ts,h.get? P=a8 (W.tabObj #[])) (hK:∀w:aD,tOk (K w.params) ts=ae)
  (F:∀(w:aD)(mg:k9n)(fa:ai)(h:aE),(K w.params).In h->h.Ns aA mg->mg d.name=a8 (.ref fa)->tOk (K w.params) ts=ae ->
   ∃fd:aJ,(∀(s:aq)(u:ah),dP s fd ⟨[u],[]⟩ [(x,u)])/\∀base:aE,(K w.params).In base->base.Ns aA mg->FnOk l.prog w (K w.params) mg base CX0 k fa fd [x] (j33 (K w.params))) :
  jF q loose XP YP l.row.toRowW d [] (λf vs=>jJ f vs) :=
 L2.walk_of (n:=63) (k:=k) (x:=x) (CX:=λ_=>CX0) (sp:=λw=>j33 (K w.params)) (ts:=λw=>j32 (K w.params)) hn (by decide) hdf
  (Room.mono (k:=200) ⟨rfl,by decide,by decide,rfl⟩ hk) (λw h Y=>⟨(hY w h Y).1,jg2 (hK w) (hY w h Y).1 (hY w h Y).2⟩) (λw=>ja0 (hK w)) (λw mg fa h X G m=>F w mg fa h X G m (hK w)) (λw H a ns hl hO hS=>⟨a,ns,rfl,jj5 hO,hS,hl,λH' g=>⟨rfl,g⟩⟩) λ_ _ _ _ _ z=>z
def Lf(K:k9k)(x:au)(st:aX):Prop:=∃(f:ai)(oc:ah)(od:Option ai)(kV dc pm:ah)(an:Option ai)(cd ct:ah)(sl:Array (Option ah)),W.nsIn K aA x=a8 (a8 (.ref f)) /\
 K.lookup f=a8 ⟨oc,od,.func (W.fnOf x x (v8 st) (ql st) (jn st) .none kV dc pm an cd ct),sl⟩/\W.codeIn K cd x=ae/\W.keepIn K (.ref f)=ae
def Lfd(K:k9k)(x:au)(st:aX):Prop:=∃(f:ai)(oc:ah)(od:Option ai)(kV dc pm:ah)(an:Option ai)(cd ct:ah)(sl:Array (Option ah)) (dt:ai) (n:Nat) (ts:Array (Option ah)),W.nsIn K aA x=a8 (a8 (.ref f)) /\
 K.lookup f=a8 ⟨oc,od,.func (W.fnOf x x (v8 st) (ql st) (jn st) (.ref dt) kV dc pm an cd ct),sl⟩/\W.codeIn K cd x=ae/\W.keepIn K (.ref f)=ae/\K.lookup dt=a8 ⟨.type "tuple",af,.seq #[.none] n,ts⟩
def TrT(P:az)(w:aD)(K:k9k)(mg:k9n)(base:aE)(x:au)(N:List au)(st:aX)(b:Sx):Prop :=
 ∀(f:ai)(cdv:ah)(A:aF)(outer:List dR)(s:aq)(H:Hp)(E:XK) (xe:k9l),Ts ((Ua CX0 P w K mg base N x (jn st) f cdv A outer s H E).wish xe) b (.ss (ql st))
noncomputable def lamT(st:aX):Tx:=(Ml (ql st)).getD ({ posonlyargs:=[],args:=[],vararg:=af,kwonlyargs:=[],kw_defaults:=[],kwarg:=af,defaults:=[] },.Name "" ⟨0,0,0,0⟩,{ kind:=.function,names:=[],isGenerator:=a9,isCoroutine:=a9 })
def TrL(P:az)(w:aD)(K:k9k)(mg:k9n)(base:aE)(x:au)(N:List au)(t:Tx)(e:Ex):Prop :=
 ∀(a c:ai)(cl:List (au×ai)) (A:aF) (outer:List dR) (s:aq) (H:Hp),Tr (Wm P w K mg base N (qg x) t.2.2 a (.ref c) cl A outer s H) e (.e t.2.1)
def jho{sc:be}(x:au)(h:sc.names.lookup x=a8 .free):x∈v6 sc:=by unfold v6;rw[List.mem_reverse];exact xr.mpr ⟨(x,.free),Xk.mpr ⟨lookup_mem h,rfl⟩,rfl⟩
noncomputable def bOk(K:k9k):Bool:=N6.all λx=>match W.nsIn K aA x with
 |some af=>ae
 |_=>a9
variable{us:List ah}
section
variable{P:az}{w:aD}{K:k9k}{mg:k9n}{base h:aE}{x:au}{st:aX}{N ps:List au}{F:Fi}
def joz(X:K.In h)(Gn:h.Ns aA mg)(hb:bOk K=ae):∀x∈N6,mg x=af:=λx hx=>by
 have z:=ph.mp hb x hx;split at z
 .rename_i e;exact W.mg_none_of X Gn e
 .cases z
def jl(L:Lf K x st)(X:K.In h)(Gn:h.Ns aA mg)(t:TrT P w K mg base x N st F.body)(ps:List au)(sc:FnScope N ps (jn st))(h1:ps.length=F.n)(h2:N.length=F.nn)
  (hb:∀(kV doc pm:ah)(an:Option ai)(cdv ct:ah)(us:List ah),us.length=ps.length->fU (W.fnOf x x (v8 st) (ql st) (jn st) .none kV doc pm an cdv ct) ⟨us,[]⟩=pure (ps.zip us)) (hd:x∉j86):Lk P w K mg base x F:=by
 obtain⟨f,oc,od,kV,dc,pm,an,cd,ct,sl,a,l,c,k⟩:=L;exact⟨st,f,_,N,ps,Ed l c k,sc,h1,h2,(Ed l c k).binds hb,λz=>absurd z hd,W.mg_of X Gn a,t f⟩
def jac(L:Lfd K x st)(X:K.In h)(Gn:h.Ns aA mg)(t:TrT P w K mg base x N st F.body)(ps:List au)(sc:FnScope N ps (jn st))(h1:ps.length=F.n)(h2:N.length=F.nn)(h3:0<ps.length)
  (hb:∀(dt:ai)(n:Nat)(ts:Array (Option ah)) (kV doc pm:ah) (an:Option ai) (cdv ct:ah) (s:aq),K.In s.heap->K.lookup dt=a8 ⟨.type "tuple",af,.seq #[.none] n,ts⟩ ->
   (∀us:List ah,us.length=ps.length->dP s (W.fnOf x x (v8 st) (ql st) (jn st) (.ref dt) kV doc pm an cdv ct) ⟨us,[]⟩ (ps.zip us)) /\
   (∀us:List ah,us.length+1=ps.length->dP s (W.fnOf x x (v8 st) (ql st) (jn st) (.ref dt) kV doc pm an cdv ct) ⟨us,[]⟩ (ps.zip (us++[.none]))) /\
   ∀(us:List ah)(v:ah),us.length+1=ps.length->dP s (W.fnOf x x (v8 st) (ql st) (jn st) (.ref dt) kV doc pm an cdv ct) ⟨us,[("prices",v)]⟩ (ps.zip (us++[v]))):Lk P w K mg base x F:=by
 obtain⟨f,oc,od,kV,dc,pm,an,cd,ct,sl,dt,n,ts,a,l,c,k,td⟩:=L;refine⟨st,f,_,N,ps,Ed l c k,sc,h1,h2,λs us hK hl=>?_,λ_=>⟨λs us hK hl=>?_,joe h3 λs us v hK hl=>(hb dt n ts kV dc pm an cd ct s hK td).2.2 us v hl⟩,W.mg_of X Gn a,t f⟩
 .rw[Pa]at hl ⊢;exact(hb dt n ts kV dc pm an cd ct s hK td).1 us hl
 .exact(hb dt n ts kV dc pm an cd ct s hK td).2.1 us (by rw[Xh]at hl;exact hl)
def Zg(L:Lf K x st):Qn K x=Ml (ql st):=by obtain⟨f,oc,od,kV,dc,pm,an,cd,ct,sl,a,l,c,k⟩:=L;unfold Qn;rw[a];dsimp only;rw[l]
def lkF(L:Lk P w K mg base x F)(h:F.lam=a9)(hn:x.cps.toList.getLast?≠a8 62):LkF P w K mg base x F:=⟨λ_=>⟨L,hn⟩,λz=>by rw[h]at z;cases z⟩
def Ir{e:Ex}{q:au}(hq:q=qg x)(h:Qn K x=Ml (ql st))(ht:Ml (ql st)=a8 (lamT st))(tr:TrL P w K mg base x N (lamT st) e)(ps:List au)(sc:LamScope N ps (lamT st).2.2)(h1:N.length=F.n)(h2:F.nn=F.n)(hb:F.body=.ret e)(hl:F.lam=ae)
  (ha:∀(cl:List (au×ai)) (pm:ah) (c:ai) (ctv:ah) (us:List ah),us.length=ps.length->fU (W.kla_fn "<lambda>" (qg x) (lamT st).1 (lamT st).2.1 (lamT st).2.2 cl pm (.ref c) ctv) ⟨us,[]⟩=pure (ps.zip us)):LkF P w K mg base q F :=
 ⟨λz=>by(rw[hl]at z;cases z),λ_=>⟨x,hq,⟨lamT st,N,ps,e,h.trans ht,sc,h1,h2,hb,ha,tr⟩⟩⟩
def us1(h:us.length=1):∃a,us=[a]:=by match us,h with|[a],_=>exact⟨a,rfl⟩
def us2(h:us.length=2):∃a b,us=[a,b]:=by match us,h with|[a,b],_=>exact⟨a,b,rfl⟩
def us3(h:us.length=3):∃a b c,us=[a,b,c]:=by match us,h with|[a,b,c],_=>exact⟨a,b,c,rfl⟩
def us4(h:us.length=4):∃a b c d,us=[a,b,c,d]:=by match us,h with|[a,b,c,d],_=>exact⟨a,b,c,d,rfl⟩
end
def lf_mk{K:k9k}{st:aX}{oc:ah}{od:Option ai}{kV dc pm:ah}{an:Option ai}{cd ct:ah}{sl:Array (Option ah)}(a:W.nsIn K aA x=a8 (a8 (.ref f)))
  (l:K.lookup f=a8 ⟨oc,od,.func (W.fnOf x x (v8 st) (ql st) (jn st) .none kV dc pm an cd ct),sl⟩) (c:W.codeIn K cd x=ae) (k:W.keepIn K (.ref f)=ae):Lf K x st:=⟨f,oc,od,kV,dc,pm,an,cd,ct,sl,a,l,c,k⟩
def lfd_mk{K:k9k}{st:aX}{oc:ah}{od:Option ai}{kV dc pm:ah}{an:Option ai}{cd ct:ah}{sl:Array (Option ah)}{dt:ai}{ts:Array (Option ah)}(a:W.nsIn K aA x=a8 (a8 (.ref f)))
  (l:K.lookup f=a8 ⟨oc,od,.func (W.fnOf x x (v8 st) (ql st) (jn st) (.ref dt) kV dc pm an cd ct),sl⟩) (c:W.codeIn K cd x=ae) (k:W.keepIn K (.ref f)=ae) (t:K.lookup dt=a8 ⟨.type "tuple",af,.seq #[.none] n,ts⟩):Lfd K x st:=⟨f,oc,od,kV,dc,pm,an,cd,ct,sl,dt,n,ts,a,l,c,k,t⟩
end L2
end
section
namespace L2
open PySem (Str sizeLine argBest)
variable{n:Nat}
def J9(h:n<=1000000):n<=aw:=Xn h (by decide)
def lt_size(h:n<=1000000):n<aw:=cG h (by decide)
noncomputable def Oq(o:So)(f:En->So):So:=match o with
 |.next ρ=>f ρ
 |o=>o
noncomputable def ifS(c:Option Bool)(f g:En->So)(ρ:En):So:=match c with
 |some ae=>f ρ
 |some a9=>g ρ
 |none=>.no
noncomputable def O5(is:List Nat)(f:En->So)(d:D)(ρ:En):So:=match qz is d ρ with
 |some ρ2=>f ρ2
 |none=>.no
noncomputable def jf7(is:List Nat)(w:Option W)(f:En->So)(ρ:En):So:=match w with
 |some (.i ds)=>Jz (O5 is f) ds ρ
 |_=>.no
variable{ds:List D}
section
variable{fu:Nat}{Γ:au->List D->Rc}{G:au->Option D}{ρ:En}{i j:Nat}{e c k:Ex}{a b:Sx}{is:List Nat}
def jgj:run fu Γ G .nop ρ=.next ρ:=(rfl)
def j0f:run fu Γ G (.seq a b) ρ=Oq (run fu Γ G a ρ) (run fu Γ G b):=(rfl)
def jgg:run fu Γ G (.set i e) ρ=Om i (ev Γ G e ρ) ρ:=(rfl)
def jgk:run fu Γ G (.mov i j) ρ=j0s i j ρ[j]? ρ:=(rfl)
def jcb:run fu Γ G (.expr e) ρ=j4t (ev Γ G e ρ) ρ:=(rfl)
def jgh:run fu Γ G (.ret e) ρ=retS (ev Γ G e ρ):=(rfl)
def jc7:run fu Γ G (.retV i) ρ=Nk ρ[i]?:=(rfl)
def jgl:run fu Γ G (.ife c a b) ρ=ifS (truth (ev Γ G c ρ)) (run fu Γ G a) (run fu Γ G b) ρ:=(rfl)
def jca:run fu Γ G (.loop is e a) ρ=jf7 is (ev Γ G e (frz e ρ)) (run fu Γ G a) (frz e ρ):=(rfl)
def jgo:run fu Γ G (.app i e) ρ=j1f i ρ[i]? (ev Γ G e ρ) ρ:=(rfl)
def jgn:run fu Γ G (.ext i e) ρ=j14 i ρ[i]? (ev Γ G e ρ) ρ:=(rfl)
def jgi:run fu Γ G (.put i k e) ρ=j0k i ρ[i]? (ev Γ G k ρ) (ev Γ G e ρ) ρ:=(rfl)
def jgf:run fu Γ G (.unp i j e) ρ=j05 i j (stOf (ev Γ G e ρ)) ρ:=(rfl)
def jiz{d d':D}(h:i≠j):j05 i j (a8 (.tup [d,d'])) ρ=.next ((ρ.set i (.val d)).set j (.val d')):=by unfold j05;dsimp only;rw[if_neg h]
def jj9{d:D}:stOf (a8 (.v (.e d)))=a8 d:=(rfl)
def j24{d:D}:Fd i (a8 (.val d)) ρ=.next ρ:=(rfl)
def Cz:run fu Γ G (.keep i) ρ=Fd i ρ[i]? ρ:=(rfl)
def j25{l:List D}:Fd i (a8 (.own l)) ρ=.next (ρ.set i (.val (.lst l))):=(rfl)
def jc8{x:au}:run fu Γ G (.retL x is) ρ=Ia x (Z1 ρ is):=(rfl)
def jgu{x:au}{ds:List D}:Ia x (a8 ds)=.ret (.val (.fn x ds)):=(rfl)
noncomputable def jm7(s:Option Sv)(v:Option (List D)):Option (List D):=match s,v with
 |some (.val d),a8 ds=>a8 (d::ds)
 |_,_=>af
def j7b:Z1 ρ []=a8 []:=(rfl)
def j5j:Z1 ρ (i::is)=jm7 ρ[i]? (Z1 ρ is):=(rfl)
def jm6{d:D}{ds:List D}:jm7 (a8 (.val d)) (a8 ds)=a8 (d::ds):=(rfl)
def jc9{f x:au}{a b:Ex}:run fu Γ G (.retC f x a b is) ρ=Ib Γ f x (Z1 ρ is) (ev Γ G a ρ) (ev Γ G b ρ):=(rfl)
def jgv{f x:au}{ds:List D}{d d':D}:Ib Γ f x (a8 ds) (a8 (.v (.e d))) (a8 (.v (.e d')))=j34 (Γ f [d,d',.fn x ds]):=(rfl)
def j6g{d:D}(h:noFn d=ae):j34 (.val d)=.ret (.val d):=if_pos h
def j1q{x t y:Nat}{it e1 e2:Ex}{r:List zo×zo}(hc:x<ρ.length/\t<ρ.length/\y<ρ.length/\x≠t/\x≠y/\t≠y)(hi:ev Γ G it (ρ.set x .un)=a8 (.i ds))(hd:Yr (λρ=>stOf (ev Γ G e1 ρ)) (λρ=>stOf (ev Γ G e2 ρ)) x t y ds (ρ.set x .un) [] []=a8 r) :
  run fu Γ G (.nmake x t y it e1 e2) ρ=.ret (.val (.dct r.1 (r.2.map D.int))):=by rw[j79,if_pos hc,hi];dsimp only;rw[hd]
def j96{x t:Nat}{it e2:Ex}{r:List zo×zo}(hc:x<ρ.length/\t<ρ.length/\x≠t)(hi:ev Γ G it (ρ.set x .un)=a8 (.i ds))(hd:Ym (λρ=>stOf (ev Γ G e2 ρ)) x t ds (ρ.set x .un) [] []=a8 r) :
  run fu Γ G (.wmake x t it e2) ρ=.ret (.val (.dct r.1 (r.2.map D.int))):=by rw[j78,if_pos hc,hi];dsimp only;rw[hd]
def jcc{w:Nat}{e:Ex}:run fu Γ G (.apop i w e) ρ=Fx i w ρ[i]? ρ[w]? (ev Γ G e ρ) ρ:=(rfl)
def jim{w k:Nat}{l m:List D}{z:Int}{d:D}(hz:ixN m.length z=a8 k)(hd:m[k]?=a8 d)(h:i≠w)(hl:l.length<=1000000)(hm:m.length<=1000000):Fx i w (a8 (.own l)) (a8 (.own m)) (a8 (.v (.e (.int z)))) ρ=.next ((ρ.set w (.own (m.eraseIdx k))).set i (.own (l++[d]))):=by simp only[Fx,Rk.st,hz,hd];rw[if_pos ⟨h,lt_size hl,hm⟩]
def jgm:run fu Γ G (.fgt i) ρ=.next (ρ.set i .un):=(rfl)
end
section
variable{f g:En->So}{ρ:En}{i j:Nat}{d:D}{l m:List D}{r:Rc}{x:Rk}
def Oo:Oq (.next ρ) f=f ρ:=(rfl)
def j3t:Oq (.ret r) f=.ret r:=(rfl)
def jol:ifS (a8 ae) f g ρ=f ρ:=(rfl)
def jom:ifS (a8 a9) f g ρ=g ρ:=(rfl)
def j93:Om i (a8 (.v (.o l))) ρ=.next (ρ.set i (.own l)):=(rfl)
def j94:Om i (a8 (.v (.e d))) ρ=.next (ρ.set i (.val d)):=(rfl)
def jjn:retS (a8 (.v (.o l)))=.ret (.fresh l):=(rfl)
def j9c:retS (a8 (.v (.e d)))=.ret (.val d):=(rfl)
def jjm:retS (a8 (.v (.t d)))=.ret (.val d):=(rfl)
def jgt:Nk (a8 (.own l))=.ret (.fresh l):=(rfl)
def jgs:Nk (a8 (.val d))=.ret (.val d):=(rfl)
def jko(h:i≠j):j0s i j (a8 (.own l)) ρ=.next ((ρ.set j .un).set i (.own l)):=if_neg h
def jkn:j0s i j (a8 (.val d)) ρ=.next (ρ.set i (.val d)):=(rfl)
def jlk:j4t (a8 (.v x)) ρ=.next ρ:=(rfl)
def za:O5 [i] f d ρ=f (ρ.set i (.val d)):=(rfl)
def Rz{a b:D}:O5 [i,j] f (.tup [a,b]) ρ=f ((ρ.set i (.val a)).set j (.val b)):=(rfl)
def jhl{is:List Nat}{ds:List D}:jf7 is (a8 (.i ds)) f ρ=Jz (O5 is f) ds ρ:=(rfl)
def jml(h:l.length<=1000000):j1f i (a8 (.own l)) (a8 (.v (.e d))) ρ=.next (ρ.set i (.own (l++[d]))):=by simp[j1f,Rk.st,lt_size h]
def jlj(h:l.length+m.length<=1000000):j14 i (a8 (.own l)) (a8 (.v (.o m))) ρ=.next (ρ.set i (.own (l++m))):=by simp[j14,jz,J9 h]
def Yx{j:Int}(h:ixN l.length j=a8 n):j0k i (a8 (.own l)) (a8 (.v (.e (.int j)))) (a8 (.v (.e d))) ρ=.next (ρ.set i (.own (l.set n d))):=by simp[j0k,Rk.st,Rk.d,h]
def j6t:fin (.ret r)=r:=(rfl)
def jdi:fin (.next ρ)=.val .non:=(rfl)
def jb{fu:Nat}{G:au->Option D}{T:au->Option Fi}{n:Nat}{f:au}{F:Fi}(h:T f=a8 F)(hl:ds.length=F.n)(hla:F.lam=a9:=by rfl):evP fu G T (n+1) f ds=fin (run fu (evP fu G T n) G F.body (enter F ds)):=by simp only[evP,h,if_pos hl,hla,Pn,if_false]
def Fo{fu:Nat}{G:au->Option D}{T:au->Option Fi}{n:Nat}{f:au}{F:Fi}(h:T f=a8 F)(hl:ds.length=F.n)(hla:F.lam=ae:=by rfl):evP fu G T (n+1) f ds=j80 (fin (run fu (evP fu G T n) G F.body (enter F ds))):=by simp only[evP,h,if_pos hl,hla,if_true]
def jky:j80 (.val d)=.lval d:=(rfl)
end
theorem Ze{f:D->En->So}(W:Nat->En->Prop):∀{ds:List D}{ρ:En}{k:Nat},W k ρ->(∀i d ρ,ds[i]?=a8 d->W (k+i) ρ->∃ρ',f d ρ=.next ρ'/\W (k+i+1) ρ')->∃ρ',Jz f ds ρ=.next ρ'/\W (k+ds.length) ρ'
 |[],ρ,k,h0,_=>⟨ρ,rfl,h0⟩
 |d::ds,ρ,k,h0,hs=>by
  obtain⟨ρ1,e1,w1⟩:=hs 0 d ρ rfl h0;obtain⟨ρ2,e2,w2⟩:=Ze (f:=f) W (ds:=ds) (k:=k+1) w1 λi d' ρ' hi w=>by have:=hs (i+1) d' ρ' (by simpa using hi) (by rw[show k+(i+1)=k+1+i by omega];exact w);rw[show k+(i+1)+1=k+1+i+1 by omega]at this;exact this
  refine⟨ρ2,?_,by rw[xx,show k+(ds.length+1)=k+1+ds.length by omega];exact w2⟩;rw[Jz,e1];exact e2
variable{f:D->En->So}{ρ:En}
def j4h(W:Nat->En)(h0:ρ=W 0)(hs:∀i d,ds[i]?=a8 d->f d (W i)=.next (W (i+1))):Jz f ds ρ=.next (W ds.length):=by
 obtain⟨ρ',e,w⟩:=Ze (f:=f) (λi ρ=>ρ=W i) (k:=0) (ds:=ds) (ρ:=W 0) rfl λi d ρ hi w=>⟨W (0+i+1),by rw[w,Pj];exact hs i d hi,rfl⟩
 rw[h0,e,w,Pj]
def Jv{g:En->So}{r:Rc}(W:Nat->En->Prop)(h0:W 0 ρ)(hs:∀i d ρ,ds[i]?=a8 d->W i ρ->∃ρ',f d ρ=.next ρ'/\W (i+1) ρ')(hk:∀ρ',W ds.length ρ'->fin (g ρ')=r) :
  fin (Oq (Jz f ds ρ) g)=r:=by
 obtain⟨ρ',e,w⟩:=Ze (f:=f) W (k:=0) (ds:=ds) (ρ:=ρ) h0 λi d ρ hi w=>by rw[Pj]at w ⊢;exact hs i d ρ hi w
 rw[e];rw[Pj]at w;exact hk ρ' w
def Wd{g:En->So}{Q:En->Prop}(W:Nat->En->Prop)(h0:W 0 ρ)(hs:∀i d ρ,ds[i]?=a8 d->W i ρ->∃ρ',f d ρ=.next ρ'/\W (i+1) ρ')
  (hk:∀ρ',W ds.length ρ'->∃ρ2,g ρ'=.next ρ2/\Q ρ2):∃ρ2,Oq (Jz f ds ρ) g=.next ρ2/\Q ρ2:=by
 obtain⟨ρ',e,w⟩:=Ze (f:=f) W (k:=0) (ds:=ds) (ρ:=ρ) h0 λi d ρ hi w=>by rw[Pj]at w ⊢;exact hs i d ρ hi w
 rw[e];rw[Pj]at w;exact hk ρ' w
noncomputable def jfd(d:Option D):Option W:=d.map λd=>.v (.e d)
noncomputable def jda(i:Option Int):Option W:=i.map λk=>.v (.e (.int k))
noncomputable def jla(a:Option W):Option W:=match a with
 |some (.v x)=>a8 (.v (.e (.bl x.d.isNon)))
 |_=>af
noncomputable def jek(k:Option Bool)(f:En->Option W)(ρ:En):Option W:=match k with
 |some a9=>a8 (.v (.e (.bl a9)))
 |some ae=>blW (truth (f ρ))
 |none=>af
noncomputable def orW(k:Option Bool)(f:En->Option W)(ρ:En):Option W:=match k with
 |some ae=>a8 (.v (.e (.bl ae)))
 |some a9=>blW (truth (f ρ))
 |none=>af
noncomputable def jkk(k:Option Bool):Option W:=k.map λk=>.v (.e (.bl (!k)))
noncomputable def stW(a:Option W):Option W:=match a with
 |some (.v x)=>x.st.map λd=>.v (.e d)
 |_=>af
noncomputable def jd9(k:Option Bool)(f g:En->Option W)(ρ:En):Option W:=match k with
 |some ae=>stW (f ρ)
 |some a9=>stW (g ρ)
 |none=>af
noncomputable def slW(a:Option W)(l h:Option (Option Int)):Option W:=match a,l,h with
 |some (.v x),a8 l,a8 h=>match x.sq with
  |some (ae,ds)=>a8 (.v (.o (cutD ds l h)))
  |some (a9,ds)=>if HT.sIx ds.length 0 l=0/\HT.sIx ds.length ds.length h=ds.length then af else a8 (.v (.e (.tup (cutD ds l h))))
  |none=>match x.d with
   |.str z=>if jz z.length=ae then a8 (.v (.e (.str (bR z l h))))else af
   |_=>af
 |_,_,_=>af
noncomputable def Qi(is:List Nat)(c e:En->Option W)(ρ:En)(d:D):Option (Option D):=match qz is d ρ with
 |none=>af
 |some ρ2=>match c ρ2 with
  |some (.a [])=>match e ρ2 with
   |some (.v x)=>x.st.map a8
   |_=>af
  |some (.a [y])=>match y.d with
   |.bl ae=>match e ρ2 with
    |some (.v x)=>x.st.map a8
    |_=>af
   |.bl a9=>a8 af
   |_=>af
  |_=>af
noncomputable def j89(is:List Nat)(w:Option W)(c e:En->Option W)(z:Bool)(ρ:En):Option W:=match w with
 |some (.i ds)=>if j3a is ρ=ae/\jz ds.length=ae then(Je (Qi is c e ρ) ds).bind λl=>if (z && !qw l)=ae then af else a8 (.v (.o l))else af
 |_=>af
section
variable{Γ:au->List D->Rc}{G:au->Option D}{ρ:En}{a b c e:Ex}{op:Bop}{cp:Cop}{x f:au}{i:Nat}{d:D}
def jlu:ev Γ G (.lit d) ρ=a8 (.v (.e d)):=(rfl)
def jlm:ev Γ G (.var i) ρ=j03 ρ[i]?:=(rfl)
def jhz:ev Γ G (.glob x) ρ=jfd (G x):=(rfl)
def jm0:ev Γ G (.bin op a b) ρ=Z4 op (ev Γ G a ρ) (ev Γ G b ρ):=(rfl)
def jly:ev Γ G (.cmp cp a b) ρ=j16 cp (ev Γ G a ρ) (ev Γ G b ρ):=(rfl)
def jlw:ev Γ G (.isN a) ρ=jla (ev Γ G a ρ):=(rfl)
def jm1:ev Γ G (.and a b) ρ=jek (truth (ev Γ G a ρ)) (ev Γ G b) ρ:=(rfl)
def jou:ev Γ G (.or a b) ρ=orW (truth (ev Γ G a ρ)) (ev Γ G b) ρ:=(rfl)
def jlr:ev Γ G (.not a) ρ=jkk (truth (ev Γ G a ρ)):=(rfl)
def jlv:ev Γ G (.ite c a b) ρ=jd9 (truth (ev Γ G c ρ)) (ev Γ G a) (ev Γ G b) ρ:=(rfl)
def jls:ev Γ G .nil ρ=a8 (.a []):=(rfl)
def ji2:ev Γ G (.cons a b) ρ=consW (ev Γ G a ρ) (ev Γ G b ρ):=(rfl)
def jln:ev Γ G (.tup a) ρ=Wt (ev Γ G a ρ):=(rfl)
def jlt:ev Γ G (.lst a) ρ=Vm (ev Γ G a ρ):=(rfl)
def jov:ev Γ G (.ix a b) ρ=ixW (ev Γ G a ρ) (ev Γ G b ρ):=(rfl)
def jot:ev Γ G (.sl a b c) ρ=slW (ev Γ G a ρ) (Zn (ev Γ G b ρ)) (Zn (ev Γ G c ρ)):=(rfl)
def jhy{sep:au}:ev Γ G (.join sep a) ρ=Fe sep (ev Γ G a ρ):=(rfl)
def jlo:ev Γ G (.tix a b) ρ=Oj (ev Γ G a ρ) (ev Γ G b ρ):=(rfl)
def jlp:ev Γ G (.srt a) ρ=j0d (ev Γ G a ρ):=(rfl)
def jhx:ev Γ G (.lset a) ρ=Fb (ev Γ G a ρ):=(rfl)
def jdo:ev Γ G (.callV i a) ρ=Rx Γ ρ[i]? (ev Γ G a ρ):=(rfl)
def j5d{cs:List D}{u v:D}(h:J2 [u,v]=ae):Rx Γ (a8 (.val (.fn x cs))) (a8 (.a [.e u,.e v]))=(Γ (qg x) (cs++[u,v])).lv:=if_pos h
def je7{cs:List D}{u v w:D}(h:J2 [u,v,w]=ae):Rx Γ (a8 (.val (.fn x cs))) (a8 (.a [.e u,.e v,.e w]))=(Γ (qg x) (cs++[u,v,w])).lv:=if_pos h
def jqb:(Rc.lval d).lv=a8 (.v (.e d)):=(rfl)
def ji1:ev Γ G (.dget a b) ρ=Ft (ev Γ G a ρ) (ev Γ G b ρ):=(rfl)
def jdn:ev Γ G (.dvals a) ρ=Bs (ev Γ G a ρ):=(rfl)
def jdu{ks:List zo}{ds:List D}:Bs (a8 (.v (.e (.dct ks ds))))=a8 (.v (.e (.tup ds))):=(rfl)
def jhv:ev Γ G (.minT a) ρ=Wi (ev Γ G a ρ):=(rfl)
noncomputable def rcV:Rc->Option W
 |.val d=>a8 (.v (.e d))
 |_=>af
noncomputable def jbb(Γ:au->List D->Rc)(f:au)(a:Option W):Option W:=match a with
 |some (.a rs)=>match vm rs with
  |some ds=>rcV (Γ f (ds++[.non]))
  |none=>af
 |_=>af
def jdp{f:au}:ev Γ G (.callD f a) ρ=jbb Γ f (ev Γ G a ρ):=(rfl)
def jnv{d:D}:rcV (.val d)=a8 (.v (.e d)):=(rfl)
def je8{f:au}{x:D}:jbb Γ f (a8 (.a [.e x]))=rcV (Γ f [x,.non]):=(rfl)
def ji0:ev Γ G (.enum a) ρ=Fp (ev Γ G a ρ):=(rfl)
def ji4:ev Γ G (.call f a) ρ=Jq Γ f (ev Γ G a ρ):=(rfl)
def jlz{f:Bf}:ev Γ G (.blt f a) ρ=zp f (ev Γ G a ρ):=(rfl)
def jhw{m:Mf}:ev Γ G (.meth m a b) ρ=Ny m (ev Γ G a ρ) (ev Γ G b ρ):=(rfl)
def ji3{is:List Nat}:ev Γ G (.comp is e a c) ρ=j89 is (ev Γ G a (frz a ρ)) (ev Γ G c) (ev Γ G e) (Jm a ρ) (frz a ρ):=(rfl)
def jlq:ev Γ G (.seq a) ρ=Cr (ev Γ G a ρ):=(rfl)
def jdm:ev Γ G (.range a) ρ=Ov (ev Γ G a ρ):=(rfl)
def jll:ev Γ G (.zip a b) ρ=j7a (ev Γ G a ρ) (ev Γ G b ρ):=(rfl)
end
variable{c e:En->Option W}{d':D}{α:Type}
section
variable{x y:Rk}{d:D}{i j k:Int}{l m:List D}{b:Bool}{f g:En->Option W}{ρ:En}{xs:List Rk}{op:Bop}{cp:Cop}
def jix:j03 (a8 (.val d))=a8 (.v (.e d)):=(rfl)
def jiy:j03 (a8 (.own l))=a8 (.v (.w l)):=(rfl)
def jhu:jfd (a8 d)=a8 (.v (.e d)):=(rfl)
def jlb:jda (a8 i)=a8 (.v (.e (.int i))):=(rfl)
def jp0:blW (a8 b)=a8 (.v (.e (.bl b))):=(rfl)
def jmj:Z4 op (a8 (.v (.e (.int i)))) (a8 (.v (.e (.int j))))=jda (binI op i j):=by simp only[Z4,W7,Rk.d,jda,rkW];cases binI op i j<;>rfl
def jei:binI .add i j=a8 (i+j):=(rfl)
def jec:binI .sub i j=a8 (i-j):=(rfl)
def jeg(h:(-18446744073709551616<i/\i<18446744073709551616)\/(-18446744073709551616<j/\j<18446744073709551616)):binI .mul i j=a8 (i*j):=if_pos h
def jbg(h:0<j/\j<18446744073709551616):binI .fdiv i j=a8 (i/j):=if_pos h
def jeh(h:0<j):binI .mod i j=a8 (i%j):=if_pos h
def jef(h:0<=j/\j<=1000000/\i.natAbs<18446744073709551616):binI .pow i j=a8 (i^j.toNat):=if_pos h
def jee(h:0<=j/\j<=1000000/\i.natAbs<18446744073709551616):binI .shl i j=a8 (i*2^j.toNat):=if_pos h
def jed(h:0<=j):binI .shr i j=a8 (i/2^j.toNat):=if_pos h
def jmg(h:l.length+m.length<=1000000):Z4 .add (a8 (.v (.o l))) (a8 (.v (.w m)))=a8 (.v (.o (l++m))):=by simp[Z4,W7,Rk.d,Rk.sq,jz,J9 h,rkW]
def jmd(h:l.length+m.length<=1000000):Z4 .add (a8 (.v (.w l))) (a8 (.v (.o m)))=a8 (.v (.o (l++m))):=by simp[Z4,W7,Rk.d,Rk.sq,jz,J9 h,rkW]
def jme(h:l.length+m.length<=1000000):Z4 .add (a8 (.v (.e (.tup l)))) (a8 (.v (.e (.tup m))))=a8 (.v (.e (.tup (l++m)))):=by simp[Z4,W7,Rk.d,Rk.sq,jz,J9 h,rkW]
def jnu(h:-9223372036854775808<=k/\k<9223372036854775808)(h2:l.length*k.toNat<=1000000):Z4 .mul (a8 (.v (.o l))) (a8 (.v (.e (.int k))))=a8 (.v (.o (ak k.toNat l).flatten)):=by simp only[Z4,W7,Rk.d,Rk.sq,Rk.lw];rw[if_pos ⟨h.1,h.2,decide_eq_true (J9 h2)⟩];rfl
def jjo(h:1<=k/\k<=1000000):Z4 .mul (a8 (.v (.e (.tup [d])))) (a8 (.v (.e (.int k))))=a8 (.v (.e (.tup (ak k.toNat d)))):=by simp only[Z4,W7,Rk.d,Rk.sq];rw[if_pos ⟨h.1,by omega,rfl,decide_eq_true (J9 (by simp only[xx,Tg];omega))⟩];simp only[rkW,Option.map,List.flatten_replicate_singleton]
def jm8:j16 cp (a8 (.v x)) (a8 (.v y))=blW (Qe cp x.d y.d):=(rfl)
def d_e:(Rk.e d).d=d:=(rfl)
def d_o:(Rk.o l).d=.lst l:=(rfl)
def jm9:Qe cp (.int i) (.int j)=cmpI cp i j:=by cases cp<;>rfl
def j56(h:(D.tup l).dep<=90)(h2:(D.tup m).dep<=90):Qe .eq (.tup l) (.tup m)=a8 (z9 l m):=by simp[Qe,h,h2,Ei,j50]
def j55(h:D.depL l<=90)(h2:D.depL m<=90):Qe .ne (.lst l) (.lst m)=a8 (!z9 l m):=by simp[Qe,h,h2]
def jdz(h:D.depL l<=90)(h2:D.depL m<=90):Qe .ne (.tup l) (.tup m)=a8 (!z9 l m):=by simp[Qe,h,h2]
def jas(h:i<j):cmpI .lt i j=a8 ae:=by simp[cmpI,h]
def jat(h:j<=i):cmpI .lt i j=a8 a9:=by simp[cmpI];omega
def jau(h:i<=j):cmpI .le i j=a8 ae:=by simp[cmpI,h]
def jav(h:j<i):cmpI .le i j=a8 a9:=by simp[cmpI];omega
def jaw(h:j<i):cmpI .gt i j=a8 ae:=by simp[cmpI,h]
def jax(h:i<=j):cmpI .gt i j=a8 a9:=by simp[cmpI];omega
def jay(h:j<=i):cmpI .ge i j=a8 ae:=by simp[cmpI,h]
def jaz(h:i<j):cmpI .ge i j=a8 a9:=by simp[cmpI];omega
def jb0(h:i=j):cmpI .eq i j=a8 ae:=by simp[cmpI,h]
def jb1(h:i≠j):cmpI .eq i j=a8 a9:=by simp[cmpI,h]
def jar(h:i=j):cmpI .ne i j=a8 a9:=by simp[cmpI,h]
def jic:cmpI .gt i j=a8 (decide (j<i)):=(rfl)
def K4:cmpI .ge i j=a8 (decide (j<=i)):=(rfl)
def jhj{a b:D}(h:Jy a=ae):Vm (a8 (.a [.t a,.e b]))=a8 (.v (.o [a,b])):=by simp[Vm,vm,Rk.st,h,jz,J9 (show 2<=1000000 by decide)]
def j17:cmpI .eq i j=a8 (decide (i=j)):=(rfl)
def jl9:jla (a8 (.v x))=a8 (.v (.e (.bl x.d.isNon))):=(rfl)
def jfy:truth (a8 (.v (.e (.bl b))))=a8 b:=(rfl)
def jmn:jek (a8 a9) f ρ=a8 (.v (.e (.bl a9))):=(rfl)
def jmm:jek (a8 ae) f ρ=blW (truth (f ρ)):=(rfl)
def jo2:orW (a8 a9) f ρ=blW (truth (f ρ)):=(rfl)
def jkj:jkk (a8 b)=a8 (.v (.e (.bl (!b)))):=(rfl)
def jnm:stW (a8 (.v (.e d)))=a8 (.v (.e d)):=(rfl)
def jl6:jd9 (a8 ae) f g ρ=stW (f ρ):=(rfl)
def jl7:jd9 (a8 a9) f g ρ=stW (g ρ):=(rfl)
def ji9:consW (a8 (.v x)) (a8 (.a xs))=a8 (.a (x::xs)):=(rfl)
def j8v(h:vm xs=a8 l)(hl:l.length<=1000000):Wt (a8 (.a xs))=a8 (.v (.e (.tup l))):=by simp[Wt,h,jz,J9 hl]
def Io(h:vm xs=a8 l)(hl:l.length<=1000000):Vm (a8 (.a xs))=a8 (.v (.o l)):=by simp[Vm,h,jz,J9 hl]
def jj3:Wt (a8 (.a []))=a8 (.v (.e (.tup []))):=by simp[Wt,vm,jz]
def jj2{a:D}:Wt (a8 (.a [.e a]))=a8 (.v (.e (.tup [a]))):=j8v rfl (by simp)
def jj1{a b:D}:Wt (a8 (.a [.e a,.e b]))=a8 (.v (.e (.tup [a,b]))):=j8v rfl (by simp)
def jku:Vm (a8 (.a []))=a8 (.v (.o [])):=by simp[Vm,vm,jz]
def jkt{a:D}:Vm (a8 (.a [.e a]))=a8 (.v (.o [a])):=Io rfl (by simp)
def jks{a b:D}:Vm (a8 (.a [.e a,.e b]))=a8 (.v (.o [a,b])):=Io rfl (by simp)
def jkr{a b c:D}:Vm (a8 (.a [.e a,.e b,.e c]))=a8 (.v (.o [a,b,c])):=Io rfl (by simp)
noncomputable def Fg(o:Option D):Option W:=o.map λd=>.v (.e d)
def Ff:Fg (a8 d)=a8 (.v (.e d)):=(rfl)
def j4l:ixW (a8 (.v (.e (.lst l)))) (a8 (.v (.e (.int i))))=Fg (atI l i):=(rfl)
def jad:ixW (a8 (.v (.e (.tup l)))) (a8 (.v (.e (.int i))))=Fg (atI l i):=(rfl)
def jfb:ixW (a8 (.v (.o l))) (a8 (.v (.e (.int i))))=Fg (atI l i):=(rfl)
def joi:ixW (a8 (.v (.w l))) (a8 (.v (.e (.int i))))=Fg (atI l i):=(rfl)
noncomputable def jmb(c:Option Nat):Option W:=match c with
 |some c=>a8 (.v (.e (.str ⟨#[c]⟩)))
 |none=>af
def jma{c:Nat}:jmb (a8 c)=a8 (.v (.e (.str ⟨#[c]⟩))):=(rfl)
def joj{z:au}(h:z.length<=1000000):ixW (a8 (.v (.e (.str z)))) (a8 (.v (.e (.int i))))=jmb (atI z.cps.toList i):=by simp only[ixW,Rk.sq,Rk.d,jz,J9 h,decide_true,if_true];cases atI z.cps.toList i<;>rfl
def jnq{z:au}{lo hi:Option Int}(h:z.length<=1000000):slW (a8 (.v (.e (.str z)))) (a8 lo) (a8 hi)=a8 (.v (.e (.str (bR z lo hi)))):=by simp only[slW,Rk.sq,Rk.d,jz,J9 h,decide_true,if_true]
def jmf{y z:au}(h:y.length+z.length<=1000000):Z4 .add (a8 (.v (.e (.str y)))) (a8 (.v (.e (.str z))))=a8 (.v (.e (.str (y++z)))):=by simp[Z4,W7,Rk.d,jz,J9 h,rkW]
def jok{k:Bool}:zp .int (a8 (.a [.e (.bl k)]))=a8 (.v (.e (.int (if k then 1 else 0)))):=(rfl)
def J3{ns:zo}:intsOf (ns.map D.int)=a8 ns:=by
 induction ns with
 |nil=>rfl
 |cons b bs ih=>rw[X7,intsOf,ih];rfl
def M8{ns:List au}:strsOf (ns.map D.str)=a8 ns:=by
 induction ns with
 |nil=>rfl
 |cons b bs ih=>rw[X7,strsOf,ih];rfl
def jes{ns:zo}:zp .sum (a8 (.a [.o (ns.map D.int)]))=a8 (.v (.e (.int ns.sum))):=by simp only[zp,V3,Rk.d,J3];rfl
def jnl{ns:zo}:zp .sum (a8 (.a [.w (ns.map D.int)]))=a8 (.v (.e (.int ns.sum))):=by simp only[zp,V3,Rk.d,J3];rfl
def jj8{ns:zo}:zp .sum (a8 (.a [.e (.lst (ns.map D.int))]))=a8 (.v (.e (.int ns.sum))):=by simp only[zp,V3,Rk.d,J3];rfl
def j6p{sep:au}{ts:List au}(h:fV sep ts=ae):Fe sep (a8 (.v (.o (ts.map D.str))))=a8 (.v (.e (.str (fb sep ts)))):=by simp only[Fe,Rk.d,M8,h,if_true]
def jhk{ts:List au}(h:ts.length<4000):Fb (a8 (.v (.w (ts.map D.str))))=a8 (.v (.e (.int (dd ts).length))):=by simp only[Fb,Rk.d,M8,h,if_true]
def jdt:Fp (a8 (.v (.e (.lst l))))=a8 (.i (vf l)):=(rfl)
def jds:Fp (a8 (.v (.e (.tup l))))=a8 (.i (vf l)):=(rfl)
def jea:Zn (a8 (.a []))=a8 af:=(rfl)
def je9:Zn (a8 (.a [.e (.int i)]))=a8 (a8 i):=(rfl)
variable{lo hi:Option Int}
def jnp:slW (a8 (.v (.w l))) (a8 lo) (a8 hi)=a8 (.v (.o (cutD l lo hi))):=(rfl)
def Kv(h:¬(HT.sIx l.length 0 lo=0/\HT.sIx l.length l.length hi=l.length)):slW (a8 (.v (.e (.tup l)))) (a8 lo) (a8 hi)=a8 (.v (.e (.tup (cutD l lo hi)))):=if_neg h
variable{Γ:au->List D->Rc}{fn:au}
noncomputable def rcW(r:Rc):Option W:=match r with
 |.val d=>a8 (.v (.e d))
 |.fresh l=>a8 (.v (.o l))
 |_=>af
def j7n:rcW (.val d)=a8 (.v (.e d)):=(rfl)
def j7o:rcW (.fresh l)=a8 (.v (.o l)):=(rfl)
def Yl(h:vm xs=a8 l):Jq Γ fn (a8 (.a xs))=rcW (Γ fn l):=by simp only[Jq,h];cases Γ fn l<;>rfl
def jii{a:D}:Jq Γ fn (a8 (.a [.e a]))=rcW (Γ fn [a]):=Yl rfl
def jih{a b:D}:Jq Γ fn (a8 (.a [.e a,.e b]))=rcW (Γ fn [a,b]):=Yl rfl
def jig{a b c:D}:Jq Γ fn (a8 (.a [.e a,.e b,.e c]))=rcW (Γ fn [a,b,c]):=Yl rfl
def je3:Jq Γ fn (a8 (.a [.o l]))=rcW (Γ fn [.lst l]):=Yl rfl
def je5{a:D}:Jq Γ fn (a8 (.a [.e a,.o l]))=rcW (Γ fn [a,.lst l]):=Yl rfl
noncomputable def rcT(r:Rc):Option W:=match r with
 |.val d=>a8 (.v (.t d))
 |.fresh l=>if qw l=ae then a8 (.v (.o l))else af
 |_=>af
def jex:rcT (.val d)=a8 (.v (.t d)):=(rfl)
def j75(h:vm xs=af):Jq Γ fn (a8 (.a xs))=rcT (Γ fn (xs.map Rk.d)):=by simp only[Jq,h];cases Γ fn (xs.map Rk.d)<;>rfl
def je4:Jq Γ fn (a8 (.a [.e d,.w m]))=rcT (Γ fn [d,.lst m]):=j75 rfl
def je2{a b:D}:Jq Γ fn (a8 (.a [.w m,.e a,.e b]))=rcT (Γ fn [.lst m,a,b]):=j75 rfl
def joa:zp .len (a8 (.a [.e (.lst l)]))=a8 (.v (.e (.int l.length))):=(rfl)
def jo9:zp .len (a8 (.a [.e (.tup l)]))=a8 (.v (.e (.int l.length))):=(rfl)
def jo8:zp .len (a8 (.a [.w l]))=a8 (.v (.e (.int l.length))):=(rfl)
def jf6{ns:zo}(h:ns≠[]):zp .max (a8 (.a [.o (ns.map D.int)]))=a8 (.v (.e (.int (zx ns)))):=by
 have e:ns.isEmpty=a9:=by cases ns with|nil=>exact absurd rfl h|cons _ _=>rfl
 simp only[zp,V3,Rk.d,J3,e,if_true];rfl
def j8u{ks:List zo}:Wa (ks.map λk=>D.tup (k.map D.int))=a8 ks:=by
 induction ks with
 |nil=>rfl
 |cons k ks ih=>rw[X7,Wa,ih];simp only[tupI,J3]
def jhh{ks:List zo}{k:zo}(h:ks[aN (Q0 ks) (ks.length-1)]?=a8 k):Wi (a8 (.v (.o (ks.map λk=>D.tup (k.map D.int)))))=a8 (.v (.t (.tup (k.map D.int)))):=by simp only[Wi,Rk.d,j8u,h];rfl
def jci{ks:List (Int×zo)}:j0m (ks.map pairD)=a8 ks:=by
 induction ks with
 |nil=>rfl
 |cons k ks ih=>rw[X7,j0m,ih,pairD];simp only[prI,tupI,J3,gx]
def jhg{k0:Int×zo}{ks:List (Int×zo)}{k:Int×zo}(h:(k0::ks)[aN (Vb (k0::ks)) ks.length]?=a8 k):Wi (a8 (.v (.o ((k0::ks).map pairD))))=a8 (.v (.t (pairD k))):=by
 have e:Wa ((k0::ks).map pairD)=af:=by rw[X7,Wa,show tupI (pairD k0)=af from rfl]
 simp only[Wi,Rk.d,e,jci,xx,ko,h];rfl
def Fq{ks:List zo}{k:zo}{d:D}(h:zj ks ds k=a8 d):Ft (a8 (.v (.e (.dct ks ds)))) (a8 (.v (.e (.tup (k.map D.int)))))=a8 (.v (.e d)):=by simp only[Ft,Rk.d,tupI,J3,h];rfl
def jfw:zp .tuple (a8 (.a [.o l]))=a8 (.v (.e (.tup l))):=(rfl)
def jfv:zp .tuple (a8 (.a [.w l]))=a8 (.v (.e (.tup l))):=(rfl)
def jhn:zp .list (a8 (.a [.e (.lst l)]))=a8 (.v (.o l)):=(rfl)
def jhm:zp .list (a8 (.a [.e (.tup l)]))=a8 (.v (.o l)):=(rfl)
def j63{bs:List Bool}:boolsOf (bs.map D.bl)=a8 bs:=by
 induction bs with
 |nil=>rfl
 |cons b bs ih=>rw[X7,boolsOf,ih];rfl
def jp5{bs:List Bool}:zp .all (a8 (.a [.o (bs.map D.bl)]))=a8 (.v (.e (.bl (bs.all id)))):=by simp only[zp,V3,Rk.d,j63];rfl
def j70(h:D.depL l<=90)(h2:d.dep<=90):Ny .count (a8 (.v (.w l))) (a8 (.a [.e d]))=a8 (.v (.e (.int (l.countP λe=>deq e d)))):=by simp[Ny,j7w,Rk.d,h,h2,rkW]
def jge:Cr (a8 (.v (.e (.lst l))))=a8 (.i l):=(rfl)
def jgd:Cr (a8 (.v (.e (.tup l))))=a8 (.i l):=(rfl)
def jjc:Cr (a8 (.v (.o l)))=a8 (.i l):=(rfl)
def jcf(h:-4611686018427387904<=i/\i<4611686018427387904):Ov (a8 (.a [.e (.int i)]))=a8 (.i (upto 0 i.toNat)):=if_pos h
def jj{is:List Nat}{z:Bool}{ds l:List D}(hf:j3a is ρ=ae)(hl:ds.length<=1000000)(h:Je (Qi is c e ρ) ds=a8 l)(hz:z=a9\/qw l=ae):j89 is (a8 (.i ds)) c e z ρ=a8 (.v (.o l)):=by simp only[j89,hf,jz,J9 hl,decide_true,and_self,if_true,h,lD];rcases hz with z|z<;>simp[z]
theorem j2c{f:D->Option (Option D)}{g:D->D}:∀{ds:List D},(∀d∈ds,f d=a8 (a8 (g d)))->Je f ds=a8 (ds.map g)
 |[],_=>rfl
 |d::ds,h=>by rw[Je,h d (X6 ..),j2c λd hd=>h d (xn _ hd)];rfl
def jx{i:Nat}(hc:c (ρ.set i (.val d))=a8 (.a []))(he:e (ρ.set i (.val d))=a8 (.v (.e d'))):Qi [i] c e ρ d=a8 (a8 d'):=by simp[Qi,qz,hc,he,Rk.st]
def M7{i:Nat}{b:Bool}(hc:c (ρ.set i (.val d))=a8 (.a [.e (.bl b)]))(he:b=ae->e (ρ.set i (.val d))=a8 (.v (.e d'))):Qi [i] c e ρ d=a8 (if b=ae then a8 d' else af):=by
 cases b with
 |true=>simp[Qi,qz,hc,he rfl,Rk.st,Rk.d]
 |false=>simp[Qi,qz,hc,Rk.d]
def j67{i j:Nat}{a b:D}(hc:c ((ρ.set i (.val a)).set j (.val b))=a8 (.a []))(he:e ((ρ.set i (.val a)).set j (.val b))=a8 (.v (.e d'))):Qi [i,j] c e ρ (.tup [a,b])=a8 (a8 d'):=by simp[Qi,qz,hc,he,Rk.st]
def jbt{i j:Nat}{a b:D}{k:Bool}(hc:c ((ρ.set i (.val a)).set j (.val b))=a8 (.a [.e (.bl k)]))(he:k=ae->e ((ρ.set i (.val a)).set j (.val b))=a8 (.v (.e d'))):Qi [i,j] c e ρ (.tup [a,b])=a8 (if k=ae then a8 d' else af):=by
 cases k with
 |true=>simp[Qi,qz,hc,he rfl,Rk.st,Rk.d]
 |false=>simp[Qi,qz,hc,Rk.d]
def Jt{xs:List α}{x:α}(h:xs[n]?=a8 x):atI xs (n:Int)=a8 x:=jil h
end
section
def jhr:D.isNon .non=ae:=(rfl)
def jhs{l:List D}:D.isNon (.lst l)=a9:=(rfl)
end
section
noncomputable abbrev jd(r:zo):D:=.tup (r.map .int)
noncomputable abbrev ju(rs:List zo):List D:=rs.map jd
def je{f:D->Option (Option D)}{h g:α->D}{L:List α}(q:∀x∈L,f (h x)=a8 (a8 (g x))):Je f (L.map h)=a8 (L.map g):=by
 induction L with
 |nil=>rfl
 |cons x L ih=>rw[X7,Je,q x (X6 ..),ih λy hy=>q y (xn _ hy)];rfl
def Z2{f:D->Option (Option D)}{h g:α->D}{p:α->Bool}{L:List α}(q:∀x∈L,f (h x)=a8 (if p x=ae then a8 (g x)else af)):Je f (L.map h)=a8 ((L.filter p).map g):=by
 induction L with
 |nil=>rfl
 |cons x L ih =>
  rw[X7,Je,q x (X6 ..),ih λy hy=>q y (xn _ hy)];by_cases z:p x=ae
  .rw[if_pos z,eC z];rfl
  .rw[if_neg z,eD z]
def take_snoc{l:List α}{i:Nat}{x:α}(h:l[i]?=a8 x):l.take (i+1)=l.take i++[x]:=by rw[Te,h];rfl
def Mq{β:Type}{f:α->β}{l:List α}{i:Nat}{y:β}(h:(l.map f)[i]?=a8 y):∃x,l[i]?=a8 x/\y=f x:=by
 rw[xm]at h;cases e:l[i]? with
 |none=>rw[e]at h;cases h
 |some x=>rw[e]at h;cases h;exact⟨x,rfl,rfl⟩
end
section
theorem U0:∀(a b:zo),z9 (a.map .int) (b.map .int)=decide (a=b)
 |[],[]=>by simp[Zk,vh,Yi,Yj]
 |[],_::_=>by simp[Zk,vh,Yi,Yj]
 |_::_,[]=>by simp[Zk,vh,Yi,Yj]
 |x::a,y::b=>by rw[X7,X7,vh,U0 a b];by_cases h1:x=y<;>by_cases h2:a=b<;>simp[Ej,h1,h2]
theorem Dr:∀rs:List zo,qw (ju rs)=ae
 |[]=>by simp[qw]
 |r::rs=>by rw[ju,X7,qw,<-ju,Dr rs];simp[Jy,qt]
def jam(p:zo):D.depL (p.map D.int)=0:=by
 induction p with
 |nil=>rfl
 |cons t ts ih=>simp[D.depL,D.dep,ih]
end
def jlx:True:=trivial
end L2
end
section
open PySem (Str)
open L2
noncomputable def joq:=(k9j (k9j (k9j (k9j (k9j (k9j (k9j @jgj @jlx) (k9j @j0f (k9j @jgg @jgk))) (k9j (k9j @jcb (k9j @jgh @jc7)) (k9j @jgl (k9j @jca @jgo)))) (k9j (k9j (k9j @jgn @jgi) (k9j @jhx (k9j @jgm @Cz))) (k9j (k9j @j25 (k9j @j24 @jc8)) (k9j @jgu (k9j @jcc @jlp))))) (k9j (k9j (k9j (k9j @j7b @j5j) (k9j @jm6 (k9j @jc9 @jgv))) (k9j (k9j @jdo (k9j @ji1 @jdn)) (k9j @jdu (k9j @jhv @jqb)))) (k9j (k9j (k9j @jky @jdp) (k9j @je8 (k9j @jnv @jlo))) (k9j (k9j @Oo (k9j @j3t @jol)) (k9j @jom (k9j @j93 @j94)))))) (k9j (k9j (k9j (k9j (k9j @jjn @j9c) (k9j @jjm (k9j @jgt @jgs))) (k9j (k9j @jko (k9j @jkn @jlk)) (k9j @jhl (k9j @jml @jlj)))) (k9j (k9j (k9j @j6t @jdi) (k9j @jlu (k9j @jlm @jhz))) (k9j (k9j @jm0 (k9j @jly @jlw)) (k9j @jm1 (k9j @jou @jlr))))) (k9j (k9j (k9j (k9j @jlv @jls) (k9j @ji2 (k9j @jln @jlt))) (k9j (k9j @jov (k9j @jot @ji4)) (k9j @jlz (k9j @jhw @ji3)))) (k9j (k9j (k9j @jlq @jdm) (k9j @jll (k9j @jix @jiy))) (k9j (k9j @jhu (k9j @jlb @jp0)) (k9j @jmj (k9j @jei @jec))))))) (k9j (k9j (k9j (k9j (k9j (k9j @jeg @jbg) (k9j @jeh (k9j @jef @jee))) (k9j (k9j @jed (k9j @jmg @jmd)) (k9j @jme (k9j @jnu @jm8)))) (k9j (k9j (k9j @d_e @d_o) (k9j @jm9 (k9j @jas @jat))) (k9j (k9j @jau (k9j @jav @jaw)) (k9j @jax (k9j @jay @jaz))))) (k9j (k9j (k9j (k9j @jb0 @jb1) (k9j @jar (k9j @jl9 @jjo))) (k9j (k9j @jfy (k9j @jmn @jmm)) (k9j @jo2 (k9j @jkj @jnm)))) (k9j (k9j (k9j @jl6 @jl7) (k9j @ji9 (k9j @jj3 @jj2))) (k9j (k9j @jj1 (k9j @jku @jkt)) (k9j @jks (k9j @jkr @Ff)))))) (k9j (k9j (k9j (k9j (k9j @j4l @jad) (k9j @jfb (k9j @joi @jea))) (k9j (k9j @je9 (k9j @jnp @j7n)) (k9j @j7o (k9j @jex @jii)))) (k9j (k9j (k9j @jih @jig) (k9j @je3 (k9j @je5 @je4))) (k9j (k9j @joa (k9j @jo9 @jo8)) (k9j @jfw (k9j @jfv @jhn))))) (k9j (k9j (k9j (k9j @jhm @jp5) (k9j @jge (k9j @jgd @jjc))) (k9j (k9j @jcf (k9j @jhy @ji0)) (k9j @jgf (k9j @jj9 @jiz)))) (k9j (k9j (k9j @jma (k9j @joj @jnq)) (k9j @jmf (k9j @jok @jes))) (k9j (k9j @jnl (k9j @jj8 @jdt)) (k9j @jds (k9j @jhr @jhs))))))))
local macro_rules | `(tactic| walk_at "go")=>`(tactic| try simp (disch:=first | omega | assumption | (simp only [List.length_map,List.length_append,List.length_cons,List.length_nil,List.length_take,List.length_drop,List.length_reverse] <;> omega)) only [joq,Zk,beq_self_eq_true,frz,Jm,jdg,List.getElem?_cons_zero,List.getElem?_cons_succ,List.set_cons_zero,List.set_cons_succ,List.map_cons,List.map_nil,List.cons_append,List.nil_append,List.replicate,List.length_map,List.length_append,List.length_cons,List.length_nil,Bool.not_true,Bool.not_false,bne_self_eq_false,Nat.reduceSub,Nat.reduceAdd,Int.reduceToNat,Int.reducePow])
local macro_rules | `(tactic| ext)=>`(tactic| walk_at "go")
local macro_rules | `(tactic| erw [$r])=>`(tactic| (rw [$r]; ext)) | `(tactic| erw [$r,$rs,*])=>`(tactic| (rw [$r]; ext; erw [$rs,*]))
namespace KL
noncomputable def Zw:Sx:=(.seq (.ret (.call "all_choices" (.cons (.comp [1] (.ite (.cmp .eq (.var 1) (.glob "NOT_TOLD")) (.glob "ANSWERS") (.tup (.cons (.var 1) .nil))) (.seq (.var 0)) .nil) .nil))) .nop)
noncomputable def fP_rows_in:Fi:=⟨1,2,Zw,a9⟩
noncomputable def Ja:Sx:=(.seq (.set 1 (.lst (.cons (.tup .nil) .nil))) (.seq (.loop [2] (.seq (.var 0)) (.seq (.set 3 (.lst .nil)) (.seq (.loop [4] (.seq (.var 1)) (.seq (.ext 3 (.comp [5] (.bin .add (.var 4) (.tup (.cons (.var 5) .nil))) (.seq (.var 2)) .nil)) .nop)) (.seq (.mov 1 3) .nop)))) (.seq (.retV 1) .nop)))
noncomputable def fP_all_choices:Fi:=⟨1,6,Ja,a9⟩
noncomputable def Us:Sx:=(.seq (.ife (.cmp .lt (.var 1) (.blt .len (.cons (.var 0) .nil))) (.seq (.ret (.ix (.var 0) (.var 1))) .nop) .nop) (.seq (.set 2 (.bin .add (.lit (.int 70001)) (.bin .mul (.bin .mul (.lit (.int 911)) (.var 1)) (.var 1)))) (.seq (.ife (.cmp .gt (.blt .len (.cons (.var 0) .nil)) (.lit (.int 0))) (.seq (.set 2 (.bin .add (.var 2) (.bin .mul (.bin .mod (.ix (.var 0) (.lit (.int 0))) (.lit (.int 9973))) (.bin .add (.bin .mul (.lit (.int 3)) (.var 1)) (.lit (.int 1)))))) .nop) .nop) (.seq (.retV 2) .nop))))
noncomputable def fL_cell:Fi:=⟨2,3,Us,a9⟩
noncomputable def Ur:Sx:=(.seq (.set 2 (.lst .nil)) (.seq (.loop [3] (.range (.cons (.var 0) .nil)) (.seq (.set 2 (.bin .add (.lst (.cons (.bin .mod (.var 1) (.lit (.int 3))) .nil)) (.var 2))) (.seq (.set 1 (.bin .fdiv (.var 1) (.lit (.int 3)))) .nop))) (.seq (.ret (.blt .tuple (.cons (.var 2) .nil))) .nop)))
noncomputable def fL_part:Fi:=⟨2,4,Ur,a9⟩
variable{fu n k:Nat}
section
variable{G:au->Option D}{T:au->Option Fi}
noncomputable def q9(ns:zo)(k:Nat):Int:=match ns[k]? with
 |some v=>v
 |none=>match ns with
  |[]=>70001+911*k*k
  |v::_=>70001+911*k*k+v%9973*(3*k+1)
def cell_spec  (hT:T "_law_cell" = a8 fL_cell) {ns:zo}  (hk:k<=100):evP fu G T (n+1) "_law_cell" [.lst (ns.map .int),.int k]=.val (.int (q9 ns k)):=by
 rw[jb (F:=fL_cell) hT rfl];simp only[fL_cell,Us,enter];by_cases h:k<ns.length
 .have e:atI (ns.map D.int) (k:Int)=a8 (.int ns[k]):=Jt (by simp[h]);have q:q9 ns k=ns[k]:=by simp[q9,h]
  ext;simp only[e,Ff,j9c,j3t,j6t,q]
 .cases ns with
  |nil =>ext;simp[q9]
  |cons v r =>
   have e:atI (D.int v::r.map D.int) 0=a8 (.int v):=by simp[atI,ixN]
   have q:q9 (v::r) k=70001+911*k*k+v%9973*(3*k+1):=by unfold q9;rw[Xc nofun]
   rw[X7];rw[xx]at h;ext;simp only[e];ext;rw[q]
def part_spec {m:Nat} (hT:T "_law_part" = a8 fL_part) {z:Int} (hm:m<=6):evP fu G T (n+1) "_law_part" [.int m,.int z]=.val (.tup ((j7 3 m z).map .int)):=by
 rw[jb (F:=fL_part) hT rfl];simp only[fL_part,Ur,enter];ext;rw[j4h (λi=>[.val (.int m),.val (.int (z/3^i)),.own ((j7 3 i z).map .int),if i=0 then .un else .val (.int ((i:Int)-1))]) (by simp[j7])]
 .ext;rw[jf];simp
 .intro i d hi;obtain⟨h1,rfl⟩:=Qh hi;have hl:(j7 3 i z).length=i:=jt 3 i z;simp only[za];ext;rw[j4x z 3 (by decide),j7];simp
def jbz(f:zo):step [] f=[]:=rfl
def j90(acc:List zo)(a f:zo):step (acc++[a]) f=step acc f++f.map λx=>a++[x]:=by simp[step]
def j57(fs:List zo)(f:zo):qx (fs++[f])=step (qx fs) f:=by simp[qx]
def j3p(acc:List zo){f:zo}(h:f.length<=k):(step acc f).length<=acc.length*k:=by
 unfold step;induction acc with
 |nil=>simp
 |cons a acc ih =>rw[List.flatMap_cons,Xh,xg,xx,mr];omega
def Dw{fs:List zo}(h:∀f∈fs,f.length<=k):(qx fs).length<=k^fs.length:=by
 have go:∀(fs acc:List zo),(∀f∈fs,f.length<=k)->(fs.foldl step acc).length<=acc.length*k^fs.length:=by
  intro fs;induction fs with
  |nil=>intro acc _;simp
  |cons f fs ih =>intro acc hf;have h1:=ih (step acc f) λg hg=>hf g (xn _ hg);have h2:=j3p acc (hf f (X6 ..));rw[Tp,xx,cq,eN (k^fs.length) k,<-lS];exact Xn h1 (jL _ h2)
 have:=go fs [[]] h;simpa [qx]using this
def j58{fs:List zo}{r:zo}(h:r∈qx fs):r.length=fs.length:=by
 have go:∀(fs acc:List zo) (k:Nat),(∀a∈acc,a.length=k)->∀r∈fs.foldl step acc,r.length=k+fs.length:=by
  intro fs;induction fs with
  |nil=>intro acc k ha r hr;exact ha r hr
  |cons f fs ih =>
   intro acc k ha r hr;have:=ih (step acc f) (k+1) (λa hm=>by
    obtain⟨b,hb,hx⟩:=List.mem_flatMap.mp hm
    obtain⟨x,_,rfl⟩:=xr.mp hx
    rw[Xh,ha b hb];rfl) r hr
   rw[this,xx];omega
 have:=go fs [[]] 0 (λa ha=>by rw[xu.mp ha];rfl) r h;omega
def Zm  (hT:T "all_choices" = a8 fP_all_choices) {fs:List zo} (hf:∀f∈fs,f.length<=3) (hl:fs.length<=6):evP fu G T (n+1) "all_choices" [.lst (ju fs)]=.fresh (ju (qx fs)):=by
 rw[jb (F:=fP_all_choices) hT rfl];simp only[fP_all_choices,Ja,enter];ext;have small:∀i,(qx (fs.take i)).length<=729:=λi=>by
  have h:=Dw (fs:=fs.take i) (k:=3) λf hm=>hf f (List.mem_of_mem_take hm);have h2:(fs.take i).length<=6:=by rw[pq];omega
  exact Xn h (T7 (by decide) h2)
 refine Jv (λi ρ=>∃s2 s4,ρ=[.val (.lst (ju fs)),.own (ju (qx (fs.take i))),s2,.un,s4,.un]) ⟨.un,.un,by simp[qx,ju,jd]⟩ ?_ ?_
 .rintro i d ρ hi ⟨s2,s4,rfl⟩;obtain⟨f,hfi,rfl⟩:=Mq hi;have hf3:f.length<=3:=hf f (Xp hfi);have sm:=small i;simp only[za];ext;refine Wd (λj ρ=>∃s4,ρ=[.val (.lst (ju fs)),.val (.lst (ju (qx (fs.take i)))),.val (jd f),.own (ju (step ((qx (fs.take i)).take j) f)),s4,.un]) ⟨s4,by simp[jbz]⟩ ?_ ?_
  .rintro j d ρ hj ⟨s4,rfl⟩;obtain⟨a,haj,rfl⟩:=Mq hj;have hs:=j3p ((qx (fs.take i)).take j) hf3;have hs2:((qx (fs.take i)).take j).length<=729:=by rw[pq];omega
   have ha:a.length<=6:=by have:=j58 (Xp haj);rw[pq]at this;omega
   simp only[za];ext;rw[jj (l:=(f.map λx=>jd (a++[x]))) (by rfl) ?_ ?_ (.inl rfl)]
   .ext;refine⟨_,rfl,.val (jd a),?_⟩;rw[take_snoc haj,j90];simp only[ju,Xi,Xf];rfl
   .simp only[xg];omega
   .refine je λx _=>jx (by ext) ?_;ext;simp
  .rintro ρ' ⟨s4,rfl⟩;ext;refine⟨_,rfl,.val (jd f),s4,?_⟩;rw[take_snoc hfi,j57,S7]
 .rintro ρ' ⟨s2,s4,rfl⟩;ext;rw[S7]
def jdj(t:Int):(Vo t).length<=3:=by unfold Vo;split<;>simp
def Dm  (hT:T "rows_in" = a8 fP_rows_in) (hC:T "all_choices" = a8 fP_all_choices) (gNT:G "NOT_TOLD" = a8 (.int 2)) (gAN:G "ANSWERS" = a8 (.tup [.int 0,.int 1])) {p:zo} (hp:p.length<=6):evP fu G T (n+2) "rows_in" [jd p]=.fresh (ju (qx (p.map Vo))):=by
 rw[jb (F:=fP_rows_in) hT rfl];simp only[fP_rows_in,Zw,enter];ext;rw[jj (l:=ju (p.map Vo)) (by rfl) ?_ ?_ (.inl rfl)]
 .ext;rw[Zm hC (λf hf=>by obtain⟨t,_,rfl⟩:=xr.mp hf;exact jdj t) (by rw[xg];exact hp)];ext
 .rw[xg];omega
 .rw[ju,Xf];refine je λt _=>jx (by ext) ?_;by_cases h:t=2
  .ext;simp only[gNT];ext;simp only[gAN];ext;simp[Vo,h]
  .ext;simp only[gNT];ext;simp[Vo,h]
theorem Lr:∀{p r:zo},p.length=r.length->(fits p r=ae ↔ ∀k,k<p.length->p.getD k 0=2\/p.getD k 0=r.getD k 0)
 |[],[],_=>by simp[fits]
 |[],_::_,h=>by simp at h
 |_::_,[],h=>by simp at h
 |t::ts,x::xs,h=>by
  have ih:=Lr (p:=ts) (r:=xs) (by simpa using h);rw[fits,Xl,ih];constructor
  .rintro⟨h1,h2⟩ k hk;cases k with
   |zero=>simpa using h1
   |succ k=>simpa using h2 k (by simpa using hk)
  .intro q;exact⟨by simpa using q 0 (by simp),λk hk=>by simpa using q (k+1) (by simpa using hk)⟩
def zm(n:Nat):upto 0 n=(ao n).map λ(k:Nat)=>D.int (0+(k:Int)):=rfl
def Ld{m:Nat}(h:m<=6):(1:Int)<=2^m/\(2:Int)^m<=64:=by
 have:m=0\/m=1\/m=2\/m=3\/m=4\/m=5\/m=6:=by omega
 rcases this with e|e|e|e|e|e|e<;>subst e<;>decide
def Fj{p:zo}(h:k<p.length):atI (p.map D.int) (0+(k:Int))=a8 (.int (p.getD k 0)):=by rw[Xz];refine Jt ?_;rw[xm,kh h,xf,kh h];rfl
end
end KL
namespace KV
open PySem
noncomputable def letters:List Nat:=[109,100,107,98,118,113,104,122,99,103,114,110,97,112,120,111,108,115,105,101,102,119,116,121,106,117]
def jhi:("mdkbvqhzcgrnapxolsiefwtyju":au).cps.toList=letters:=by decide +kernel
noncomputable def lt(n:Int):Nat:=letters.getD n.toNat 0
noncomputable def sL(l:List Nat):au:=⟨l.toArray⟩
variable{l:List Nat}
def Ji:(sL l).length=l.length:=by simp[sL,mZ]
def jje{m:List Nat}(h:sL l=sL m):l=m:=by have:=congrArg (λz=>z.cps.toList) h;simpa [sL]using this
def We{m:List Nat}:sL l++sL m=sL (l++m):=by show(⟨l.toArray++m.toArray⟩:au)=_;simp[sL]
def Iv:∀l:List Nat,fb ("":au) (l.map λc=>(⟨#[c]⟩:au))=sL l:=by
 intro l;show n0 _ _=_;rw[StrLaws.glued_eq_join];induction l with
 |nil=>rfl
 |cons a r ih =>
  cases r with
  |nil=>rfl
  |cons b r =>
   rw[X7,X7,Str.join,<-X7 (f:=λc=>(⟨#[c]⟩:au)),ih]
   .show(⟨(#[a] ++ #[])++(b::r).toArray⟩:au)=⟨(a::b::r).toArray⟩
    simp
   .intro z;cases z
def jjf:(sL l).cps.toList=l:=by simp[sL]
variable{k:Nat}
def Eb{n:Nat}:aK af (a8 (k:Int)) 1 n=aK (a8 ((0:Nat):Int)) (a8 (k:Int)) 1 n:=by
 have e:max (0:Int) (min 0 (n:Int))=0:=by omega
 simp[aK,e]
def Ec{n:Nat}:aK (a8 (k:Int)) af 1 n=aK (a8 (k:Int)) (a8 (n:Int)) 1 n:=by
 have e:max (0:Int) (min (n:Int) (n:Int))=n:=by omega
 have e2:¬((n:Int)<0):=by omega
 simp[aK,e,e2]
def j3r{a b:Nat}{lo hi:Option Int}(he:aK lo hi 1 (sL l).length=aK (a8 (a:Int)) (a8 (b:Int)) 1 (sL l).length)(hab:a<=b)(hb:b<=l.length):bR (sL l) lo hi=sL ((l.drop a).take (b-a)):=by
 have hb':b<=(sL l).length:=by rw[Ji];exact hb
 have q:=StrLaws.sliced_plain (sL l) hab hb';rw[jjf]at q;have e1:=StrLaws.strSliceIndices_plain hab hb';unfold bR;rw[he];by_cases h:((1:Int)==1&&(aK (a8 (a:Int)) (a8 (b:Int)) 1 (sL l).length).length==(sL l).length)=ae
 .rw[if_pos h];rw[e1,Ji,xg,Xg]at h;have:b-a=l.length:=by simpa using h
  have ha:a=0:=by omega
  subst ha;rw[this,dD,S7]
 .rw[if_neg h,q];rfl
def Kr(h:k<=l.length):bR (sL l) af (a8 (k:Int))=sL (l.take k):=by rw[j3r (a:=0) (b:=k) Eb (S9 _) h];simp
def Ks(h:k<=l.length):bR (sL l) (a8 (k:Int)) af=sL (l.drop k):=by rw[j3r (a:=k) (b:=l.length) (by rw[Ec,Ji]) h (X8 _),T9 (by rw[Tv];omega)]
def Bd  (h:l.length<=100):fV ("":au) (l.map λc=>(⟨#[c]⟩:au))=ae:=by
 unfold fV;rw[ku];have e:∀(r:List Nat)(k:Nat),(r.map λc=>(⟨#[c]⟩:au)).foldl (λ(x:Nat) (y:au)=>x+y.length+("":au).length) k=k+r.length:=by
  intro r;induction r with
  |nil=>intro k;rfl
  |cons a r ih =>intro k;rw[X7,Tp,ih,xx];show k+1+0+r.length=_;omega
 show cU _=a9;have:=e l 0;rw[List.foldl_toArray];show cU (dC (λ(x:Nat) (y:au)=>x+y.length+("":au).length) 0 _)=a9;rw[this];unfold cU;simp;have:=eY;omega
noncomputable def Ug(c:Int):List Nat:=(ao 8).map λ(k:Nat)=>lt (c/(4+5*(k:Int))%26)
noncomputable def Yn(c:Int)(s:Nat):List Nat:=(ao s).map λ(k:Nat)=>lt ((c/32+3*(k:Int)*(k:Int)+(k:Int))%26)
def Zf(c:Int):(Ug c).length=8:=by simp[Ug]
def vg(c:Int)(s:Nat):(Yn c s).length=s:=by simp[Yn]
noncomputable def stN(c:Int)(m:Nat):Nat:=(c/8%(9-(m:Int))).toNat
noncomputable def szN(c:Int):Nat:=(c/4%8).toNat
noncomputable def atN(c:Int):Nat:=(c/512%((szN c:Int)+1)).toNat
noncomputable def wrd(c:Int)(m k:Nat):List Nat :=
 if c%4<2 then(if c%4=0 then(Ug c).take (stN c m+k+1) else(Ug c).drop (8-stN c m-k-1))
 else(Yn c (szN c)).take (atN c)++lt ((c/9+7*(k:Int))%26)::(Yn c (szN c)).drop (atN c)
noncomputable def Zb(c:Int)(m:Nat):List au:=(ao m).map λ(k:Nat)=>sL (wrd c m k)
def jkq{a b:Int}(ha:0<=a/\a<26)(hb:0<=b/\b<26)(h:lt a=lt b):a=b:=by
 obtain⟨i,rfl⟩:∃i:Nat,a=(i:Int):=⟨a.toNat,by omega⟩
 obtain⟨j,rfl⟩:∃j:Nat,b=(j:Int):=⟨b.toNat,by omega⟩
 have key:∀i j:Fin 26,letters.getD i.val 0=letters.getD j.val 0->i=j:=by decide +kernel
 have:=key ⟨i,by omega⟩ ⟨j,by omega⟩ h;have:=congrArg Fin.val this;simp at this;omega
variable{m:Nat}{c:Int}
def jet(h:m<=6):stN c m+m<=8:=by unfold stN;have h1:=Tq (c/8) (show(9-(m:Int))≠0 by omega);have h2:=Sw (c/8) (show(0:Int)<9-(m:Int)by omega);omega
def jfk(c:Int):atN c<=szN c/\szN c<=7:=by unfold atN;have h1:=Tq (c/512) (show((szN c:Int)+1)≠0 by omega);have h2:=Sw (c/512) (show(0:Int)<(szN c:Int)+1 by omega);refine⟨by omega,?_⟩;unfold szN;omega
def jfu{i j:Nat}(hm:m<=6)(hi:i<m)(hj:j<m)(h:wrd c m i=wrd c m j):i=j:=by
 have s:=jet (c:=c) hm;have a:=jfk c;have l8:=Zf c;have ls:=vg c (szN c);unfold wrd at h;split at h
 .split at h
  .have:=congrArg d8 h;rw[pq,pq]at this;omega
  .have:=congrArg d8 h;rw[Tv,Tv]at this;omega
 .have h2:=List.append_cancel_left h;have h3:=(List.cons.inj h2).1;have:=jkq nofun nofun h3;omega
def j2m(c:Int)(m:Nat):(Zb c m).length=m:=by simp[Zb]
def j3f(hm:m<=6):(Zb c m).Nodup:=by unfold Zb;unfold List.Nodup;rw[kr];exact List.Pairwise.imp_of_mem (λhi hj h e=>h (jfu hm (Xa.mp hi) (Xa.mp hj) (jje e))) (Tz (n:=m))
end KV
open PySem (Str)
open L2
namespace KW
open KL KV PySem
noncomputable def M3:Sx:=(.seq (.set 3 (.comp [4] (.var 4) (.range (.cons (.blt .len (.cons (.var 0) .nil)) .nil)) (.cons (.cmp .eq (.bin .mod (.bin .fdiv (.var 2) (.bin .shl (.lit (.int 1)) (.var 4))) (.lit (.int 2))) (.lit (.int 1))) .nil))) (.seq (.set 5 (.blt .sum (.cons (.comp [4] (.bin .shl (.ix (.var 0) (.var 4)) (.var 4)) (.seq (.var 3)) .nil) .nil))) (.seq (.set 6 (.blt .sum (.cons (.comp [4,7] (.bin .shl (.var 7) (.var 4)) (.enum (.var 0)) .nil) .nil))) (.seq (.ife (.cmp .eq (.var 1) (.lit (.int 1))) (.seq (.ret (.blt .int (.cons (.cmp .gt (.blt .sum (.cons (.var 0) .nil)) (.bin .mod (.bin .fdiv (.var 2) (.lit (.int 64))) (.blt .len (.cons (.var 0) .nil)))) .nil))) .nop) .nop) (.seq (.ife (.cmp .eq (.var 1) (.lit (.int 2))) (.seq (.set 8 (.bin .mod (.bin .mul (.bin .add (.var 6) (.lit (.int 1))) (.bin .add (.lit (.int 1)) (.bin .mod (.var 2) (.lit (.int 1000003))))) (.lit (.int 2147483629)))) (.seq (.ret (.blt .int (.cons (.cmp .eq (.bin .mod (.bin .fdiv (.var 8) (.lit (.int 32))) (.lit (.int 5))) (.lit (.int 0))) .nil))) .nop)) .nop) (.seq (.ife (.cmp .eq (.var 1) (.lit (.int 3))) (.seq (.set 8 (.bin .mul (.bin .add (.bin .add (.bin .mul (.var 5) (.var 5)) (.bin .mul (.lit (.int 17)) (.var 5))) (.lit (.int 69621))) (.bin .add (.lit (.int 1)) (.bin .mod (.var 2) (.lit (.int 1000003)))))) (.seq (.ret (.bin .mod (.bin .fdiv (.bin .mod (.var 8) (.lit (.int 2147483647))) (.lit (.int 16))) (.lit (.int 2)))) .nop)) .nop) (.seq (.ife (.cmp .eq (.var 1) (.lit (.int 4))) (.seq (.ret (.bin .mod (.bin .add (.blt .sum (.cons (.comp [4] (.ix (.var 0) (.var 4)) (.seq (.var 3)) .nil) .nil)) (.bin .fdiv (.var 2) (.lit (.int 64)))) (.lit (.int 2)))) .nop) .nop) (.seq (.set 8 (.bin .mul (.bin .add (.bin .mul (.var 6) (.var 6)) (.lit (.int 48271))) (.bin .add (.bin .add (.bin .mod (.var 2) (.lit (.int 1000003))) (.var 6)) (.lit (.int 1))))) (.seq (.ret (.bin .mod (.bin .fdiv (.bin .mod (.var 8) (.lit (.int 2147483647))) (.lit (.int 64))) (.lit (.int 2)))) .nop)))))))))
noncomputable def fL_bit:Fi:=⟨3,9,M3,a9⟩
variable{row:zo}{c:Int}
section
variable{G:au->Option D}{T:au->Option Fi}
def j37 {n:Int} (h:0<=n/\n<26):atI ("mdkbvqhzcgrnapxolsiefwtyju":au).cps.toList n=a8 (lt n):=by
 obtain⟨k,rfl⟩:∃k:Nat,n=(k:Int):=⟨n.toNat,by omega⟩
 have hk:k<letters.length:=by show k<26;omega
 rw[jhi];refine Jt ?_;unfold lt;rw[kh hk,X5,xf,kh hk];rfl
def joc:("mdkbvqhzcgrnapxolsiefwtyju":au).length<=1000000:=by decide +kernel
theorem j3n:∀{l:zo},(∀x∈l,0<=x/\x<=32)->0<=l.sum/\l.sum<=32*(l.length:Int)
 |[],_=>by simp
 |a::r,h=>by have h1:=h a (X6 ..);have h2:=j3n (l:=r) λx hx=>h x (xn _ hx);rw[gk,xx];omega
def p2k{k:Nat}(h:k<=5):0<(2:Int)^k/\(2:Int)^k<=32:=by
 have:k=0\/k=1\/k=2\/k=3\/k=4\/k=5:=by omega
 rcases this with e|e|e|e|e|e<;>subst e<;>decide
noncomputable def Uc(row:zo)(c:Int):List Nat:=(ao row.length).filter λ(k:Nat)=>decide (c/(1*2^(0+(k:Int)).toNat)%2=1)
noncomputable def Wj(row:zo)(c:Int):zo:=(Uc row c).map λ(k:Nat)=>row.getD k 0*2^(0+(k:Int)).toNat
noncomputable def byL(row:zo):zo:=row.zipIdx.map λp=>p.1*2^((p.2:Nat):Int).toNat
def t0k(k:Nat):(0+(k:Int)).toNat=k:=by omega
def j8d(h01:∀x∈row,x=0\/x=1)(k:Nat):row.getD k 0=0\/row.getD k 0=1:=by
 rw[xf];cases h:row[k]? with
 |none=>exact .inl rfl
 |some v=>exact h01 v (Xp h)
def jhp(h01:∀x∈row,x=0\/x=1)(hl:row.length<=6):0<=(Wj row c).sum/\(Wj row c).sum<=192:=by
 have h:=j3n (l:=Wj row c) λx hx=>by
  obtain⟨k,hk,rfl⟩:=xr.mp hx;have hk2:=Xa.mp (Xk.mp hk).1;have p:=p2k (k:=k) nofun
  rw[t0k];rcases j8d h01 k with e|e<;>rw[e]<;>omega
 have l:(Wj row c).length<=6:=by unfold Wj Uc;rw[xg];exact Xn (Pu _ _) (by rw[Xg];exact hl)
 omega
def joy(h01:∀x∈row,x=0\/x=1)(hl:row.length<=6):0<=(byL row).sum/\(byL row).sum<=192:=by
 have h:=j3n (l:=byL row) λx hx=>by
  obtain⟨p,hp,rfl⟩:=xr.mp hx;obtain⟨a,k⟩:=p;have hm:=kQ hp;have p:=p2k (k:=k) nofun
  show 0<=a*2^((k:Nat):Int).toNat/\a*2^((k:Nat):Int).toNat<=32;rw[X5];have:=h01 a (by rw[hm.2.2];exact Xx _);rcases this with e|e<;>rw[e]<;>omega
 have l:(byL row).length<=6:=by unfold byL;rw[xg,cE];exact hl
 omega
def jmi {fu n:Nat} (hT:T "_law_bit" = a8 fL_bit)  {kd:Int} (h01:∀x∈row,x=0\/x=1) (hl:1<=row.length/\row.length<=6):∃b:Int,(b=0\/b=1)/\evP fu G T (n+1) "_law_bit" [.lst (row.map D.int),.int kd,.int c]=.val (.int b):=by
 rw[jb (F:=fL_bit) hT rfl];simp only[fL_bit,M3,enter];have kb:=jhp (c:=c) h01 hl.2;have bb:=joy h01 hl.2;have sl:(Uc row c).length<=6:=by unfold Uc;exact Xn (Pu _ _) (by rw[Xg];exact hl.2)
 have get:∀k:Nat,k∈Uc row c->atI (row.map D.int) (0+(k:Int))=a8 (.int (row.getD k 0)):=λk hk=>Fj (Xa.mp (Xk.mp hk).1);ext;rw[jj (l:=(Uc row c).map λ(k:Nat)=>D.int (0+(k:Int))) (by rfl) (by rw[jf];omega) ?_ (.inl rfl)];rotate_left
 .rw[X5,zm,Uc];refine Z2 λk hk'=>?_;have hk:=Xa.mp hk';have p:0<(2:Int)^(0+(k:Int)).toNat/\(2:Int)^(0+(k:Int)).toNat<=32:=by rw[t0k];exact p2k nofun
  refine M7 ?_ λ_=>?_
  .ext;simp only[j17];ext
  .ext
 ext;rw[jj (l:=(Wj row c).map D.int) (by rfl) (by rw[xg];omega) ?_ (.inr (qt _))];rotate_left
 .rw[Wj,Xf];refine je λk hk'=>jx (by ext) ?_;have b:=j8d h01 k;have hk:=Xa.mp (Xk.mp hk').1;ext;rw[get k hk'];ext;rfl
 ext;rw[jj (l:=(byL row).map D.int) (by rfl) (by simp only[vf,xg,cE];omega) ?_ (.inl rfl)];rotate_left
 .rw[byL,Xf,vf,List.zipIdx_map,Xf];refine je λq hq=>?_;obtain⟨a,k⟩:=q;have hm:=kQ hq;have h1:=h01 a (by rw[hm.2.2];exact Xx _);show Qi _ _ _ _ (D.tup [.int (k:Int),.int a])=_;refine j67 (by ext) ?_;ext;rfl
 ext;generalize (Wj row c).sum=kept at *;generalize (byL row).sum=byr at *;by_cases k1:kd=1
 .refine⟨if decide (c/64%(row.length:Int)<row.sum)=ae then 1 else 0,by split<;>simp,?_⟩;ext;simp only[jic];ext
 .by_cases k2:kd=2
  .refine⟨if decide ((byr+1)*(1+c%1000003)%2147483629/32%5=0)=ae then 1 else 0,by split<;>simp,?_⟩;ext;simp only[j17];ext
  .by_cases k3:kd=3
   .refine⟨(kept*kept+17*kept+69621)*(1+c%1000003)%2147483647/16%2,by omega,?_⟩;ext
   .by_cases k4:kd=4
    .refine⟨(((Uc row c).map λ(k:Nat)=>row.getD k 0).sum+c/64)%2,by omega,?_⟩;ext;rw[jj (l:=((Uc row c).map λ(k:Nat)=>row.getD k 0).map D.int) (by rfl) (by rw[xg];omega) ?_ (.inr (qt _))]
     .ext
     .rw[Xf];refine je λk hk'=>jx (by ext) ?_;ext;rw[get k hk'];ext;rfl
    .refine⟨(byr*byr+48271)*(c%1000003+byr+1)%2147483647/64%2,by omega,?_⟩;ext
noncomputable def K5(fu:Nat)(G:au->Option D)(T:au->Option Fi)(n:Nat)(row:zo)(kd c:Int):Int:=match evP fu G T (n+1) "_law_bit" [.lst (row.map D.int),.int kd,.int c] with
 |.val (.int b)=>b
 |_=>0
def j5f {fu n:Nat} (hT:T "_law_bit" = a8 fL_bit)  {kd:Int} (h01:∀x∈row,x=0\/x=1) (hl:1<=row.length/\row.length<=6):(K5 fu G T n row kd c=0\/K5 fu G T n row kd c=1)/\evP fu G T (n+1) "_law_bit" [.lst (row.map D.int),.int kd,.int c]=.val (.int (K5 fu G T n row kd c)):=by obtain⟨b,hb,e⟩:=jmi (fu:=fu) (n:=n) (G:=G) hT h01 hl (kd:=kd) (c:=c);unfold K5;rw[e];exact⟨hb,rfl⟩
def j85(m:Nat)(z:Int):∀x∈j7 2 m z,x=0\/x=1:=by
 intro x hx;obtain⟨i,hi⟩:=List.mem_iff_getElem?.mp hx;have hl:i<m:=by have:=(Xe.mp hi).1;rw[jt]at this;exact this
 rw[Zj 2 hl]at hi;cases hi;omega
noncomputable def Qm(ns:zo)(a most:Nat):Nat:=(1+q9 ns a%(most:Int)).toNat
def j6o{ns:zo}{a most:Nat}(h:1<=most/\most<=6):1<=Qm ns a most/\Qm ns a most<=most:=by unfold Qm;have h1:=Tq (q9 ns a) (show(most:Int)≠0 by omega);have h2:=Sw (q9 ns a) (show(0:Int)<most by omega);omega
end
end KW
section
namespace K51
open PySem PySem.Spec PyProof.Rows L2
noncomputable def top(i:Nat):aX:=PySem.Challenge.pw_leastasks_k51_whole_numbers_stay.main.body.getD i (.Pass ⟨0,0,0,0⟩)
noncomputable def Uj:Sx:=(.seq (.expr (.call "refuse_wrong_size" (.cons (.var 0) .nil))) (.seq (.ret (.call "all_choices" (.cons (.bin .mul (.lst (.cons (.glob "ANSWERS") .nil)) (.var 0)) .nil))) .nop))
noncomputable def Ms:Fi:=⟨1,1,Uj,a9⟩
noncomputable def Ys:Sx:=(.seq (.expr (.call "refuse_wrong_size" (.cons (.var 0) .nil))) (.seq (.ret (.call "all_choices" (.cons (.bin .mul (.lst (.cons (.glob "TELLINGS") .nil)) (.var 0)) .nil))) .nop))
noncomputable def Wy:Fi:=⟨1,1,Ys,a9⟩
noncomputable def V8:Sx:=(.seq (.ret (.call "number_of" (.cons (.var 0) (.cons (.blt .len (.cons (.glob "ANSWERS") .nil)) .nil)))) .nop)
noncomputable def U7:Fi:=⟨1,1,V8,a9⟩
noncomputable def Zw:Sx:=(.seq (.ret (.call "all_choices" (.cons (.comp [1] (.ite (.cmp .eq (.var 1) (.glob "NOT_TOLD")) (.glob "ANSWERS") (.tup (.cons (.var 1) .nil))) (.seq (.var 0)) .nil) .nil))) .nop)
noncomputable def fP_rows_in:Fi:=⟨1,2,Zw,a9⟩
noncomputable def Yt:Sx:=(.seq (.ret (.call "all_choices" (.cons (.comp [1] (.ite (.cmp .eq (.var 1) (.glob "NOT_TOLD")) (.glob "TELLINGS") (.tup (.cons (.var 1) .nil))) (.seq (.var 0)) .nil) .nil))) .nop)
noncomputable def Wz:Fi:=⟨1,2,Yt,a9⟩
noncomputable def Z5:Sx:=(.seq (.ife (.or (.cmp .lt (.var 1) (.lit (.int 0))) (.or (.cmp .ge (.var 1) (.blt .len (.cons (.var 0) .nil))) (.cmp .ne (.ix (.var 0) (.var 1)) (.glob "NOT_TOLD")))) (.seq .fail .nop) .nop) (.seq (.ret (.bin .add (.bin .add (.sl (.var 0) .nil (.cons (.var 1) .nil)) (.tup (.cons (.var 2) .nil))) (.sl (.var 0) (.cons (.bin .add (.var 1) (.lit (.int 1))) .nil) .nil))) .nop))
noncomputable def Vp:Fi:=⟨3,3,Z5,a9⟩
noncomputable def J8:Sx:=(.seq (.ife (.or (.cmp .lt (.var 0) (.glob "FEWEST_PLACES")) (.cmp .gt (.var 0) (.glob "MOST_PLACES"))) (.seq .fail .nop) .nop) .nop)
noncomputable def Qt:Fi:=⟨1,1,J8,a9⟩
noncomputable def Ja:Sx:=(.seq (.set 1 (.lst (.cons (.tup .nil) .nil))) (.seq (.loop [2] (.seq (.var 0)) (.seq (.set 3 (.lst .nil)) (.seq (.loop [4] (.seq (.var 1)) (.seq (.ext 3 (.comp [5] (.bin .add (.var 4) (.tup (.cons (.var 5) .nil))) (.seq (.var 2)) .nil)) .nop)) (.seq (.mov 1 3) .nop)))) (.seq (.retV 1) .nop)))
noncomputable def fP_all_choices:Fi:=⟨1,6,Ja,a9⟩
noncomputable def Vx:Sx:=(.seq (.set 2 (.lit (.int 0))) (.seq (.loop [3] (.seq (.var 0)) (.seq (.set 2 (.bin .add (.bin .mul (.var 2) (.var 1)) (.var 3))) .nop)) (.seq (.retV 2) .nop)))
noncomputable def W2:Fi:=⟨2,4,Vx,a9⟩
noncomputable def Vy:Sx:=(.seq (.ret (.ix (.ix (.var 0) (.lit (.int 1))) (.call "row_number" (.cons (.var 1) .nil)))) .nop)
noncomputable def W3:Fi:=⟨2,2,Vy,a9⟩
noncomputable def V7:Sx:=(.seq (.set 2 (.call "counted_in" (.cons (.var 0) (.cons (.var 1) .nil)))) (.seq (.ife (.cmp .eq (.ix (.var 2) (.lit (.int 1))) (.lit (.int 0))) (.seq (.ret (.lit (.int 0))) .nop) .nop) (.seq (.ife (.cmp .eq (.ix (.var 2) (.lit (.int 0))) (.lit (.int 0))) (.seq (.ret (.lit (.int 1))) .nop) .nop) (.seq (.ret (.lit (.non))) .nop))))
noncomputable def U6:Fi:=⟨2,3,V7,a9⟩
noncomputable def V9:Sx:=(.seq (.set 2 (.comp [3] (.call "answer_to" (.cons (.var 0) (.cons (.var 3) .nil))) (.seq (.call "rows_in" (.cons (.var 1) .nil))) .nil)) (.seq (.ret (.tup (.cons (.meth .count (.var 2) (.cons (.lit (.int 0)) .nil)) (.cons (.meth .count (.var 2) (.cons (.lit (.int 1)) .nil)) .nil)))) .nop))
noncomputable def U8:Fi:=⟨2,4,V9,a9⟩
noncomputable def Z6:Sx:=(.seq (.expr (.call "refuse_other_order" (.cons (.ix (.var 0) (.lit (.int 0))) (.cons (.var 1) .nil)))) (.seq (.set 2 (.comp [3] (.tix (.var 1) (.var 3)) (.seq (.ix (.var 0) (.lit (.int 0)))) .nil)) (.seq (.set 4 (.comp [5] (.call "picked" (.cons (.var 5) (.cons (.var 2) .nil))) (.seq (.call "rows_of" (.cons (.blt .len (.cons (.var 1) .nil)) .nil))) .nil)) (.seq (.ret (.tup (.cons (.blt .tuple (.cons (.var 1) .nil)) (.cons (.blt .tuple (.cons (.comp [5] (.call "answer_to" (.cons (.var 0) (.cons (.var 5) .nil))) (.seq (.var 4)) .nil) .nil)) .nil)))) .nop))))
noncomputable def Vq:Fi:=⟨2,6,Z6,a9⟩
noncomputable def Yu:Sx:=(.seq (.ret (.bin .mul (.tup (.cons (.glob "NOT_TOLD") .nil)) (.blt .len (.cons (.ix (.var 0) (.lit (.int 0))) .nil)))) .nop)
noncomputable def R8:Fi:=⟨1,1,Yu,a9⟩
noncomputable def Ui:Sx:=(.seq (.ife (.cmp .notin (.var 1) (.ix (.var 0) (.lit (.int 0)))) (.seq .fail .nop) .nop) (.seq (.ret (.tix (.ix (.var 0) (.lit (.int 0))) (.var 1))) .nop))
noncomputable def Mr:Fi:=⟨2,2,Ui,a9⟩
noncomputable def Wn:Sx:=(.seq (.ret (.blt .tuple (.cons (.comp [2] (.ix (.var 0) (.var 2)) (.seq (.var 1)) .nil) .nil))) .nop)
noncomputable def Bk:Fi:=⟨2,3,Wn,a9⟩
noncomputable def Qy:Sx:=(.seq (.ret (.bin .add (.call "row_number" (.cons (.bin .mul (.tup (.cons (.lit (.int 1)) .nil)) (.var 0)) .nil)) (.lit (.int 1)))) .nop)
noncomputable def Vg:Fi:=⟨1,1,Qy,a9⟩
noncomputable def vq:Sx:=(.seq (.ife (.cmp .ne (.srt (.var 1)) (.srt (.var 0))) (.seq .fail .nop) .nop) .nop)
noncomputable def Qa:Fi:=⟨2,2,vq,a9⟩
noncomputable def Z8:Sx:=(.seq (.set 3 (.call "spot_of" (.cons (.var 0) (.cons (.var 1) .nil)))) (.seq (.set 4 (.call "spot_of" (.cons (.var 0) (.cons (.var 2) .nil)))) (.seq (.set 5 (.blt .list (.cons (.ix (.var 0) (.lit (.int 0))) .nil))) (.seq (.put 5 (.var 3) (.var 2)) (.seq (.put 5 (.var 4) (.var 1)) (.seq (.keep 5) (.seq (.ret (.cmp .eq (.ix (.call "put_in_order" (.cons (.var 0) (.cons (.var 5) .nil))) (.lit (.int 1))) (.ix (.var 0) (.lit (.int 1))))) .nop)))))))
noncomputable def Vs:Fi:=⟨3,6,Z8,a9⟩
noncomputable def Z7:Sx:=(.seq (.expr (.call "refuse_other_order" (.cons (.var 1) (.cons (.var 2) .nil)))) (.seq (.ret (.call "picked" (.cons (.var 0) (.cons (.comp [3] (.tix (.var 1) (.var 3)) (.seq (.var 2)) .nil) .nil)))) .nop))
noncomputable def Vr:Fi:=⟨3,4,Z7,a9⟩
noncomputable def Qf:Sx:=(.seq (.ife (.isN (.var 1)) (.seq (.ret (.bin .mul (.lst (.cons (.lit (.int 1)) .nil)) (.var 0))) .nop) .nop) (.seq (.ife (.or (.cmp .ne (.blt .len (.cons (.var 1) .nil)) (.var 0)) (.not (.call "all_between" (.cons (.var 1) (.cons (.glob "LEAST_PRICE") .nil))))) (.seq .fail .nop) .nop) (.seq (.ret (.blt .list (.cons (.var 1) .nil))) .nop)))
noncomputable def Qc:Fi:=⟨2,2,Qf,a9⟩
noncomputable def v7:Sx:=(.seq (.ife (.or (.cmp .ne (.blt .len (.cons (.var 0) .nil)) (.call "count_of_rows" (.cons (.var 1) .nil))) (.not (.call "all_between" (.cons (.var 0) (.cons (.glob "LEAST_WEIGHT") .nil))))) (.seq .fail .nop) .nop) (.seq (.ife (.cmp .eq (.blt .sum (.cons (.var 0) .nil)) (.lit (.int 0))) (.seq .fail .nop) .nop) .nop))
noncomputable def Jg:Fi:=⟨2,2,v7,a9⟩
noncomputable def Zz:Sx:=(.seq (.ret (.blt .all (.cons (.comp [2] (.and (.cmp .ge (.var 2) (.var 1)) (.cmp .le (.var 2) (.glob "GREATEST_NUMBER"))) (.seq (.var 0)) .nil) .nil))) .nop)
noncomputable def Yg:Fi:=⟨2,3,Zz,a9⟩
noncomputable def Zu:Sx:=(.seq (.ret (.call "least_table" (.cons (.var 0) (.cons (.call "worst_cost_of_ask" (.cons (.var 0) (.cons (.var 1) .nil))) .nil)))) .nop)
noncomputable def Yb:Fi:=⟨2,2,Zu,a9⟩
noncomputable def J6:Sx:=(.seq (.set 2 (.call "prices_told" (.cons (.blt .len (.cons (.ix (.var 0) (.lit (.int 0))) .nil)) (.cons (.var 1) .nil)))) (.seq (.keep 2) (.seq (.retL "worst_cost_of_ask" [2]) .nop)))
noncomputable def Qq:Fi:=⟨2,3,J6,a9⟩
noncomputable def Zy:Sx:=(.seq (.ret (.dvals (.call "least_numbers" (.cons (.call "all_open" (.cons (.var 0) .nil)) (.cons (.var 0) (.cons (.var 1) .nil)))))) .nop)
noncomputable def Ye:Fi:=⟨2,2,Zy,a9⟩
noncomputable def Qx:Sx:=(.seq (.retC "numbers_within" "least_numbers" (.var 0) (.var 1) [2]) .nop)
noncomputable def Vf:Fi:=⟨3,3,Qx,a9⟩
noncomputable def J1:Sx:=(.nmake 3 4 5 (.seq (.call "parts_in" (.cons (.var 0) .nil))) (.not (.isN (.call "settled_by" (.cons (.var 1) (.cons (.var 4) .nil))))) (.ite (.var 5) (.lit (.int 0)) (.callV 2 (.cons (.var 3) (.cons (.var 4) .nil)))))
noncomputable def J0:Fi:=⟨3,6,J1,a9⟩
noncomputable def Z9:Sx:=(.seq (.ret (.minT (.comp [3,4] (.tup (.cons (.callV 2 (.cons (.var 0) (.cons (.var 1) (.cons (.var 3) .nil)))) (.cons (.var 3) .nil))) (.enum (.var 1)) (.cons (.cmp .eq (.var 4) (.glob "NOT_TOLD")) .nil)))) .nop)
noncomputable def Vt:Fi:=⟨3,5,Z9,a9⟩
noncomputable def Q3:Sx:=(.seq (.ret (.comp [3] (.dget (.var 0) (.call "told_further" (.cons (.var 1) (.cons (.var 2) (.cons (.var 3) .nil))))) (.seq (.glob "ANSWERS")) .nil)) .nop)
noncomputable def V2:Fi:=⟨3,4,Q3,a9⟩
noncomputable def Zx:Sx:=(.seq (.expr (.call "refuse_wrong_round" (.cons (.var 1) .nil))) (.seq (.ret (.dvals (.call "round_numbers" (.cons (.call "all_open" (.cons (.var 0) .nil)) (.cons (.var 0) (.cons (.var 1) .nil)))))) .nop))
noncomputable def Yd:Fi:=⟨2,2,Zx,a9⟩
noncomputable def Qw:Sx:=(.seq (.retC "numbers_within" "round_numbers" (.var 0) (.var 1) [2]) .nop)
noncomputable def Ve:Fi:=⟨3,3,Qw,a9⟩
noncomputable def Va:Sx:=(.seq (.ret (.minT (.comp [3] (.tup (.cons (.call "greatest_behind" (.cons (.var 0) (.cons (.var 1) (.cons (.var 3) .nil)))) (.cons (.var 3) .nil))) (.seq (.call "rounds_at" (.cons (.var 1) (.cons (.var 2) .nil)))) .nil))) .nop)
noncomputable def U9:Fi:=⟨3,4,Va,a9⟩
noncomputable def Js:Sx:=(.seq (.set 3 (.call "all_choices" (.cons (.comp [4,5] (.ite (.cmp .isin (.var 4) (.var 2)) (.glob "ANSWERS") (.tup (.cons (.var 5) .nil))) (.enum (.var 1)) .nil) .nil))) (.seq (.ret (.blt .max (.cons (.comp [6] (.dget (.var 0) (.var 6)) (.seq (.var 3)) .nil) .nil))) .nop))
noncomputable def Zi:Fi:=⟨3,7,Js,a9⟩
noncomputable def Vw:Sx:=(.seq (.set 2 (.lst (.cons (.tup .nil) .nil))) (.seq (.loop [3,4] (.enum (.var 0)) (.seq (.ife (.cmp .eq (.var 4) (.glob "NOT_TOLD")) (.seq (.set 2 (.bin .add (.var 2) (.comp [5] (.bin .add (.var 5) (.tup (.cons (.var 3) .nil))) (.seq (.var 2)) (.cons (.cmp .lt (.blt .len (.cons (.var 5) .nil)) (.var 1)) .nil)))) .nop) .nop) .nop)) (.seq (.ret (.sl (.var 2) (.cons (.lit (.int 1)) .nil) .nil)) .nop)))
noncomputable def W0:Fi:=⟨2,6,Vw,a9⟩
noncomputable def vp:Sx:=(.seq (.ife (.or (.cmp .lt (.var 0) (.glob "FEWEST_AT_ONCE")) (.cmp .gt (.var 0) (.glob "MOST_AT_ONCE"))) (.seq .fail .nop) .nop) .nop)
noncomputable def Q9:Fi:=⟨1,1,vp,a9⟩
noncomputable def Zv:Sx:=(.seq (.ret (.call "least_table" (.cons (.var 0) (.cons (.call "whole_cost_of_ask" (.cons (.var 0) (.cons (.var 1) (.cons (.var 2) .nil)))) .nil)))) .nop)
noncomputable def Yc:Fi:=⟨3,3,Zv,a9⟩
noncomputable def J7:Sx:=(.seq (.set 3 (.blt .len (.cons (.ix (.var 0) (.lit (.int 0))) .nil))) (.seq (.set 4 (.call "prices_told" (.cons (.var 3) (.cons (.var 2) .nil)))) (.seq (.keep 4) (.seq (.expr (.call "refuse_wrong_weights" (.cons (.var 1) (.cons (.var 3) .nil)))) (.seq (.set 5 (.call "weights_by_part" (.cons (.var 3) (.cons (.var 1) .nil)))) (.seq (.retL "whole_cost_of_ask" [5,4]) .nop))))))
noncomputable def Qs:Fi:=⟨3,6,J7,a9⟩
noncomputable def Jr:Sx:=(.wmake 2 3 (.seq (.call "parts_of" (.cons (.var 0) .nil))) (.blt .sum (.cons (.comp [4] (.ix (.var 1) (.call "row_number" (.cons (.var 4) .nil))) (.seq (.call "rows_in" (.cons (.var 3) .nil))) .nil) .nil)))
noncomputable def Zh:Fi:=⟨2,5,Jr,a9⟩
noncomputable def Us:Sx:=(.seq (.ife (.cmp .lt (.var 1) (.blt .len (.cons (.var 0) .nil))) (.seq (.ret (.ix (.var 0) (.var 1))) .nop) .nop) (.seq (.set 2 (.bin .add (.lit (.int 70001)) (.bin .mul (.bin .mul (.lit (.int 911)) (.var 1)) (.var 1)))) (.seq (.ife (.cmp .gt (.blt .len (.cons (.var 0) .nil)) (.lit (.int 0))) (.seq (.set 2 (.bin .add (.var 2) (.bin .mul (.bin .mod (.ix (.var 0) (.lit (.int 0))) (.lit (.int 9973))) (.bin .add (.bin .mul (.lit (.int 3)) (.var 1)) (.lit (.int 1)))))) .nop) .nop) (.seq (.retV 2) .nop))))
noncomputable def fL_cell:Fi:=⟨2,3,Us,a9⟩
noncomputable def O6:Sx:=(.seq (.set 2 (.lit (.str "mdkbvqhzcgrnapxolsiefwtyju"))) (.seq (.set 3 (.lst .nil)) (.seq (.mov 4 0) (.seq (.loop [5] (.range (.cons (.bin .mul (.var 1) (.blt .int (.cons (.cmp .ge (.var 0) (.bin .pow (.lit (.int 10)) (.lit (.int 18)))) .nil))) .nil)) (.seq (.set 6 (.bin .add (.lit (.int 1)) (.bin .mod (.var 4) (.lit (.int 8))))) (.seq (.set 4 (.bin .fdiv (.var 4) (.lit (.int 8)))) (.seq (.set 7 (.lit (.str ""))) (.seq (.loop [8] (.range (.cons (.var 6) .nil)) (.seq (.set 7 (.bin .add (.var 7) (.ix (.var 2) (.bin .mod (.var 4) (.lit (.int 26)))))) (.seq (.set 4 (.bin .fdiv (.var 4) (.lit (.int 26)))) .nop))) (.seq (.app 3 (.var 7)) .nop)))))) (.seq (.ife (.cmp .eq (.lset (.var 3)) (.var 1)) (.seq (.retV 3) .nop) .nop) (.seq (.ife (.cmp .lt (.bin .mod (.var 0) (.lit (.int 4))) (.lit (.int 2))) (.seq (.fgt 5) (.seq (.set 9 (.join "" (.comp [5] (.ix (.var 2) (.bin .mod (.bin .fdiv (.var 0) (.bin .add (.lit (.int 4)) (.bin .mul (.lit (.int 5)) (.var 5)))) (.lit (.int 26)))) (.range (.cons (.lit (.int 8)) .nil)) .nil))) (.seq (.set 10 (.bin .mod (.bin .fdiv (.var 0) (.lit (.int 8))) (.bin .sub (.lit (.int 9)) (.var 1)))) (.seq (.ife (.cmp .eq (.bin .mod (.var 0) (.lit (.int 4))) (.lit (.int 0))) (.seq (.fgt 5) (.seq (.ret (.comp [5] (.sl (.var 9) .nil (.cons (.bin .add (.bin .add (.var 10) (.var 5)) (.lit (.int 1))) .nil)) (.range (.cons (.var 1) .nil)) .nil)) .nop)) .nop) (.seq (.fgt 5) (.seq (.ret (.comp [5] (.sl (.var 9) (.cons (.bin .sub (.bin .sub (.bin .sub (.lit (.int 8)) (.var 10)) (.var 5)) (.lit (.int 1))) .nil) .nil) (.range (.cons (.var 1) .nil)) .nil)) .nop)))))) .nop) (.seq (.set 6 (.bin .mod (.bin .fdiv (.var 0) (.lit (.int 4))) (.lit (.int 8)))) (.seq (.fgt 5) (.seq (.set 11 (.join "" (.comp [5] (.ix (.var 2) (.bin .mod (.bin .add (.bin .add (.bin .fdiv (.var 0) (.lit (.int 32))) (.bin .mul (.bin .mul (.lit (.int 3)) (.var 5)) (.var 5))) (.var 5)) (.lit (.int 26)))) (.range (.cons (.var 6) .nil)) .nil))) (.seq (.set 12 (.bin .mod (.bin .fdiv (.var 0) (.lit (.int 512))) (.bin .add (.var 6) (.lit (.int 1))))) (.seq (.fgt 5) (.seq (.ret (.comp [5] (.bin .add (.bin .add (.sl (.var 11) .nil (.cons (.var 12) .nil)) (.ix (.var 2) (.bin .mod (.bin .add (.bin .fdiv (.var 0) (.lit (.int 9))) (.bin .mul (.lit (.int 7)) (.var 5))) (.lit (.int 26))))) (.sl (.var 11) (.cons (.var 12) .nil) .nil)) (.range (.cons (.var 1) .nil)) .nil)) .nop))))))))))))
noncomputable def Ls:Fi:=⟨2,13,O6,a9⟩
noncomputable def M3:Sx:=(.seq (.set 3 (.comp [4] (.var 4) (.range (.cons (.blt .len (.cons (.var 0) .nil)) .nil)) (.cons (.cmp .eq (.bin .mod (.bin .fdiv (.var 2) (.bin .shl (.lit (.int 1)) (.var 4))) (.lit (.int 2))) (.lit (.int 1))) .nil))) (.seq (.set 5 (.blt .sum (.cons (.comp [4] (.bin .shl (.ix (.var 0) (.var 4)) (.var 4)) (.seq (.var 3)) .nil) .nil))) (.seq (.set 6 (.blt .sum (.cons (.comp [4,7] (.bin .shl (.var 7) (.var 4)) (.enum (.var 0)) .nil) .nil))) (.seq (.ife (.cmp .eq (.var 1) (.lit (.int 1))) (.seq (.ret (.blt .int (.cons (.cmp .gt (.blt .sum (.cons (.var 0) .nil)) (.bin .mod (.bin .fdiv (.var 2) (.lit (.int 64))) (.blt .len (.cons (.var 0) .nil)))) .nil))) .nop) .nop) (.seq (.ife (.cmp .eq (.var 1) (.lit (.int 2))) (.seq (.set 8 (.bin .mod (.bin .mul (.bin .add (.var 6) (.lit (.int 1))) (.bin .add (.lit (.int 1)) (.bin .mod (.var 2) (.lit (.int 1000003))))) (.lit (.int 2147483629)))) (.seq (.ret (.blt .int (.cons (.cmp .eq (.bin .mod (.bin .fdiv (.var 8) (.lit (.int 32))) (.lit (.int 5))) (.lit (.int 0))) .nil))) .nop)) .nop) (.seq (.ife (.cmp .eq (.var 1) (.lit (.int 3))) (.seq (.set 8 (.bin .mul (.bin .add (.bin .add (.bin .mul (.var 5) (.var 5)) (.bin .mul (.lit (.int 17)) (.var 5))) (.lit (.int 69621))) (.bin .add (.lit (.int 1)) (.bin .mod (.var 2) (.lit (.int 1000003)))))) (.seq (.ret (.bin .mod (.bin .fdiv (.bin .mod (.var 8) (.lit (.int 2147483647))) (.lit (.int 16))) (.lit (.int 2)))) .nop)) .nop) (.seq (.ife (.cmp .eq (.var 1) (.lit (.int 4))) (.seq (.ret (.bin .mod (.bin .add (.blt .sum (.cons (.comp [4] (.ix (.var 0) (.var 4)) (.seq (.var 3)) .nil) .nil)) (.bin .fdiv (.var 2) (.lit (.int 64)))) (.lit (.int 2)))) .nop) .nop) (.seq (.set 8 (.bin .mul (.bin .add (.bin .mul (.var 6) (.var 6)) (.lit (.int 48271))) (.bin .add (.bin .add (.bin .mod (.var 2) (.lit (.int 1000003))) (.var 6)) (.lit (.int 1))))) (.seq (.ret (.bin .mod (.bin .fdiv (.bin .mod (.var 8) (.lit (.int 2147483647))) (.lit (.int 64))) (.lit (.int 2)))) .nop)))))))))
noncomputable def fL_bit:Fi:=⟨3,9,M3,a9⟩
noncomputable def Yv:Sx:=(.seq (.set 3 (.bin .add (.lit (.int 1)) (.bin .mod (.call "_law_cell" (.cons (.var 0) (.cons (.var 1) .nil))) (.var 2)))) (.seq (.set 4 (.call "_law_words" (.cons (.call "_law_cell" (.cons (.var 0) (.cons (.bin .add (.var 1) (.lit (.int 1))) .nil))) (.cons (.var 3) .nil)))) (.seq (.set 5 (.bin .mod (.bin .fdiv (.call "_law_cell" (.cons (.var 0) (.cons (.var 1) .nil))) (.var 2)) (.lit (.int 5)))) (.seq (.set 6 (.call "_law_cell" (.cons (.var 0) (.cons (.bin .add (.var 1) (.lit (.int 2))) .nil)))) (.seq (.set 7 (.lst .nil)) (.seq (.loop [8] (.range (.cons (.bin .shl (.lit (.int 1)) (.var 3)) .nil)) (.seq (.set 9 (.comp [10] (.bin .mod (.bin .fdiv (.var 8) (.bin .shl (.lit (.int 1)) (.bin .sub (.bin .sub (.var 3) (.var 10)) (.lit (.int 1))))) (.lit (.int 2))) (.range (.cons (.var 3) .nil)) .nil)) (.seq (.app 7 (.ix (.lst (.cons (.call "_law_bit" (.cons (.var 9) (.cons (.var 5) (.cons (.var 6) .nil)))) (.cons (.bin .mod (.bin .fdiv (.var 6) (.bin .shl (.lit (.int 1)) (.var 8))) (.lit (.int 2))) .nil))) (.blt .int (.cons (.cmp .ge (.var 6) (.bin .pow (.lit (.int 10)) (.lit (.int 18)))) .nil)))) .nop))) (.seq (.ret (.tup (.cons (.blt .tuple (.cons (.var 4) .nil)) (.cons (.blt .tuple (.cons (.var 7) .nil)) .nil)))) .nop)))))))
noncomputable def R9:Fi:=⟨3,11,Yv,a9⟩
noncomputable def Wq:Sx:=(.seq (.ife (.cmp .eq (.bin .mod (.var 0) (.lit (.int 4))) (.lit (.int 0))) (.seq (.ret (.lit (.non))) .nop) .nop) (.seq (.set 2 (.bin .mod (.var 0) (.lit (.int 2147483647)))) (.seq (.set 3 (.bin .fdiv (.var 0) (.lit (.int 8)))) (.seq (.set 4 (.lst .nil)) (.seq (.loop [5] (.range (.cons (.var 1) .nil)) (.seq (.set 2 (.bin .mod (.bin .add (.bin .add (.bin .mul (.var 2) (.lit (.int 48271))) (.bin .mul (.lit (.int 13)) (.var 5))) (.lit (.int 5))) (.lit (.int 2147483647)))) (.seq (.app 4 (.ix (.lst (.cons (.bin .add (.lit (.int 1)) (.bin .mod (.bin .fdiv (.var 2) (.lit (.int 16))) (.lit (.int 5)))) (.cons (.bin .add (.lit (.int 1)) (.bin .mod (.bin .fdiv (.var 2) (.lit (.int 16))) (.bin .pow (.lit (.int 10)) (.lit (.int 6))))) .nil))) (.bin .mod (.bin .fdiv (.var 0) (.lit (.int 4))) (.lit (.int 2))))) (.seq (.ife (.cmp .ge (.var 0) (.bin .pow (.lit (.int 10)) (.lit (.int 18)))) (.seq (.put 4 (.var 5) (.bin .add (.lit (.int 1)) (.bin .mod (.var 3) (.bin .pow (.lit (.int 10)) (.lit (.int 6)))))) (.seq (.set 3 (.bin .fdiv (.var 3) (.bin .pow (.lit (.int 10)) (.lit (.int 6))))) .nop)) .nop) .nop)))) (.seq (.retV 4) .nop))))))
noncomputable def Bm:Fi:=⟨2,6,Wq,a9⟩
noncomputable def O8:Sx:=(.seq (.ife (.isN (.var 0)) (.seq (.ret (.comp [2] (.lit (.int 1)) (.range (.cons (.var 1) .nil)) .nil)) .nop) .nop) (.seq (.retV 0) .nop))
noncomputable def Lx:Fi:=⟨2,3,O8,a9⟩
noncomputable def Ew:Sx:=(.seq (.set 2 (.lst .nil)) (.seq (.loop [3] (.range (.cons (.var 0) .nil)) (.seq (.app 2 (.bin .mod (.bin .fdiv (.var 1) (.bin .shl (.lit (.int 1)) (.bin .sub (.bin .sub (.var 0) (.var 3)) (.lit (.int 1))))) (.lit (.int 2)))) .nop)) (.seq (.ret (.blt .tuple (.cons (.var 2) .nil))) .nop)))
noncomputable def j4s:Fi:=⟨2,4,Ew,a9⟩
noncomputable def O7:Sx:=(.seq (.fgt 3) (.seq (.set 2 (.comp [3] (.var 3) (.range (.cons (.var 1) .nil)) .nil)) (.seq (.set 4 (.lst .nil)) (.seq (.set 5 (.bin .mod (.var 0) (.lit (.int 2147483647)))) (.seq (.mov 6 0) (.seq (.loop [3] (.range (.cons (.var 1) .nil)) (.seq (.set 5 (.bin .mod (.bin .add (.bin .add (.bin .mul (.var 5) (.lit (.int 48271))) (.bin .mul (.lit (.int 7)) (.var 3))) (.lit (.int 1))) (.lit (.int 2147483647)))) (.seq (.set 7 (.bin .mod (.ix (.lst (.cons (.bin .fdiv (.var 5) (.lit (.int 32))) (.cons (.var 6) .nil))) (.blt .int (.cons (.cmp .ge (.var 0) (.bin .pow (.lit (.int 10)) (.lit (.int 18)))) .nil))) (.blt .len (.cons (.var 2) .nil)))) (.seq (.set 6 (.bin .fdiv (.var 6) (.blt .len (.cons (.var 2) .nil)))) (.seq (.apop 4 2 (.var 7)) .nop))))) (.seq (.retV 4) .nop)))))))
noncomputable def Lw:Fi:=⟨2,8,O7,a9⟩
noncomputable def Vz:Sx:=(.seq (.set 3 (.lst .nil)) (.seq (.loop [4] (.range (.cons (.bin .shl (.lit (.int 1)) (.var 1)) .nil)) (.seq (.set 5 (.blt .list (.cons (.call "_law_row" (.cons (.var 1) (.cons (.var 4) .nil))) .nil))) (.seq (.fgt 7) (.seq (.set 6 (.comp [7] (.var 7) (.range (.cons (.var 1) .nil)) (.cons (.cmp .eq (.bin .band (.bin .shr (.var 2) (.var 7)) (.lit (.int 1))) (.lit (.int 1))) .nil))) (.seq (.fgt 7) (.seq (.set 8 (.blt .sum (.cons (.comp [7] (.ix (.var 5) (.var 7)) (.seq (.var 6)) .nil) .nil))) (.seq (.loop [9,7] (.enum (.var 6)) (.seq (.put 5 (.var 7) (.blt .int (.cons (.cmp .lt (.var 9) (.var 8)) .nil))) .nop)) (.seq (.set 10 (.lit (.int 0))) (.seq (.loop [11] (.seq (.var 5)) (.seq (.set 10 (.bin .add (.bin .mul (.lit (.int 2)) (.var 10)) (.var 11))) .nop)) (.seq (.app 3 (.ix (.var 0) (.var 10))) .nop)))))))))) (.seq (.ret (.blt .tuple (.cons (.var 3) .nil))) .nop)))
noncomputable def W4:Fi:=⟨3,12,Vz,a9⟩
noncomputable def Uk:Sx:=(.seq (.set 2 (.bin .mod (.var 0) (.lit (.int 2147483647)))) (.seq (.mov 3 0) (.seq (.set 4 (.lst .nil)) (.seq (.loop [5] (.range (.cons (.bin .shl (.lit (.int 1)) (.var 1)) .nil)) (.seq (.set 2 (.bin .mod (.bin .add (.bin .add (.bin .mul (.var 2) (.lit (.int 48271))) (.bin .mul (.lit (.int 13)) (.var 5))) (.lit (.int 5))) (.lit (.int 2147483647)))) (.seq (.app 4 (.ix (.lst (.cons (.bin .mod (.bin .fdiv (.var 2) (.lit (.int 16))) (.lit (.int 4))) (.cons (.bin .mod (.bin .fdiv (.var 2) (.lit (.int 16))) (.lit (.int 1000001))) .nil))) (.bin .mod (.bin .fdiv (.var 0) (.lit (.int 4))) (.lit (.int 2))))) (.seq (.ife (.cmp .ge (.var 0) (.bin .pow (.lit (.int 10)) (.lit (.int 18)))) (.seq (.put 4 (.var 5) (.bin .mod (.var 3) (.lit (.int 1000001)))) (.seq (.set 3 (.bin .fdiv (.var 3) (.lit (.int 1000001)))) .nop)) .nop) .nop)))) (.seq (.ife (.cmp .eq (.blt .sum (.cons (.var 4) .nil)) (.lit (.int 0))) (.seq (.put 4 (.bin .mod (.bin .fdiv (.var 0) (.lit (.int 8))) (.blt .len (.cons (.var 4) .nil))) (.lit (.int 1))) .nop) .nop) (.seq (.retV 4) .nop))))))
noncomputable def Mt:Fi:=⟨2,6,Uk,a9⟩
noncomputable def Za:Sx:=(.seq (.set 3 (.lst .nil)) (.seq (.loop [4] (.range (.cons (.bin .shl (.lit (.int 1)) (.var 1)) .nil)) (.seq (.set 5 (.call "_law_row" (.cons (.var 1) (.cons (.var 4) .nil)))) (.seq (.set 6 (.lit (.int 0))) (.seq (.loop [7,8] (.enum (.var 2)) (.seq (.set 6 (.bin .add (.var 6) (.bin .mul (.ix (.var 5) (.var 7)) (.bin .shl (.lit (.int 1)) (.bin .sub (.bin .sub (.var 1) (.var 8)) (.lit (.int 1))))))) .nop)) (.seq (.app 3 (.ix (.var 0) (.var 6))) .nop))))) (.seq (.retV 3) .nop)))
noncomputable def Vu:Fi:=⟨3,9,Za,a9⟩
noncomputable def Ur:Sx:=(.seq (.set 2 (.lst .nil)) (.seq (.loop [3] (.range (.cons (.var 0) .nil)) (.seq (.set 2 (.bin .add (.lst (.cons (.bin .mod (.var 1) (.lit (.int 3))) .nil)) (.var 2))) (.seq (.set 1 (.bin .fdiv (.var 1) (.lit (.int 3)))) .nop))) (.seq (.ret (.blt .tuple (.cons (.var 2) .nil))) .nop)))
noncomputable def fL_part:Fi:=⟨2,4,Ur,a9⟩
noncomputable def Wr:Sx:=(.seq (.set 1 (.lit (.int 0))) (.seq (.loop [2] (.seq (.var 0)) (.seq (.set 1 (.bin .add (.bin .mul (.lit (.int 3)) (.var 1)) (.var 2))) .nop)) (.seq (.retV 1) .nop)))
noncomputable def Bo:Fi:=⟨1,3,Wr,a9⟩
noncomputable def Wo:Sx:=(.seq (.ret (.lst (.cons (.call "worst_table" (.cons (.var 0) (.cons (.var 2) .nil))) (.cons (.call "whole_table" (.cons (.var 0) (.cons (.var 1) (.cons (.var 2) .nil)))) (.cons (.call "round_table" (.cons (.var 0) (.cons (.var 3) .nil))) .nil))))) .nop)
noncomputable def Bl:Fi:=⟨4,4,Wo,a9⟩
noncomputable def Ws:Sx:=(.seq (.set 2 (.blt .len (.cons (.ix (.var 0) (.lit (.int 0))) .nil))) (.seq (.fgt 4) (.seq (.set 3 (.comp [4] (.var 4) (.range (.cons (.var 2) .nil)) .nil)) (.seq (.set 5 (.lst .nil)) (.seq (.loop [4] (.range (.cons (.var 2) .nil)) (.seq (.set 5 (.bin .add (.var 5) (.comp [6] (.tup (.cons (.var 4) (.cons (.var 6) .nil))) (.range (.cons (.var 4) .nil)) (.cons (.call "may_exchange" (.cons (.var 0) (.cons (.ix (.ix (.var 0) (.lit (.int 0))) (.var 4)) (.cons (.ix (.ix (.var 0) (.lit (.int 0))) (.var 6)) .nil)))) .nil)))) .nop)) (.seq (.ife (.and (.cmp .eq (.bin .mod (.var 1) (.lit (.int 3))) (.lit (.int 0))) (.cmp .gt (.blt .len (.cons (.var 5) .nil)) (.lit (.int 0)))) (.seq (.unp 7 8 (.ix (.var 5) (.bin .mod (.bin .fdiv (.var 1) (.lit (.int 3))) (.blt .len (.cons (.var 5) .nil))))) (.seq (.put 3 (.var 7) (.var 8)) (.seq (.put 3 (.var 8) (.var 7)) (.seq (.retV 3) .nop)))) .nop) (.seq (.ret (.call "_law_order" (.cons (.var 1) (.cons (.var 2) .nil)))) .nop)))))))
noncomputable def Bp:Fi:=⟨2,9,Ws,a9⟩
noncomputable def Ul:Sx:=(.seq (.set 3 (.lst .nil)) (.seq (.loop [4] (.range (.cons (.var 2) .nil)) (.seq (.set 5 (.call "_law_part" (.cons (.blt .len (.cons (.var 0) .nil)) (.cons (.var 4) .nil)))) (.seq (.set 6 (.call "part_carried" (.cons (.var 5) (.cons (.var 0) (.cons (.ix (.lst (.cons (.var 1) (.cons (.blt .list (.cons (.var 1) .nil)) .nil))) (.bin .mod (.var 4) (.lit (.int 2)))) .nil))))) (.seq (.ife (.cmp .ne (.call "part_carried" (.cons (.var 6) (.cons (.var 1) (.cons (.ix (.lst (.cons (.var 0) (.cons (.blt .list (.cons (.var 0) .nil)) .nil))) (.bin .mod (.var 4) (.lit (.int 2)))) .nil)))) (.var 5)) (.seq (.ret (.lit (.non))) .nop) .nop) (.seq (.app 3 (.call "_law_number" (.cons (.var 6) .nil))) .nop))))) (.seq (.retV 3) .nop)))
noncomputable def Mu:Fi:=⟨3,7,Ul,a9⟩
noncomputable def j1d:Sx:=(.seq (.unp 1 2 (.call "_law_question" (.cons (.var 0) (.cons (.lit (.int 0)) (.cons (.lit (.int 4)) .nil))))) (.seq (.set 3 (.blt .len (.cons (.var 1) .nil))) (.seq (.ife (.cmp .eq (.bin .mod (.call "_law_cell" (.cons (.var 0) (.cons (.lit (.int 3)) .nil))) (.lit (.int 3))) (.lit (.int 0))) (.seq (.set 2 (.call "_law_alike_for" (.cons (.var 2) (.cons (.var 3) (.cons (.bin .mod (.bin .fdiv (.call "_law_cell" (.cons (.var 0) (.cons (.lit (.int 3)) .nil))) (.lit (.int 3))) (.lit (.int 16))) .nil))))) .nop) .nop) (.seq (.set 4 (.tup (.cons (.var 1) (.cons (.var 2) .nil)))) (.seq (.set 5 (.call "_law_prices" (.cons (.call "_law_cell" (.cons (.var 0) (.cons (.lit (.int 4)) .nil))) (.cons (.var 3) .nil)))) (.seq (.keep 5) (.seq (.set 6 (.call "_law_weights" (.cons (.call "_law_cell" (.cons (.var 0) (.cons (.lit (.int 5)) .nil))) (.cons (.var 3) .nil)))) (.seq (.keep 6) (.seq (.set 7 (.bin .add (.lit (.int 1)) (.bin .mod (.call "_law_cell" (.cons (.var 0) (.cons (.lit (.int 6)) .nil))) (.lit (.int 4))))) (.seq (.set 8 (.call "_law_tables" (.cons (.var 4) (.cons (.var 6) (.cons (.var 5) (.cons (.var 7) .nil)))))) (.seq (.keep 8) (.seq (.set 9 (.call "_law_chosen" (.cons (.var 4) (.cons (.call "_law_cell" (.cons (.var 0) (.cons (.lit (.int 7)) .nil))) .nil)))) (.seq (.keep 9) (.seq (.set 10 (.comp [11] (.ix (.var 1) (.var 11)) (.seq (.var 9)) .nil)) (.seq (.set 12 (.comp [11] (.ix (.call "_law_costs" (.cons (.var 5) (.cons (.var 3) .nil))) (.var 11)) (.seq (.var 9)) .nil)) (.seq (.keep 12) (.seq (.set 13 (.tup (.cons (.blt .tuple (.cons (.var 10) .nil)) (.cons (.blt .tuple (.cons (.call "_law_carried_rows" (.cons (.var 2) (.cons (.var 3) (.cons (.var 9) .nil)))) .nil)) .nil)))) (.seq (.set 14 (.call "_law_tables" (.cons (.var 13) (.cons (.call "_law_carried_rows" (.cons (.var 6) (.cons (.var 3) (.cons (.var 9) .nil)))) (.cons (.var 12) (.cons (.var 7) .nil)))))) (.seq (.keep 14) (.seq (.set 15 (.call "_law_numbers" (.cons (.var 1) (.cons (.ix (.var 13) (.lit (.int 0))) (.cons (.blt .len (.cons (.ix (.var 8) (.lit (.int 0))) .nil)) .nil))))) (.seq (.keep 15) (.seq (.ife (.isN (.var 15)) (.seq (.ret (.lit (.bl a9))) .nop) .nop) (.seq (.loop [16,17] (.zip (.var 8) (.var 14)) (.seq (.ife (.or (.cmp .ne (.blt .len (.cons (.var 16) .nil)) (.blt .len (.cons (.var 17) .nil))) (.cmp .ne (.comp [18] (.ix (.var 17) (.var 18)) (.seq (.var 15)) .nil) (.blt .list (.cons (.var 16) .nil)))) (.seq (.ret (.lit (.bl a9))) .nop) .nop) .nop)) (.seq (.set 19 (.callD "worst_table" (.cons (.var 4) .nil))) (.seq (.ife (.and (.cmp .eq (.ix (.var 13) (.lit (.int 1))) (.var 2)) (.cmp .ne (.comp [18] (.ix (.var 19) (.var 18)) (.seq (.var 15)) .nil) (.blt .list (.cons (.var 19) .nil)))) (.seq (.ret (.lit (.bl a9))) .nop) .nop) (.seq (.set 20 (.bin .mod (.call "_law_cell" (.cons (.var 0) (.cons (.lit (.int 8)) .nil))) (.var 3))) (.seq (.set 21 (.bin .shl (.lit (.int 1)) (.bin .sub (.bin .sub (.var 3) (.var 20)) (.lit (.int 1))))) (.seq (.set 22 (.bin .shl (.lit (.int 1)) (.var 3))) (.seq (.fgt 24) (.seq (.set 23 (.tup (.cons (.var 1) (.cons (.blt .tuple (.cons (.comp [24] (.ix (.var 2) (.bin .bxor (.var 24) (.var 21))) (.range (.cons (.var 22) .nil)) .nil) .nil)) .nil)))) (.seq (.fgt 24) (.seq (.set 14 (.call "_law_tables" (.cons (.var 23) (.cons (.comp [24] (.ix (.var 6) (.bin .bxor (.var 24) (.var 21))) (.range (.cons (.var 22) .nil)) .nil) (.cons (.var 5) (.cons (.var 7) .nil)))))) (.seq (.keep 14) (.seq (.set 25 (.lst .nil)) (.seq (.loop [24] (.range (.cons (.blt .len (.cons (.ix (.var 8) (.lit (.int 0))) .nil)) .nil)) (.seq (.set 26 (.call "_law_part" (.cons (.var 3) (.cons (.var 24) .nil)))) (.seq (.app 25 (.call "_law_number" (.cons (.bin .add (.bin .add (.sl (.var 26) .nil (.cons (.var 20) .nil)) (.tup (.cons (.ix (.lst (.cons (.lit (.int 1)) (.cons (.lit (.int 0)) (.cons (.lit (.int 2)) .nil)))) (.ix (.var 26) (.var 20))) .nil))) (.sl (.var 26) (.cons (.bin .add (.var 20) (.lit (.int 1))) .nil) .nil)) .nil))) .nop))) (.seq (.loop [16,17] (.zip (.var 8) (.var 14)) (.seq (.ife (.or (.cmp .ne (.blt .len (.cons (.var 16) .nil)) (.blt .len (.cons (.var 17) .nil))) (.cmp .ne (.comp [18] (.ix (.var 17) (.var 18)) (.seq (.var 25)) .nil) (.blt .list (.cons (.var 16) .nil)))) (.seq (.ret (.lit (.bl a9))) .nop) .nop) .nop)) (.seq (.ret (.lit (.bl ae))) .nop)))))))))))))))))))))))))))))))))))))
noncomputable def j82:Fi:=⟨1,27,j1d,a9⟩
noncomputable def J4:Ex:=(.bin .add (.ix (.var 0) (.var 3)) (.blt .max (.cons (.call "numbers_behind" (.cons (.var 1) (.cons (.var 2) (.cons (.var 3) .nil)))) .nil)))
noncomputable def Qo:Fi:=⟨4,4,.ret J4,ae⟩
noncomputable def Qv:Ex:=(.ix (.call "cheapest_ask" (.cons (.var 1) (.cons (.var 2) (.cons (.var 0) .nil)))) (.lit (.int 0)))
noncomputable def Vd:Fi:=⟨3,3,.ret Qv,ae⟩
noncomputable def Qu:Ex:=(.bin .add (.lit (.int 1)) (.ix (.call "best_round" (.cons (.var 1) (.cons (.var 2) (.cons (.var 0) .nil)))) (.lit (.int 0))))
noncomputable def Vc:Fi:=⟨3,3,.ret Qu,ae⟩
noncomputable def J5:Ex:=(.bin .add (.bin .mul (.ix (.var 1) (.var 4)) (.dget (.var 0) (.var 3))) (.blt .sum (.cons (.call "numbers_behind" (.cons (.var 2) (.cons (.var 3) (.cons (.var 4) .nil)))) .nil)))
noncomputable def Qp:Fi:=⟨5,5,.ret J5,ae⟩
noncomputable def tbl:List (au×Fi):=("rows_of",Ms)::("parts_of",Wy)::("row_number",U7)::("rows_in",fP_rows_in)::("parts_in",Wz)::("told_further",Vp)::("refuse_wrong_size",Qt)::("all_choices",fP_all_choices)::("number_of",W2)::("answer_to",W3)::("settled_by",U6)::("counted_in",U8)::("put_in_order",Vq)::("all_open",R8)::("spot_of",Mr)::("picked",Bk)::("count_of_rows",Vg)::("refuse_other_order",Qa)::("may_exchange",Vs)::("part_carried",Vr)::("prices_told",Qc)::("refuse_wrong_weights",Jg)::("all_between",Yg)::("worst_table",Yb)::("worst_cost_of_ask",Qq)::("least_table",Ye)::("least_numbers",Vf)::("numbers_within",J0)::("cheapest_ask",Vt)::("numbers_behind",V2)::("round_table",Yd)::("round_numbers",Ve)::("best_round",U9)::("greatest_behind",Zi)::("rounds_at",W0)::("refuse_wrong_round",Q9)::("whole_table",Yc)::("whole_cost_of_ask",Qs)::("weights_by_part",Zh)::("_law_cell",fL_cell)::("_law_words",Ls)::("_law_bit",fL_bit)::("_law_question",R9)::("_law_prices",Bm)::("_law_costs",Lx)::("_law_row",j4s)::("_law_order",Lw)::("_law_alike_for",W4)::("_law_weights",Mt)::("_law_carried_rows",Vu)::("_law_part",fL_part)::("_law_number",Bo)::("_law_tables",Bl)::("_law_chosen",Bp)::("_law_numbers",Mu)::("law",j82)::("worst_cost_of_ask.<locals>.<lambda>",Qo)::("least_numbers.<locals>.<lambda>",Vd)::("round_numbers.<locals>.<lambda>",Vc)::("whole_cost_of_ask.<locals>.<lambda>",Qp)::[]
noncomputable def T(x:au):Option Fi:=tbl.lookup x
noncomputable def gs:List (au×D):=[("FEWEST_PLACES",.int 1),("MOST_PLACES",.int 6),("ANSWERS",.tup [.int 0,.int 1]),("NOT_TOLD",.int 2),("TELLINGS",.tup [.int 0,.int 1,.int 2]),("LEAST_PRICE",.int 1),("LEAST_WEIGHT",.int 0),("GREATEST_NUMBER",.int 1000000),("FEWEST_AT_ONCE",.int 1),("MOST_AT_ONCE",.int 6)]
noncomputable abbrev G:au->Option D:=Gof gs
end K51
end
section
open PySem PySem.Spec PyProof.Rows L2
local macro_rules | `(tactic| walk_at "vis")=>`(tactic| first | exact Or.inl rfl | exact Or.inr (Or.inl rfl) | exact Or.inr (Or.inr rfl))
local macro_rules | `(tactic| walk_at "loc")=>`(tactic| first | exact Or.inl rfl | exact Or.inr rfl)
local macro_rules | `(tactic| walk_at "nm")=>`(tactic| repeat (first | exact rfl | refine ⟨_,_,rfl,by decide,by decide,by rfl,by decide,by rfl,?_⟩))
local macro_rules | `(tactic| walk_at "cap")=>`(tactic| repeat (first | exact rfl | refine ⟨_,_,rfl,by rfl,by rfl,by rfl,by rfl,?_⟩))
local macro_rules | `(tactic| walk_at "ts")=>`(tactic| first
 |exact Tr.int|exact Tr.bl|exact Tr.non|exact Tr.str|exact Tr.var (by rfl) (by walk_at "vis") (by decide) (by decide)|exact Tr.glob (by rfl) (by decide) (by decide)|refine Tr.bin ?_ ?_|refine Tr.cmp (by rfl) ?_ ?_|refine Tr.bcmp (by rfl) ?_ ?_|refine Tr.isN ?_|refine Tr.bisN ?_|refine Tr.isNN ?_|refine Tr.bisNN ?_|refine Tr.and ?_ ?_|refine Tr.or ?_ ?_|refine Tr.one ?_|refine Tr.not ?_|refine Tr.wand ?_ ?_|refine Tr.wor ?_ ?_|refine Tr.wand1 ?_|refine Tr.wor1 ?_|refine Tr.bw ?_|refine Tr.bnot ?_|refine Tr.ite ?_ ?_ ?_|exact Tr.nil|refine Tr.cons (by rfl) ?_ ?_|refine Tr.tup ?_|refine Tr.lst ?_|refine Tr.ix (by intro _ _;rfl) ?_ ?_|exact Tr.oN|refine Tr.oS ?_|refine Tr.sl ?_ ?_ ?_|refine Tr.callD (by decide) (by rfl) (by decide) (by rfl) (by rfl) ?_|refine Tr.max (by rfl) (by rfl) ?_|refine Tr.max1 (by rfl) (by rfl) ?_|refine Tr.call (by rfl) (by decide) (by rfl) (by rfl) ?_|refine Tr.callV (by rfl) (by walk_at "vis") (by decide) (by decide) (by rfl) (by rfl) ?_|refine Tr.dget (by intro _ _;rfl) ?_ ?_|refine Tr.dvals (by rfl) (by rfl) (by rfl) (by rfl) (by rfl) ?_|refine Tr.minT (by rfl) (by rfl) (by rfl) ?_|refine Tr.tix (by rfl) (by rfl) (by rfl) (by rfl) ?_ ?_|refine Tr.srt (by rfl) (by rfl) ?_|refine Tr.lset (by rfl) (by rfl) (by rfl) (by rfl) (by rfl) ?_|refine Tr.len (by rfl) ?_|refine Tr.all (by rfl) (by rfl) ?_|refine Tr.tuple (by rfl) ?_|refine Tr.list (by rfl) ?_|refine Tr.sum (by rfl) (by rfl) ?_|refine Tr.intc (by rfl) ?_|refine Tr.join (by rfl) (by rfl) (by rfl) (by rfl) ?_|refine Tr.lset (by rfl) (by rfl) (by rfl) (by rfl) (by rfl) ?_|refine Tr.enum (by rfl) (by rfl) ?_|refine Tr.count (by rfl) (by rfl) (by rfl) ?_ ?_|exact Tr.c0|refine Tr.c1 ?_|refine Tr.comp1 (by rfl) (by rfl) (by rfl) (by rfl) (by rfl) (by intro _;rfl) ?_ ?_ ?_|refine Tr.comp2 (by rfl) (by decide) (by rfl) (by rfl) (by rfl) (by rfl) (by rfl) (by rfl) (by intro _;rfl) ?_ ?_ ?_|refine Tr.seq ?_|refine Tr.range (by rfl) ?_|refine Tr.zip (by rfl) (by rfl) (by rfl) ?_ ?_|refine Tr.bval (by intro _;rfl) ?_|refine Ts.wmake (by rfl) (by rfl) (by rfl) (by walk_at "loc") (by walk_at "loc") (by exact bf rfl) (by exact bf rfl) (by decide) (by decide) (by decide) (by decide) (by rfl) (by rfl) (by intro _;rfl) ?_ ?_|refine Ts.nmake (by rfl) (by rfl) (by rfl) (by rfl) (by walk_at "loc") (by walk_at "loc") (by walk_at "loc") (by exact bf rfl) (by exact bf rfl) (by exact bf rfl) (by decide) (by decide) (by decide) (by decide) (by rfl) (by rfl) (by rfl) (by intro _;rfl) ?_ ?_ ?_|exact Ts.retL (by decide) (by rfl) (by rfl) (by rfl) (Eq.trans (by assumption) rfl) (by rfl) (by decide +kernel) (by walk_at "cap")|refine Ts.retC (by decide) (by rfl) (by rfl) (by rfl) (Eq.trans (by assumption) rfl) (by rfl) (by decide +kernel) (by walk_at "cap") (by rfl) (by decide) (by rfl) (by rfl) (by rfl) (by rfl) ?_ ?_|refine Ts.unp (by rfl) (by rfl) (by rfl) (by walk_at "loc") (by walk_at "loc") (by exact bf rfl) (by exact bf rfl) (by rfl) (by rfl) ?_|exact⟨rfl,rfl,rfl,λ_ _=>rfl⟩|exact Ts.nil|refine Ts.fgt ?_|refine Ts.keep ?_|refine Ts.cons ?_ ?_|exact Ts.pass|exact Ts.doc|exact Ts.fail|exact Ts.mov (by rfl) (by rfl) (by walk_at "loc") (by exact bf rfl) (by walk_at "vis") (by decide) (by decide)|refine Ts.setC1 (by rfl) (by rfl) (by walk_at "loc") (by exact bf rfl) (by rfl) (by rfl) (by rfl) (by rfl) (by rfl) (by intro _;rfl) ?_ ?_ ?_|refine Ts.setC2 (by rfl) (by rfl) (by walk_at "loc") (by exact bf rfl) (by rfl) (by decide) (by rfl) (by rfl) (by rfl) (by rfl) (by rfl) (by rfl) (by intro _;rfl) ?_ ?_ ?_|refine Ts.set (by rfl) (by walk_at "loc") (by rfl) (by exact bf rfl) ?_|exact Ts.retV (by rfl) (by walk_at "vis") (by decide) (by decide)|refine Ts.ret ?_|refine Ts.ife ?_ ?_ ?_|refine Ts.for1 (by rfl) (by rfl) (by walk_at "loc") (by exact bf rfl) (by intro _;rfl) ?_ ?_|refine Ts.for2 (by rfl) (by decide) (by rfl) (by rfl) (by walk_at "loc") (by walk_at "loc") (by exact bf rfl) (by exact bf rfl) (by intro _;rfl) ?_ ?_|refine Ts.apop (by rfl) (by walk_at "vis") (by decide) (by decide) (by rfl) (by walk_at "vis") (by decide) (by decide) (by rfl) (by rfl) (by rfl) (by rfl) (by rfl) (by rfl) (by rfl) (by rfl) (by rfl) ?_|refine Ts.app (by rfl) (by walk_at "vis") (by decide) (by decide) (by rfl) (by rfl) (by rfl) (by rfl) ?_|refine Ts.ext (by rfl) (by walk_at "vis") (by decide) (by decide) (by rfl) (by rfl) (by rfl) (by rfl) ?_|refine Ts.put (by rfl) (by walk_at "vis") (by decide) (by decide) (by intro _;rfl) (by rfl) (by rfl) ?_ ?_|refine Ts.expr (by rfl) ?_|intro C s H fp pn xe|intro C s H fp pn|intro pn xe)
local macro_rules | `(tactic| walk_at "bnd")=>`(tactic| (intro _ _ _ _ _ _ us hl; first | (obtain ⟨_,e⟩:=us1 hl; subst e; rfl) | (obtain ⟨_,_,e⟩:=us2 hl; subst e; rfl) | (obtain ⟨_,_,_,e⟩:=us3 hl; subst e; rfl) | (obtain ⟨_,_,_,_,e⟩:=us4 hl; subst e; rfl)))
local macro_rules | `(tactic| walk_at "bnk")=>`(tactic| (intro _ _ _ _ _ _ _ _ _ _ hK td; refine ⟨fun us hl=>?_,fun us hl=>?_,fun us v hl=>?_⟩; (first | (obtain ⟨_,e⟩:=us1 hl; subst e; exact PySem.W.binds_K hK rfl td rfl rfl rfl) | (obtain ⟨_,_,e⟩:=us2 hl; subst e; exact PySem.W.binds_K hK rfl td rfl rfl rfl) | (obtain ⟨_,_,_,e⟩:=us3 hl; subst e; exact PySem.W.binds_K hK rfl td rfl rfl rfl)); (first | (obtain ⟨_,e⟩:=us1 (Nat.succ.inj hl); subst e; exact PySem.W.binds_K hK rfl td rfl rfl rfl) | (obtain ⟨_,_,e⟩:=us2 (Nat.succ.inj hl); subst e; exact PySem.W.binds_K hK rfl td rfl rfl rfl) | (obtain ⟨_,_,_,e⟩:=us3 (Nat.succ.inj hl); subst e; exact PySem.W.binds_K hK rfl td rfl rfl rfl)); (first | (obtain ⟨_,e⟩:=us1 (Nat.succ.inj hl); subst e; exact PySem.W.binds_K hK rfl td rfl rfl rfl) | (obtain ⟨_,_,e⟩:=us2 (Nat.succ.inj hl); subst e; exact PySem.W.binds_K hK rfl td rfl rfl rfl) | (obtain ⟨_,_,_,e⟩:=us3 (Nat.succ.inj hl); subst e; exact PySem.W.binds_K hK rfl td rfl rfl rfl))))
local macro_rules | `(tactic| walk_at "sc")=>`(tactic| exact ⟨rfl,rfl,rfl,by decide +kernel,rfl,by decide +kernel,by decide +kernel⟩)
local macro_rules | `(tactic| walk_at "scl")=>`(tactic| exact ⟨rfl,rfl,rfl,by decide +kernel,rfl,by decide +kernel,by decide +kernel,by decide +kernel,jho⟩)
local macro_rules | `(tactic| walk_at "bndl")=>`(tactic| (intro _ _ _ _ us hl; first | (obtain ⟨_,_,e⟩:=us2 hl; subst e; rfl) | (obtain ⟨_,_,_,e⟩:=us3 hl; subst e; rfl)))
namespace K51
section
variable{P:az}{w:aD}{K:k9k}{mg:k9n}{base:aE}
def j5l:TrT P w K mg base "rows_of" ["many"] (top 13) Uj:=by
 intro f cdv A outer s H E xe;unfold Uj
 repeat' (walk_at "ts")
def j3i:TrT P w K mg base "parts_of" ["many"] (top 14) Ys:=by
 intro f cdv A outer s H E xe;unfold Ys
 repeat' (walk_at "ts")
def j08:TrT P w K mg base "row_number" ["row"] (top 15) V8:=by
 intro f cdv A outer s H E xe;unfold V8
 repeat' (walk_at "ts")
def j5m:TrT P w K mg base "rows_in" ["part","told"] (top 16) Zw:=by
 intro f cdv A outer s H E xe;unfold Zw
 repeat' (walk_at "ts")
def j3j:TrT P w K mg base "parts_in" ["part","told"] (top 17) Yt:=by
 intro f cdv A outer s H E xe;unfold Yt
 repeat' (walk_at "ts")
def Ca:TrT P w K mg base "told_further" ["part","spot","answer"] (top 18) Z5:=by
 intro f cdv A outer s H E xe;unfold Z5
 repeat' (walk_at "ts")
def Rg:TrT P w K mg base "refuse_wrong_size" ["many"] (top 19) J8:=by
 intro f cdv A outer s H E xe;unfold J8
 repeat' (walk_at "ts")
def Kl:TrT P w K mg base "all_choices" ["figures_by_spot","chosen","figures","longer","ahead","figure"] (top 20) Ja:=by
 intro f cdv A outer s H E xe;unfold Ja
 repeat' (walk_at "ts")
def j2r:TrT P w K mg base "number_of" ["figures","base","number","figure"] (top 21) Vx:=by
 intro f cdv A outer s H E xe;unfold Vx
 repeat' (walk_at "ts")
def j2s:TrT P w K mg base "answer_to" ["question","row"] (top 23) Vy:=by
 intro f cdv A outer s H E xe;unfold Vy
 repeat' (walk_at "ts")
def j07:TrT P w K mg base "settled_by" ["question","part","counted"] (top 24) V7:=by
 intro f cdv A outer s H E xe;unfold V7
 repeat' (walk_at "ts")
def j09:TrT P w K mg base "counted_in" ["question","part","answers","row"] (top 25) V9:=by
 intro f cdv A outer s H E xe;unfold V9
 repeat' (walk_at "ts")
def Cd:TrT P w K mg base "put_in_order" ["question","places","spots","place","rows","row"] (top 26) Z6:=by
 intro f cdv A outer s H E xe;unfold Z6
 repeat' (walk_at "ts")
def j3k:TrT P w K mg base "all_open" ["question"] (top 27) Yu:=by
 intro f cdv A outer s H E xe;unfold Yu
 repeat' (walk_at "ts")
def j5k:TrT P w K mg base "spot_of" ["question","place"] (top 28) Ui:=by
 intro f cdv A outer s H E xe;unfold Ui
 repeat' (walk_at "ts")
def j7f:TrT P w K mg base "picked" ["row","spots","spot"] (top 29) Wn:=by
 intro f cdv A outer s H E xe;unfold Wn
 repeat' (walk_at "ts")
def Dj:TrT P w K mg base "count_of_rows" ["many"] (top 30) Qy:=by
 intro f cdv A outer s H E xe;unfold Qy
 repeat' (walk_at "ts")
def Wv:TrT P w K mg base "refuse_other_order" ["places","order"] (top 31) vq:=by
 intro f cdv A outer s H E xe;unfold vq
 repeat' (walk_at "ts")
def Cg:TrT P w K mg base "may_exchange" ["question","one","other","spot","other_spot","order"] (top 33) Z8:=by
 intro f cdv A outer s H E xe;unfold Z8
 repeat' (walk_at "ts")
def Ce:TrT P w K mg base "part_carried" ["part","places","order","place"] (top 34) Z7:=by
 intro f cdv A outer s H E xe;unfold Z7
 repeat' (walk_at "ts")
def Kg:TrT P w K mg base "prices_told" ["many","prices"] (top 39) Qf:=by
 intro f cdv A outer s H E xe;unfold Qf
 repeat' (walk_at "ts")
def Uu:TrT P w K mg base "refuse_wrong_weights" ["weights","many"] (top 40) v7:=by
 intro f cdv A outer s H E xe;unfold v7
 repeat' (walk_at "ts")
def Km:TrT P w K mg base "all_between" ["numbers","least","number"] (top 41) Zz:=by
 intro f cdv A outer s H E xe;unfold Zz
 repeat' (walk_at "ts")
def Kd:TrT P w K mg base "worst_table" ["question","prices"] (top 43) Zu:=by
 intro f cdv A outer s H E xe;unfold Zu
 repeat' (walk_at "ts")
def Ra (hl:Qn K "worst_cost_of_ask" = Ml (ql (top 44))):TrT P w K mg base "worst_cost_of_ask" ["question","prices","price_at"] (top 44) J6:=by
 intro f cdv A outer s H E xe;unfold J6
 repeat' (walk_at "ts")
def Kh:TrT P w K mg base "least_table" ["question","cost_of_ask"] (top 45) Zy:=by
 intro f cdv A outer s H E xe;unfold Zy
 repeat' (walk_at "ts")
def Di (hl:Qn K "least_numbers" = Ml (ql (top 46))):TrT P w K mg base "least_numbers" ["whole_part","question","cost_of_ask"] (top 46) Qx:=by
 intro f cdv A outer s H E xe;unfold Qx
 repeat' (walk_at "ts")
def Oh:TrT P w K mg base "numbers_within" ["whole_part","question","number_unsettled","numbers","part","settled"] (top 47) J1:=by
 intro f cdv A outer s H E xe;unfold J1
 repeat' (walk_at "ts")
def Ci:TrT P w K mg base "cheapest_ask" ["numbers","part","cost_of_ask","spot","told"] (top 48) Z9:=by
 intro f cdv A outer s H E xe;unfold Z9
 repeat' (walk_at "ts")
def Oi:TrT P w K mg base "numbers_behind" ["numbers","part","spot","answer"] (top 49) Q3:=by
 intro f cdv A outer s H E xe;unfold Q3
 repeat' (walk_at "ts")
def Kf:TrT P w K mg base "round_table" ["question","at_once"] (top 53) Zx:=by
 intro f cdv A outer s H E xe;unfold Zx
 repeat' (walk_at "ts")
def Dh (hl:Qn K "round_numbers" = Ml (ql (top 54))):TrT P w K mg base "round_numbers" ["whole_part","question","at_once"] (top 54) Qw:=by
 intro f cdv A outer s H E xe;unfold Qw
 repeat' (walk_at "ts")
def j0a:TrT P w K mg base "best_round" ["numbers","part","at_once","spots"] (top 55) Va:=by
 intro f cdv A outer s H E xe;unfold Va
 repeat' (walk_at "ts")
def Od:TrT P w K mg base "greatest_behind" ["numbers","part","spots","parts_behind","spot","told","behind"] (top 56) Js:=by
 intro f cdv A outer s H E xe;unfold Js
 repeat' (walk_at "ts")
def j2q:TrT P w K mg base "rounds_at" ["part","at_once","chosen","spot","told","spots"] (top 57) Vw:=by
 intro f cdv A outer s H E xe;unfold Vw
 repeat' (walk_at "ts")
def Wu:TrT P w K mg base "refuse_wrong_round" ["at_once"] (top 58) vp:=by
 intro f cdv A outer s H E xe;unfold vp
 repeat' (walk_at "ts")
def Ke:TrT P w K mg base "whole_table" ["question","weights","prices"] (top 60) Zv:=by
 intro f cdv A outer s H E xe;unfold Zv
 repeat' (walk_at "ts")
def Rb (hl:Qn K "whole_cost_of_ask" = Ml (ql (top 61))):TrT P w K mg base "whole_cost_of_ask" ["question","weights","prices","many","price_at","weight_of"] (top 61) J7:=by
 intro f cdv A outer s H E xe;unfold J7
 repeat' (walk_at "ts")
def Oc:TrT P w K mg base "weights_by_part" ["many","weights","weight_of","part","row"] (top 62) Jr:=by
 intro f cdv A outer s H E xe;unfold Jr
 repeat' (walk_at "ts")
def jby:TrT P w K mg base "_law_cell" ["_law_script","_law_k","_law_spare"] (top 64) Us:=by
 intro f cdv A outer s H E xe;unfold Us
 repeat' (walk_at "ts")
def j8x:TrT P w K mg base "_law_words" ["_law_cell_here","_law_many","_law_letters","_law_names","_law_rest","_law_k","_law_size","_law_name","_law_turn","_law_long","_law_start","_law_stem","_law_at"] (top 65) O6:=by
 intro f cdv A outer s H E xe;unfold O6
 repeat' (walk_at "ts")
def jg0:TrT P w K mg base "_law_bit" ["_law_row_here","_law_kind","_law_cell_here","_law_some","_law_k","_law_kept","_law_by_row","_law_one","_law_mixed"] (top 66) M3:=by
 intro f cdv A outer s H E xe;unfold M3
 repeat' (walk_at "ts")
def j3l:TrT P w K mg base "_law_question" ["_law_script","_law_at","_law_most","_law_many","_law_places","_law_kind","_law_cell_here","_law_answers","_law_number_here","_law_row_here","_law_k"] (top 67) Yv:=by
 intro f cdv A outer s H E xe;unfold Yv
 repeat' (walk_at "ts")
def j7h:TrT P w K mg base "_law_prices" ["_law_cell_here","_law_many","_law_draw","_law_left","_law_fees","_law_k"] (top 69) Wq:=by
 intro f cdv A outer s H E xe;unfold Wq
 repeat' (walk_at "ts")
def j8z:TrT P w K mg base "_law_costs" ["_law_fees","_law_many","_law_k"] (top 70) O8:=by
 intro f cdv A outer s H E xe;unfold O8
 repeat' (walk_at "ts")
def jfz:TrT P w K mg base "_law_row" ["_law_many","_law_number_here","_law_row_here","_law_k"] (top 71) Ew:=by
 intro f cdv A outer s H E xe;unfold Ew
 repeat' (walk_at "ts")
def j8y:TrT P w K mg base "_law_order" ["_law_cell_here","_law_many","_law_left","_law_k","_law_order_here","_law_draw","_law_rest","_law_by"] (top 72) O7:=by
 intro f cdv A outer s H E xe;unfold O7
 repeat' (walk_at "ts")
def j2t:TrT P w K mg base "_law_alike_for" ["_law_answers","_law_many","_law_mask","_law_told","_law_number_here","_law_row_here","_law_some","_law_k","_law_yeses","_law_at","_law_first","_law_one"] (top 73) Vz:=by
 intro f cdv A outer s H E xe;unfold Vz
 repeat' (walk_at "ts")
def j5n:TrT P w K mg base "_law_weights" ["_law_cell_here","_law_many","_law_draw","_law_left","_law_loads","_law_k"] (top 74) Uk:=by
 intro f cdv A outer s H E xe;unfold Uk
 repeat' (walk_at "ts")
def Cj:TrT P w K mg base "_law_carried_rows" ["_law_some","_law_many","_law_order_here","_law_told","_law_number_here","_law_row_here","_law_first","_law_at","_law_spot"] (top 75) Za:=by
 intro f cdv A outer s H E xe;unfold Za
 repeat' (walk_at "ts")
def jbx:TrT P w K mg base "_law_part" ["_law_many","_law_number_here","_law_part_here","_law_k"] (top 76) Ur:=by
 intro f cdv A outer s H E xe;unfold Ur
 repeat' (walk_at "ts")
def j7i:TrT P w K mg base "_law_number" ["_law_part_here","_law_number_here","_law_told"] (top 77) Wr:=by
 intro f cdv A outer s H E xe;unfold Wr
 repeat' (walk_at "ts")
def j7g:TrT P w K mg base "_law_tables" ["_law_question_here","_law_loads","_law_fees","_law_at_once"] (top 78) Wo:=by
 intro f cdv A outer s H E xe;unfold Wo
 repeat' (walk_at "ts")
def j7j:TrT P w K mg base "_law_chosen" ["_law_question_here","_law_cell_here","_law_many","_law_order_here","_law_k","_law_pairs","_law_j","_law_one","_law_other"] (top 79) Ws:=by
 intro f cdv A outer s H E xe;unfold Ws
 repeat' (walk_at "ts")
def j5o:TrT P w K mg base "_law_numbers" ["_law_places","_law_names","_law_size","_law_numbers_here","_law_k","_law_part_here","_law_carried"] (top 80) Ul:=by
 intro f cdv A outer s H E xe;unfold Ul
 repeat' (walk_at "ts")
def jeq:TrT P w K mg base "law" ["_law_script","_law_places","_law_answers","_law_many","_law_question_here","_law_fees","_law_loads","_law_at_once","_law_here","_law_order_here","_law_names","_law_spot","_law_told","_law_other","_law_there","_law_numbers_here","_law_one","_law_two","_law_to","_law_plain","_law_at","_law_bit_here","_law_size","_law_turned","_law_k","_law_exchanged","_law_part_here"] (top 81) j1d:=by
 intro f cdv A outer s H E xe;unfold j1d
 repeat' (walk_at "ts")
def Rh:TrL P w K mg base "worst_cost_of_ask" ["price_at","numbers","part","spot"] (lamT (top 44)) J4:=by
 intro a c cl A outer s H;unfold J4
 repeat' (walk_at "ts")
def Dl:TrL P w K mg base "least_numbers" ["cost_of_ask","numbers","part"] (lamT (top 46)) Qv:=by
 intro a c cl A outer s H;unfold Qv
 repeat' (walk_at "ts")
def Dk:TrL P w K mg base "round_numbers" ["at_once","numbers","part"] (lamT (top 54)) Qu:=by
 intro a c cl A outer s H;unfold Qu
 repeat' (walk_at "ts")
def Ri:TrL P w K mg base "whole_cost_of_ask" ["weight_of","price_at","numbers","part","spot"] (lamT (top 61)) J5:=by
 intro a c cl A outer s H;unfold J5
 repeat' (walk_at "ts")
end
set_option maxHeartbeats 0 in
def head {l:dQ} {w:aD} {K:k9k} {h:aE} {mg:k9n} {fa:ai} (X:K.In h) (Gn:h.Ns aA mg) (hfa:mg "law" = a8 (.ref fa))
  (h0:Lf K "rows_of" (top 13))
  (h1:Lf K "parts_of" (top 14))
  (h2:Lf K "row_number" (top 15))
  (h3:Lf K "rows_in" (top 16))
  (h4:Lf K "parts_in" (top 17))
  (h5:Lf K "told_further" (top 18))
  (h6:Lf K "refuse_wrong_size" (top 19))
  (h7:Lf K "all_choices" (top 20))
  (h8:Lf K "number_of" (top 21))
  (h9:Lf K "answer_to" (top 23))
  (h10:Lf K "settled_by" (top 24))
  (h11:Lf K "counted_in" (top 25))
  (h12:Lf K "put_in_order" (top 26))
  (h13:Lf K "all_open" (top 27))
  (h14:Lf K "spot_of" (top 28))
  (h15:Lf K "picked" (top 29))
  (h16:Lf K "count_of_rows" (top 30))
  (h17:Lf K "refuse_other_order" (top 31))
  (h18:Lf K "may_exchange" (top 33))
  (h19:Lf K "part_carried" (top 34))
  (h20:Lf K "prices_told" (top 39))
  (h21:Lf K "refuse_wrong_weights" (top 40))
  (h22:Lf K "all_between" (top 41))
  (h23:Lfd K "worst_table" (top 43))
  (h24:Lf K "worst_cost_of_ask" (top 44))
  (h25:Lf K "least_table" (top 45))
  (h26:Lf K "least_numbers" (top 46))
  (h27:Lf K "numbers_within" (top 47))
  (h28:Lf K "cheapest_ask" (top 48))
  (h29:Lf K "numbers_behind" (top 49))
  (h30:Lf K "round_table" (top 53))
  (h31:Lf K "round_numbers" (top 54))
  (h32:Lf K "best_round" (top 55))
  (h33:Lf K "greatest_behind" (top 56))
  (h34:Lf K "rounds_at" (top 57))
  (h35:Lf K "refuse_wrong_round" (top 58))
  (h36:Lfd K "whole_table" (top 60))
  (h37:Lf K "whole_cost_of_ask" (top 61))
  (h38:Lf K "weights_by_part" (top 62))
  (h39:Lf K "_law_cell" (top 64))
  (h40:Lf K "_law_words" (top 65))
  (h41:Lf K "_law_bit" (top 66))
  (h42:Lf K "_law_question" (top 67))
  (h43:Lf K "_law_prices" (top 69))
  (h44:Lf K "_law_costs" (top 70))
  (h45:Lf K "_law_row" (top 71))
  (h46:Lf K "_law_order" (top 72))
  (h47:Lf K "_law_alike_for" (top 73))
  (h48:Lf K "_law_weights" (top 74))
  (h49:Lf K "_law_carried_rows" (top 75))
  (h50:Lf K "_law_part" (top 76))
  (h51:Lf K "_law_number" (top 77))
  (h52:Lf K "_law_tables" (top 78))
  (h53:Lf K "_law_chosen" (top 79))
  (h54:Lf K "_law_numbers" (top 80))
  (h55:Lf K "law" (top 81))
  (bz:bOk K=ae) {ts:List ai} (tz:tOk K ts=ae)
  {gt0:iy} {gt1:iy} {gt3:iy} {gt4:iy} {ga2:ai} {ga2n:Nat} {ga2s:Array (Option ah)} {gt5:iy} {gt7:iy} {gt8:iy} {gt9:iy} {ga6:ai} {ga6n:Nat} {ga6s:Array (Option ah)} {gt10:iy} {gt11:iy} {gt12:iy} {gt13:iy} {gt14:iy}
  (gn0:bx K aA "FEWEST_PLACES" = a8 (a8 (.int 1 gt0))) (gn1:bx K aA "MOST_PLACES" = a8 (a8 (.int 6 gt1))) (ga2l:K.lookup ga2=a8 ⟨.type "tuple",af,.seq #[.int 0 gt3,.int 1 gt4] ga2n,ga2s⟩) (gn2:bx K aA "ANSWERS" = a8 (a8 (.ref ga2))) (gn3:bx K aA "NOT_TOLD" = a8 (a8 (.int 2 gt5))) (ga6l:K.lookup ga6=a8 ⟨.type "tuple",af,.seq #[.int 0 gt7,.int 1 gt8,.int 2 gt9] ga6n,ga6s⟩) (gn4:bx K aA "TELLINGS" = a8 (a8 (.ref ga6))) (gn5:bx K aA "LEAST_PRICE" = a8 (a8 (.int 1 gt10))) (gn6:bx K aA "LEAST_WEIGHT" = a8 (a8 (.int 0 gt11))) (gn7:bx K aA "GREATEST_NUMBER" = a8 (a8 (.int 1000000 gt12))) (gn8:bx K aA "FEWEST_AT_ONCE" = a8 (a8 (.int 1 gt13))) (gn9:bx K aA "MOST_AT_ONCE" = a8 (a8 (.int 6 gt14)))
  {fu n:Nat} (hlaw:∀ns:zo,ns.length<=63->evP fu G T (n+1) "law" [.lst (ns.map D.int)]=.val (.bl ae)) :
  ∃fd:aJ,(∀(s:aq)(v:ah),dP s fd ⟨[v],[]⟩ [("_law_script",v)])/\∀base:aE,K.In base->base.Ns aA mg->FnOk l.prog w K mg base CX0 (lv (n+1)) fa fd ["_law_script"] (j33 K):=by
 have hL:=h55;obtain⟨f,oc,od,kV,dc,pm,an,cd,ct,sl,a,lk,c,k⟩:=hL;have e:=hfa.symm.trans (Ti X Gn a);cases e;refine⟨PySem.W.fnOf "law" "law" (v8 (top 81)) (ql (top 81)) (jn (top 81)) .none kV dc pm an cd ct,λs v=>.of_eq rfl,λbase hKb hNb=>?_⟩;have hT:∀x F,T x=a8 F->LkF l.prog w K mg base x F:=λx F hx=>by
  have all:∀p∈tbl,LkF l.prog w K mg base p.1 p.2:=by
   intro p hp;simp only[tbl,Xb,gz,or_false]at hp;rcases hp with rfl|rfl|rfl|rfl|rfl|rfl|rfl|rfl|rfl|rfl|rfl|rfl|rfl|rfl|rfl|rfl|rfl|rfl|rfl|rfl|rfl|rfl|rfl|rfl|rfl|rfl|rfl|rfl|rfl|rfl|rfl|rfl|rfl|rfl|rfl|rfl|rfl|rfl|rfl|rfl|rfl|rfl|rfl|rfl|rfl|rfl|rfl|rfl|rfl|rfl|rfl|rfl|rfl|rfl|rfl|rfl|rfl|rfl|rfl|rfl
   .exact lkF (jl h0 X Gn j5l ["many"] (by walk_at "sc") rfl rfl (by walk_at "bnd") (by decide)) rfl (by decide)
   .exact lkF (jl h1 X Gn j3i ["many"] (by walk_at "sc") rfl rfl (by walk_at "bnd") (by decide)) rfl (by decide)
   .exact lkF (jl h2 X Gn j08 ["row"] (by walk_at "sc") rfl rfl (by walk_at "bnd") (by decide)) rfl (by decide)
   .exact lkF (jl h3 X Gn j5m ["part"] (by walk_at "sc") rfl rfl (by walk_at "bnd") (by decide)) rfl (by decide)
   .exact lkF (jl h4 X Gn j3j ["part"] (by walk_at "sc") rfl rfl (by walk_at "bnd") (by decide)) rfl (by decide)
   .exact lkF (jl h5 X Gn Ca ["part","spot","answer"] (by walk_at "sc") rfl rfl (by walk_at "bnd") (by decide)) rfl (by decide)
   .exact lkF (jl h6 X Gn Rg ["many"] (by walk_at "sc") rfl rfl (by walk_at "bnd") (by decide)) rfl (by decide)
   .exact lkF (jl h7 X Gn Kl ["figures_by_spot"] (by walk_at "sc") rfl rfl (by walk_at "bnd") (by decide)) rfl (by decide)
   .exact lkF (jl h8 X Gn j2r ["figures","base"] (by walk_at "sc") rfl rfl (by walk_at "bnd") (by decide)) rfl (by decide)
   .exact lkF (jl h9 X Gn j2s ["question","row"] (by walk_at "sc") rfl rfl (by walk_at "bnd") (by decide)) rfl (by decide)
   .exact lkF (jl h10 X Gn j07 ["question","part"] (by walk_at "sc") rfl rfl (by walk_at "bnd") (by decide)) rfl (by decide)
   .exact lkF (jl h11 X Gn j09 ["question","part"] (by walk_at "sc") rfl rfl (by walk_at "bnd") (by decide)) rfl (by decide)
   .exact lkF (jl h12 X Gn Cd ["question","places"] (by walk_at "sc") rfl rfl (by walk_at "bnd") (by decide)) rfl (by decide)
   .exact lkF (jl h13 X Gn j3k ["question"] (by walk_at "sc") rfl rfl (by walk_at "bnd") (by decide)) rfl (by decide)
   .exact lkF (jl h14 X Gn j5k ["question","place"] (by walk_at "sc") rfl rfl (by walk_at "bnd") (by decide)) rfl (by decide)
   .exact lkF (jl h15 X Gn j7f ["row","spots"] (by walk_at "sc") rfl rfl (by walk_at "bnd") (by decide)) rfl (by decide)
   .exact lkF (jl h16 X Gn Dj ["many"] (by walk_at "sc") rfl rfl (by walk_at "bnd") (by decide)) rfl (by decide)
   .exact lkF (jl h17 X Gn Wv ["places","order"] (by walk_at "sc") rfl rfl (by walk_at "bnd") (by decide)) rfl (by decide)
   .exact lkF (jl h18 X Gn Cg ["question","one","other"] (by walk_at "sc") rfl rfl (by walk_at "bnd") (by decide)) rfl (by decide)
   .exact lkF (jl h19 X Gn Ce ["part","places","order"] (by walk_at "sc") rfl rfl (by walk_at "bnd") (by decide)) rfl (by decide)
   .exact lkF (jl h20 X Gn Kg ["many","prices"] (by walk_at "sc") rfl rfl (by walk_at "bnd") (by decide)) rfl (by decide)
   .exact lkF (jl h21 X Gn Uu ["weights","many"] (by walk_at "sc") rfl rfl (by walk_at "bnd") (by decide)) rfl (by decide)
   .exact lkF (jl h22 X Gn Km ["numbers","least"] (by walk_at "sc") rfl rfl (by walk_at "bnd") (by decide)) rfl (by decide)
   .exact lkF (jac h23 X Gn Kd ["question","prices"] (by walk_at "sc") rfl rfl (by decide) (by walk_at "bnk")) rfl (by decide)
   .exact lkF (jl h24 X Gn (Ra (Zg h24)) ["question","prices"] (by walk_at "sc") rfl rfl (by walk_at "bnd") (by decide)) rfl (by decide)
   .exact lkF (jl h25 X Gn Kh ["question","cost_of_ask"] (by walk_at "sc") rfl rfl (by walk_at "bnd") (by decide)) rfl (by decide)
   .exact lkF (jl h26 X Gn (Di (Zg h26)) ["whole_part","question","cost_of_ask"] (by walk_at "sc") rfl rfl (by walk_at "bnd") (by decide)) rfl (by decide)
   .exact lkF (jl h27 X Gn Oh ["whole_part","question","number_unsettled"] (by walk_at "sc") rfl rfl (by walk_at "bnd") (by decide)) rfl (by decide)
   .exact lkF (jl h28 X Gn Ci ["numbers","part","cost_of_ask"] (by walk_at "sc") rfl rfl (by walk_at "bnd") (by decide)) rfl (by decide)
   .exact lkF (jl h29 X Gn Oi ["numbers","part","spot"] (by walk_at "sc") rfl rfl (by walk_at "bnd") (by decide)) rfl (by decide)
   .exact lkF (jl h30 X Gn Kf ["question","at_once"] (by walk_at "sc") rfl rfl (by walk_at "bnd") (by decide)) rfl (by decide)
   .exact lkF (jl h31 X Gn (Dh (Zg h31)) ["whole_part","question","at_once"] (by walk_at "sc") rfl rfl (by walk_at "bnd") (by decide)) rfl (by decide)
   .exact lkF (jl h32 X Gn j0a ["numbers","part","at_once"] (by walk_at "sc") rfl rfl (by walk_at "bnd") (by decide)) rfl (by decide)
   .exact lkF (jl h33 X Gn Od ["numbers","part","spots"] (by walk_at "sc") rfl rfl (by walk_at "bnd") (by decide)) rfl (by decide)
   .exact lkF (jl h34 X Gn j2q ["part","at_once"] (by walk_at "sc") rfl rfl (by walk_at "bnd") (by decide)) rfl (by decide)
   .exact lkF (jl h35 X Gn Wu ["at_once"] (by walk_at "sc") rfl rfl (by walk_at "bnd") (by decide)) rfl (by decide)
   .exact lkF (jac h36 X Gn Ke ["question","weights","prices"] (by walk_at "sc") rfl rfl (by decide) (by walk_at "bnk")) rfl (by decide)
   .exact lkF (jl h37 X Gn (Rb (Zg h37)) ["question","weights","prices"] (by walk_at "sc") rfl rfl (by walk_at "bnd") (by decide)) rfl (by decide)
   .exact lkF (jl h38 X Gn Oc ["many","weights"] (by walk_at "sc") rfl rfl (by walk_at "bnd") (by decide)) rfl (by decide)
   .exact lkF (jl h39 X Gn jby ["_law_script","_law_k"] (by walk_at "sc") rfl rfl (by walk_at "bnd") (by decide)) rfl (by decide)
   .exact lkF (jl h40 X Gn j8x ["_law_cell_here","_law_many"] (by walk_at "sc") rfl rfl (by walk_at "bnd") (by decide)) rfl (by decide)
   .exact lkF (jl h41 X Gn jg0 ["_law_row_here","_law_kind","_law_cell_here"] (by walk_at "sc") rfl rfl (by walk_at "bnd") (by decide)) rfl (by decide)
   .exact lkF (jl h42 X Gn j3l ["_law_script","_law_at","_law_most"] (by walk_at "sc") rfl rfl (by walk_at "bnd") (by decide)) rfl (by decide)
   .exact lkF (jl h43 X Gn j7h ["_law_cell_here","_law_many"] (by walk_at "sc") rfl rfl (by walk_at "bnd") (by decide)) rfl (by decide)
   .exact lkF (jl h44 X Gn j8z ["_law_fees","_law_many"] (by walk_at "sc") rfl rfl (by walk_at "bnd") (by decide)) rfl (by decide)
   .exact lkF (jl h45 X Gn jfz ["_law_many","_law_number_here"] (by walk_at "sc") rfl rfl (by walk_at "bnd") (by decide)) rfl (by decide)
   .exact lkF (jl h46 X Gn j8y ["_law_cell_here","_law_many"] (by walk_at "sc") rfl rfl (by walk_at "bnd") (by decide)) rfl (by decide)
   .exact lkF (jl h47 X Gn j2t ["_law_answers","_law_many","_law_mask"] (by walk_at "sc") rfl rfl (by walk_at "bnd") (by decide)) rfl (by decide)
   .exact lkF (jl h48 X Gn j5n ["_law_cell_here","_law_many"] (by walk_at "sc") rfl rfl (by walk_at "bnd") (by decide)) rfl (by decide)
   .exact lkF (jl h49 X Gn Cj ["_law_some","_law_many","_law_order_here"] (by walk_at "sc") rfl rfl (by walk_at "bnd") (by decide)) rfl (by decide)
   .exact lkF (jl h50 X Gn jbx ["_law_many","_law_number_here"] (by walk_at "sc") rfl rfl (by walk_at "bnd") (by decide)) rfl (by decide)
   .exact lkF (jl h51 X Gn j7i ["_law_part_here"] (by walk_at "sc") rfl rfl (by walk_at "bnd") (by decide)) rfl (by decide)
   .exact lkF (jl h52 X Gn j7g ["_law_question_here","_law_loads","_law_fees","_law_at_once"] (by walk_at "sc") rfl rfl (by walk_at "bnd") (by decide)) rfl (by decide)
   .exact lkF (jl h53 X Gn j7j ["_law_question_here","_law_cell_here"] (by walk_at "sc") rfl rfl (by walk_at "bnd") (by decide)) rfl (by decide)
   .exact lkF (jl h54 X Gn j5o ["_law_places","_law_names","_law_size"] (by walk_at "sc") rfl rfl (by walk_at "bnd") (by decide)) rfl (by decide)
   .exact lkF (jl h55 X Gn jeq ["_law_script"] (by walk_at "sc") rfl rfl (by walk_at "bnd") (by decide)) rfl (by decide)
   .exact Ir (by decide +kernel) (Zg h24) rfl Rh ["numbers","part","spot"] (by walk_at "scl") rfl rfl rfl rfl (by walk_at "bndl")
   .exact Ir (by decide +kernel) (Zg h26) rfl Dl ["numbers","part"] (by walk_at "scl") rfl rfl rfl rfl (by walk_at "bndl")
   .exact Ir (by decide +kernel) (Zg h31) rfl Dk ["numbers","part"] (by walk_at "scl") rfl rfl rfl rfl (by walk_at "bndl")
   .exact Ir (by decide +kernel) (Zg h37) rfl Ri ["numbers","part","spot"] (by walk_at "scl") rfl rfl rfl rfl (by walk_at "bndl")
  exact all (x,F) (lookup_mem hx)
 have bt:=joz X Gn bz;have gl:∀x d,gs.lookup x=a8 d->∃u v,mg x=a8 u/\RelV v u/\∀H,Enc K H d v:=by
  intro x d hx;have hm:=lookup_mem hx;simp only[gs,Xb,gz,or_false,Prod.mk.injEq]at hm;rcases hm with ⟨e1,e2⟩|⟨e1,e2⟩|⟨e1,e2⟩|⟨e1,e2⟩|⟨e1,e2⟩|⟨e1,e2⟩|⟨e1,e2⟩|⟨e1,e2⟩|⟨e1,e2⟩|⟨e1,e2⟩
  .subst e1 e2;exact⟨.int 1 gt0,.int 1,Ti X Gn gn0,⟨_,rfl⟩,λ_=>rfl⟩
  .subst e1 e2;exact⟨.int 6 gt1,.int 6,Ti X Gn gn1,⟨_,rfl⟩,λ_=>rfl⟩
  .subst e1 e2;exact⟨.ref ga2,.ref ga2,Ti X Gn gn2,rfl,λH=>⟨ga2,[.int 0,.int 1],rfl,.inr ⟨_,_,_,ga2l,rfl,rfl,rfl,(by show 2<=aw;decide),(.cons ⟨_,rfl⟩ (.cons ⟨_,rfl⟩ .nil))⟩,⟨_,_,rfl,rfl,⟨_,_,rfl,rfl,rfl⟩⟩⟩⟩
  .subst e1 e2;exact⟨.int 2 gt5,.int 2,Ti X Gn gn3,⟨_,rfl⟩,λ_=>rfl⟩
  .subst e1 e2;exact⟨.ref ga6,.ref ga6,Ti X Gn gn4,rfl,λH=>⟨ga6,[.int 0,.int 1,.int 2],rfl,.inr ⟨_,_,_,ga6l,rfl,rfl,rfl,(by show 3<=aw;decide),(.cons ⟨_,rfl⟩ (.cons ⟨_,rfl⟩ (.cons ⟨_,rfl⟩ .nil)))⟩,⟨_,_,rfl,rfl,⟨_,_,rfl,rfl,⟨_,_,rfl,rfl,rfl⟩⟩⟩⟩⟩
  .subst e1 e2;exact⟨.int 1 gt10,.int 1,Ti X Gn gn5,⟨_,rfl⟩,λ_=>rfl⟩
  .subst e1 e2;exact⟨.int 0 gt11,.int 0,Ti X Gn gn6,⟨_,rfl⟩,λ_=>rfl⟩
  .subst e1 e2;exact⟨.int 1000000 gt12,.int 1000000,Ti X Gn gn7,⟨_,rfl⟩,λ_=>rfl⟩
  .subst e1 e2;exact⟨.int 1 gt13,.int 1,Ti X Gn gn8,⟨_,rfl⟩,λ_=>rfl⟩
  .subst e1 e2;exact⟨.int 6 gt14,.int 6,Ti X Gn gn9,⟨_,rfl⟩,λ_=>rfl⟩
 have tb:Tb l.prog w K mg base G:=jnd bt gl hKb hNb (jo6 tz X Gn);exact jkv hT tb (F:=j82) (by rfl) rfl hfa (Ed lk c k) _ (by walk_at "sc") rfl rfl (jeq _) hlaw
end K51
end
open PySem (Str sizeLine argBest)
open L2
namespace K51
open KL KW KV
def Uh:T "_law_cell" = a8 KL.fL_cell:=by rfl
def Y9:T "all_choices" = a8 KL.fP_all_choices:=by rfl
def j6s:T "rows_in" = a8 KL.fP_rows_in:=by rfl
def jld:T "_law_bit" = a8 KW.fL_bit:=by rfl
def gN:G "NOT_TOLD" = a8 (.int 2):=by rfl
def gA:G "ANSWERS" = a8 (.tup [.int 0,.int 1]):=by rfl
def gT:G "TELLINGS" = a8 (.tup [.int 0,.int 1,.int 2]):=by rfl
theorem Zj{b:Int}:∀{m i:Nat}{z:Int},i<m->(j7 b m z)[i]?=a8 (z/b^(m-1-i)%b)
 |m+1,0,z,_=>by rw[j7,iI];simp
 |m+1,i+1,z,h=>by rw[j7,S6,Zj nofun];congr 3;congr 1;omega
variable{fu n m:Nat}{z:Int}
def j5w  {b:Int} (hm:m<=6) (hb:b=2\/b=3) (hz:0<=z/\z<b^m):evP fu G T (n+1) "number_of" [.tup ((j7 b m z).map .int),.int b]=.val (.int z):=by
 rw[jb (F:=W2) (by rfl) rfl];simp only[W2,Vx,enter];ext;have z0:z/b^m=0:=Tu hz.1 hz.2;refine Jv (λi ρ=>∃s3,ρ=[.val (.tup ((j7 b m z).map .int)),.val (.int b),.val (.int (z/b^(m-i))),s3]) ⟨.un,by rw[mw,z0]⟩ ?_ ?_
 .rintro i d ρ hi ⟨s3,rfl⟩;obtain⟨v,hv,rfl⟩:=Mq hi;have hlt:i<m:=by have:=(Xe.mp hv).1;rw[jt]at this;exact this
  rw[Zj hlt]at hv;cases hv;simp only[za];ext;refine⟨_,rfl,?_⟩;have e1:m-i=(m-1-i)+1:=by omega
  have e2:m-(i+1)=m-1-i:=by omega
  have e3:z/b^(m-i)*b+z/b^(m-1-i)%b=z/b^(m-(i+1)):=by rw[e1,e2,<-j4x z b nofun,cT];exact Int.mul_ediv_add_emod _ _
  rw[e3];exact⟨_,rfl⟩
 .rintro ρ' ⟨s3,rfl⟩;ext;simp[jt]
def Ot   (h:1<=m/\m<=6) (hz:0<=z/\z<2^m):evP 1000 G T (n+2) "row_number" [jd (j7 2 m z)]=.val (.int z):=by
 rw[jb (F:=U7) (by rfl) rfl];simp only[U7,V8,enter];ext;simp only[gA];ext;have e:evP 1000 G T (n+1) "number_of" [jd (j7 2 m z),.int 2]=.val (.int z):=j5w h.2 (.inl rfl) hz;have e2:(((0+1+1:Nat):Int))=2:=rfl
 first|rw[e]|(rw[e2,e])
 ext
noncomputable def qD(ws:List au)(a:zo):D:=.tup [.tup (ws.map D.str),.tup (a.map D.int)]
variable{p:zo}{k:Nat}
def U4(h:k<p.length):atI (p.map D.int) (k:Int)=a8 (.int (p.getD k 0)):=by
 have:=Fj h
 rwa [Xz]at this
variable{ws:List au}{a:zo}
def Dz    (hm:1<=m/\m<=6) (ha:a.length=2^m) (hk:k<2^m):evP 1000 G T (n+3) "answer_to" [qD ws a,jd (j7 2 m (k:Int))]=.val (.int (a.getD k 0)):=by
 rw[jb (F:=W3) (by rfl) rfl];simp only[W3,Vy,enter,qD];have pc:((2^m:Nat):Int)=(2:Int)^m:=by simp
 have i1:atI [D.tup (ws.map D.str),.tup (a.map D.int)] 1=a8 (.tup (a.map D.int)):=rfl;ext;erw[i1,Ot (n:=n) hm nofun,U4 nofun]
def jap{l:List D}(h:k<=l.length):cutD l af (a8 (k:Int))=l.take k:=by unfold cutD;rw[HT.sIx_none,HT.sIx_nat,dD,mw,l5 h]
def j52{l:List D}(h:k<=l.length):cutD l (a8 (k:Int)) af=l.drop k:=by unfold cutD;rw[HT.sIx_none,HT.sIx_nat,l5 h,T9 (by rw[Tv];omega)]
noncomputable def inL(p:zo)(m:Nat):List Nat:=(ao (2^m)).filter λ(k:Nat)=>fits p (j7 2 m (k:Int))
noncomputable def cnt(a p:zo)(m:Nat)(v:Int):Nat:=(inL p m).countP λ(k:Nat)=>a.getD k 0==v
def Mm(hp:p.length=m)(hp3:∀t∈p,0<=t/\t<3):qx (p.map Vo)=(inL p m).map λ(k:Nat)=>j7 2 m (k:Int):=by rw[zy,<-Bj hp3,hp,<-La,kS];rfl
def j6r(hp:p.length=m)(hp3:∀t∈p,0<=t/\t<3):1<=(inL p m).length/\(inL p m).length<=2^m:=by
 have h1:=congrArg d8 (Mm hp hp3);rw[zy,Uw,xg]at h1;constructor
 .rw[<-h1];exact kn
 .unfold inL;exact Xn (Pu _ _) (by rw[Xg];exact X8 _)
theorem j71{a:zo}(h01:∀x∈a,x=0\/x=1):∀L:List Nat,(L.countP λ(k:Nat)=>a.getD k 0==0)+(L.countP λ(k:Nat)=>a.getD k 0==1)=L.length
 |[]=>rfl
 |k::L=>by
  have ih:=j71 h01 L;rw[S8,S8,xx]
  try dsimp only
  rcases j8d h01 k with e|e
  .rw[e,if_pos (by decide),if_neg (by decide)];omega
  .rw[e,if_neg (by decide),if_pos (by decide)];omega
def j53    (hm:1<=m/\m<=6) (ha:a.length=2^m) (hp:p.length=m) (hp3:∀t∈p,0<=t/\t<3):evP 1000 G T (n+4) "counted_in" [qD ws a,jd p]=.val (.tup [.int (cnt a p m 0),.int (cnt a p m 1)]):=by
 rw[jb (F:=U8) (by rfl) rfl];simp only[U8,V9,enter];have ri:evP 1000 G T (n+3) "rows_in" [jd p]=.fresh (ju (qx (p.map Vo))):=Dm (n:=n+1) j6s Y9 gN gA nofun
 have as1:∀k:Nat,k<2^m->evP 1000 G T (n+3) "answer_to" [qD ws a,jd (j7 2 m (k:Int))]=.val (.int (a.getD k 0)):=λk hk=>Dz hm ha hk;have l:=j6r hp hp3;have p2:=Ld hm.2;have pc:((2^m:Nat):Int)=(2:Int)^m:=by simp
 have cn:∀v:Int,(((inL p m).map λ(k:Nat)=>D.int (a.getD k 0)).countP λe=>deq e (.int v))=cnt a p m v:=λv=>by rw[gR];rfl
 have dp:D.depL ((inL p m).map λ(k:Nat)=>D.int (a.getD k 0))<=90:=by
  have:=D.depL_of (ds:=(inL p m).map λ(k:Nat)=>D.int (a.getD k 0)) (n:=0) λd hd=>by obtain⟨x,_,rfl⟩:=xr.mp hd;simp[D.dep]
  omega
 ext;rw[ri,Mm hp hp3];ext;rw[jj (l:=(inL p m).map λ(k:Nat)=>D.int (a.getD k 0)) (by rfl) (by simp only[ju,xg];omega) ?_ (.inl rfl)];rotate_left
 .rw[ju,Xf];refine je λk hk'=>jx (by ext) ?_;have hk:=Xa.mp (Xk.mp hk').1;ext;rw[c9,as1 k hk];ext
 ext;rw[j70 dp (by simp[D.dep]),j70 dp (by simp[D.dep]),cn,cn];ext
def j3s    (hm:1<=m/\m<=6) (ha:a.length=2^m) (hp:p.length=m) (hp3:∀t∈p,0<=t/\t<3):evP 1000 G T (n+5) "settled_by" [qD ws a,jd p]=.val (if cnt a p m 1=0 then .int 0 else if cnt a p m 0=0 then .int 1 else .non):=by
 rw[jb (F:=U6) (by rfl) rfl];simp only[U6,V7,enter];have i0:∀x y:D,atI [x,y] 0=a8 x:=λ_ _=>rfl;have i1:∀x y:D,atI [x,y] 1=a8 y:=λ_ _=>rfl;have c:=j53 (n:=n) (ws:=ws) hm ha hp hp3;ext;rw[c];ext;rw[i1];by_cases h1:cnt a p m 1=0
 .ext;rw[if_pos h1]
 .rw[if_neg h1];ext;rw[i0];by_cases h0:cnt a p m 0=0
  .ext;rw[if_pos h0]
  .ext;rw[if_neg h0]
noncomputable def jc2(c0 c1:Nat):D:=if c1=0 then .int 0 else if c0=0 then .int 1 else .non
def j1p    (hm:1<=m/\m<=6) (ha:a.length=2^m) (hp:p.length=m) (hp3:∀t∈p,0<=t/\t<3):evP 1000 G T (n+5) "settled_by" [.tup [.tup (ws.map D.str),.tup (a.map D.int)],jd p]=.val (jc2 (cnt a p m 0) (cnt a p m 1)):=j3s hm ha hp hp3
noncomputable def Jb(m:Nat):List zo:=(ao (3^m)).map λn=>j7 3 m ((n:Nat):Int)
def j2w(m:Nat):(Jb m).length=3^m:=by simp[Jb]
def Dp(m:Nat):Jb (m+1)=(Jb m).map (0 :: ·)++(Jb m).map (1 :: ·)++(Jb m).map (2 :: ·):=by
 have e:3^(m+1)=3^m+3^m+3^m:=by rw[cq];omega
 have pc:((3^m:Nat):Int)=(3:Int)^m:=by simp
 have hp:(3:Int)^m≠0:=gj (T8 (by decide));have key:∀(c n:Nat),c<3->n<3^m->j7 3 (m+1) (((n:Nat):Int)+3^m*(c:Int))=(c:Int)::j7 3 m (n:Int):=λc n hc hn=>by
  rw[j7,Yh (by decide) _ _ (X8 m)];congr 1;have h0:(n:Int)/3^m=0:=Tu nofun (by rw[<-pc];omega)
  rw[cX _ _ hp,h0,Xz];omega
 unfold Jb;rw[e,i5,i5,Xi,Xi,Xf,Xf,Xf,Xf,Xf];congr 1
 .congr 1
  .apply Xu;intro n hn;have:=key 0 n (by decide) (Xa.mp hn);simpa using this
  .apply Xu;intro n hn;have:=key 1 n (by decide) (Xa.mp hn);show j7 3 (m+1) ((3^m+n:Nat):Int)=1::j7 3 m (n:Int);rw[show((3^m+n:Nat):Int)=(n:Int)+3^m*((1:Nat):Int)by rw[eW,pc];omega,this];rfl
 .apply Xu;intro n hn;have:=key 2 n (by decide) (Xa.mp hn);show j7 3 (m+1) ((3^m+3^m+n:Nat):Int)=2::j7 3 m (n:Int);rw[show((3^m+3^m+n:Nat):Int)=(n:Int)+3^m*((2:Nat):Int)by rw[eW,eW,pc];omega,this];rfl
def j41(h:m<=6):1<=3^m/\3^m<=729:=by
 have:m=0\/m=1\/m=2\/m=3\/m=4\/m=5\/m=6:=by omega
 rcases this with e|e|e|e|e|e|e<;>subst e<;>decide
def Ij(h:k<3^m):(Jb m)[k]?=a8 (j7 3 m (k:Int)):=by rw[Jb,xm,Xm h];rfl
theorem j46:∀{m:Nat}{p:zo},p∈Jb m->p.length=m/\∀t∈p,0<=t/\t<3
 |0,p,h=>by
  have:p=[]:=by simpa [Jb,j7]using h
  subst this;exact⟨rfl,λt ht=>nomatch ht⟩
 |m+1,p,h=>by
  rw[Dp]at h;have key:∀(c:Int),0<=c/\c<3->p∈(Jb m).map (c :: ·)->p.length=m+1/\∀t∈p,0<=t/\t<3:=λc hc h=>by
   obtain⟨q,hq,rfl⟩:=xr.mp h;obtain⟨h1,h2⟩:=j46 hq;refine⟨by simp[h1],λt ht=>?_⟩;rcases Xb.mp ht with e|ht
   .rw[e];exact hc
   .exact h2 t ht
  rcases P0.mp h with h|h
  .rcases P0.mp h with h|h
   .exact key 0 (by decide) h
   .exact key 1 (by decide) h
  .exact key 2 (by decide) h
def Br(p:zo):vf (p.map D.int)=(ao p.length).map λ(s:Nat)=>D.tup [.int (s:Int),.int (p.getD s 0)]:=by
 refine Xy λi=>?_;rw[Wl,xm,xm];by_cases h:i<p.length
 .rw[Xm h,kh h];simp[h]
 .rw[Xc nofun,Xc (by simp;omega)];rfl
noncomputable def stD(a p:zo)(m:Nat):D:=jc2 (cnt a p m 0) (cnt a p m 1)
variable{s:Nat}
def j1n   {v:Int} (hl:p.length<=6) (hs:s<p.length) (h2:p.getD s 0=2):evP 1000 G T (n+1) "told_further" [jd p,.int s,.int v]=.val (jd (p.set s v)):=by
 rw[jb (F:=Vp) (by rfl) rfl];simp only[Vp,Z5,enter];have gi:=U4 hs;rw[h2]at gi;have lp:(p.map D.int).length=p.length:=xg ..;have w1:¬(HT.sIx (p.map D.int).length 0 af=0/\HT.sIx (p.map D.int).length (p.map D.int).length (a8 (s:Int))=(p.map D.int).length):=by rw[HT.sIx_nat,lp];omega
 have e1:(s:Int)+1=((s+1:Nat):Int):=by omega
 have w2:¬(HT.sIx (p.map D.int).length 0 (a8 ((s+1:Nat):Int))=0/\HT.sIx (p.map D.int).length (p.map D.int).length af=(p.map D.int).length):=by rw[HT.sIx_nat,lp];omega
 ext;rw[gi];ext;simp only[gN];ext;rw[Kv w1,e1,Kv w2,jap nofun,j52 nofun];ext;rw[jd,fY,if_pos hs];simp
def jib(h01:∀x∈a,x=0\/x=1)(hp:p.length=m)(hp3:∀t∈p,0<=t/\t<3):cnt a p m 0+cnt a p m 1=2^(p.countP λt=>t==2):=by have h:=j71 h01 (inL p m);have h1:=congrArg d8 (Mm hp hp3);rw[zy,Uw,xg]at h1;unfold cnt;omega
noncomputable def jc(p:zo)(m:Nat):List Nat:=(ao m).filter λ(k:Nat)=>decide (p.getD k 0=2)
def jco:∀(p:zo),(jc p p.length).length=p.countP λt=>t==2:=by
 intro p;unfold jc;rw[<-List.countP_eq_length_filter];have:∀(p:zo),(ao p.length).countP (λ(k:Nat)=>decide (p.getD k 0=2))=p.countP λt=>t==2:=by
  intro p;induction p with
  |nil=>rfl
  |cons t ts ih =>
   rw[xx,Sd,S8,gR,S8,<-ih];congr 1
   try simp only[fD]
   try (by_cases h:t=2<;>simp[h])
 exact this p
noncomputable def vo(t:Int):zo:=if t=2 then[0,1,2] else[t]
def Oz   (hp:p.length<=6):evP 1000 G T (n+2) "parts_in" [jd p]=.fresh (ju (qx (p.map vo))):=by
 rw[jb (F:=Wz) (by rfl) rfl];simp only[Wz,Yt,enter];ext;rw[jj (l:=ju (p.map vo)) (by rfl) ?_ ?_ (.inl rfl)]
 .ext;rw[Zm Y9 (λf hf=>by obtain⟨t,_,rfl⟩:=xr.mp hf;unfold vo;split<;>simp) (by rw[xg];exact hp)];ext
 .rw[xg];omega
 .rw[ju,Xf];refine je λt _=>jx (by ext) ?_;by_cases h:t=2
  .ext;simp only[gN];ext;simp only[gT];ext;simp[vo,h]
  .ext;simp only[gN];ext;simp[vo,h]
def j9t(m:Nat):qx ((ak m (2:Int)).map vo)=Jb m:=by
 rw[zy];induction m with
 |zero=>rfl
 |succ k ih=>rw[Ph,X7,zu,ih,Dp];simp[vo]
def gF:G "FEWEST_PLACES" = a8 (.int 1):=by rfl
def gM:G "MOST_PLACES" = a8 (.int 6):=by rfl
def j1s  {m:Int} (h:1<=m/\m<=6):evP fu G T (n+1) "refuse_wrong_size" [.int m]=.val .non:=by rw[jb (F:=Qt) (by rfl) rfl];simp only[Qt,J8,enter];ext;simp only[gF];ext;simp only[gM];ext
variable{ks:List zo}{ns:zo}{x y:Int}
def Dy(hl:p.length<=6)(hs:s<p.length)(h2:p.getD s 0=2)(hx:zj ks (ns.map D.int) (p.set s 0)=a8 (.int x))(hy:zj ks (ns.map D.int) (p.set s 1)=a8 (.int y)) :
  evP 1000 G T (n+2) "numbers_behind" [.dct ks (ns.map D.int),jd p,.int s]=.fresh ([x,y].map D.int):=by
 have t0:=j1n (n:=n) (v:=0) hl hs h2;have t1:=j1n (n:=n) (v:=1) hl hs h2;simp only[jd]at t0 t1 ⊢;rw[jb (F:=V2) (by rfl) rfl];simp only[V2,Q3,enter];ext;simp only[gA];ext;rw[jj (l:=[x,y].map D.int) (by rfl) (by decide) ?_ (.inr (qt _))]
 .ext
 .rw[Je,jx (d':=.int x) (by ext) (by ext;rw[t0];ext;rw[Fq hx])];rw[Je,jx (d':=.int y) (by ext) (by ext;rw[t1];ext;rw[Fq hy])];rfl
def j64(l:List zo)(h:∀k∈l,k.length=2):∀k,k<l.length->aN (Q0 l) k<=k/\∀j,j<=k->(l.getD (aN (Q0 l) k) []).getD 0 0<=(l.getD j []).getD 0 0:=by
 have two:∀i,i<l.length->∃a b,l.getD i []=[a,b]:=λi hi=>by
  have e:l.getD i []=l[i]:=by rw[xf,kh hi];rfl
  have hm:=h _ (Xx hi);rw[e]
  match l[i],hm with|[a,b],_=>exact⟨a,b,rfl⟩
 intro k;induction k with
 |zero=>exact λ_=>⟨X8 _,λj hj=>by rw[Nat.le_zero.mp hj];exact Sg _⟩
 |succ k ih =>
  intro hk;obtain⟨h1,h2⟩:=ih nofun
  obtain⟨a,b,e1⟩:=two (k+1) hk;obtain⟨c,d,e2⟩:=two (aN (Q0 l) k) nofun
  rw[aN];cases z:Q0 l (k+1) (aN (Q0 l) k) with
  |true =>
   rw[if_pos rfl];refine⟨X8 _,λj hj=>?_⟩;have z:HT.lexLt (l.getD (k+1) []) (l.getD (aN (Q0 l) k) [])=ae:=z;rw[e1,e2]at z;have z:a<=c:=by
    rw[HT.lexLt]at z;by_cases q:a=c
    .omega
    .rw[if_neg q]at z;have:=of_decide_eq_true z;omega
   rcases eO j (k+1)with q|q
   .have:=h2 j nofun
    rw[e2]at this;rw[e1];exact mC z this
   .rw[show j=k+1 by omega];exact Sg _
  |false =>
   rw[if_neg xq];refine⟨by omega,λj hj=>?_⟩;have z:HT.lexLt (l.getD (k+1) []) (l.getD (aN (Q0 l) k) [])=a9:=z;rw[e1,e2]at z;have z:c<=a:=by
    rw[HT.lexLt]at z;by_cases q:a=c
    .omega
    .rw[if_neg q]at z;have:=of_decide_eq_false z;omega
   rcases eO j (k+1)with q|q
   .exact h2 j nofun
   .rw[show j=k+1 by omega,e1,e2];exact z
def j1j(pr:zo):Prop:=∀s,s<pr.length->0<=pr.getD s 0/\pr.getD s 0<=1000000
variable{pr:zo}
def jaq{wk:List zo}{wv:zo}{w:Int}(hw:j1j pr/\zj wk (wv.map D.int) p=a8 (.int w))(hl:p.length<=6)(hs:s<p.length)(hr:s<pr.length)(h2:p.getD s 0=2)(hx:zj ks (ns.map D.int) (p.set s 0)=a8 (.int x))(hy:zj ks (ns.map D.int) (p.set s 1)=a8 (.int y)) :
  evP 1000 G T (n+3) (qg "whole_cost_of_ask") [.dct wk (wv.map D.int),.lst (pr.map D.int),.dct ks (ns.map D.int),jd p,.int s]=.lval (.int (pr.getD s 0*w+(x+y))):=by
 have b:=Dy (n:=n) hl hs h2 hx hy;have g:=U4 hr;have hb:=hw.1 s hr;rw[Fo (F:=Qp) (by rfl) rfl];simp only[Qp,J5,enter];simp only[jd]at b ⊢;ext;rw[g,Fq hw.2,b];ext;rw[show([D.int x,D.int y]:List D)=[x,y].map D.int from rfl,jes];ext;rw[show[x,y].sum=x+y by simp]
theorem Mj:∀l:zo,J2 (l.map D.int)=ae
 |[]=>rfl
 |_::l=>by rw[X7,J2,Mj l];rfl
def Uy(ks:List zo)(ns:zo):noFn (.dct ks (ns.map D.int))=ae:=by rw[noFn,Mj]
def Lj(l:zo):noFn (.tup (l.map D.int))=ae:=by rw[noFn,Mj]
def at0(a b:D):atI [a,b] 0=a8 a:=rfl
def at1(a b:D):atI [a,b] 1=a8 b:=rfl
noncomputable def jy:zo->Int
 |[]=>0
 |d::ds=>d*3^ds.length+jy ds
theorem Q4:∀{p:zo},(∀t∈p,0<=t/\t<3)->0<=jy p/\jy p<3^p.length
 |[],_=>⟨by decide,by decide⟩
 |d::ds,h=>by
  obtain⟨h1,h2⟩:=Q4 (p:=ds) λt ht=>h t (xn _ ht);have hd:=h d X6;have hp:(0:Int)<3^ds.length:=T8 (by decide);rw[jy,xx,cS];have:d=0\/d=1\/d=2:=by omega
  rcases this with e|e|e<;>subst e<;>exact⟨by omega,by omega⟩
theorem j4y:∀{p:zo},(∀t∈p,0<=t/\t<3)->j7 3 p.length (jy p)=p
 |[],_=>rfl
 |d::ds,h=>by have h':∀t∈ds,0<=t/\t<3:=λt ht=>h t (xn _ ht);obtain⟨h1,h2⟩:=Q4 h';have hd:=h d X6;have hp:(3:Int)^ds.length≠0:=gj (T8 (by decide));rw[jy,xx,show d*3^ds.length+jy ds=jy ds+3^ds.length*d by rw[cT,eQ],j7,Yh (by decide) _ _ (X8 _),j4y h'];congr 1;rw[cX _ _ hp,Tu h1 h2,Xz];omega
theorem j04:∀{p:zo}{s:Nat}{c:Int},s<p.length->jy (p.set s c)=jy p+(c-p.getD s 0)*3^(p.length-1-s)
 |d::ds,0,c,_=>by rw[T3,jy,jy,xx,fD,show ds.length+1-1-0=ds.length by omega,Int.sub_mul];omega
 |d::ds,s+1,c,h=>by have:=j04 (p:=ds) (s:=s) (c:=c) (by simpa using h);rw[Pz,jy,jy,Xq,xx,cy,this,show ds.length+1-1-(s+1)=ds.length-1-s by omega];omega
noncomputable def opB(a:zo)(m:Nat)(p:zo):Bool:=(stD a p m).isNon
variable{m:Nat}
def Nv(h01:∀x∈a,x=0\/x=1)(hp:p.length=m)(hp3:∀t∈p,0<=t/\t<3)(h:opB a m p=ae):jc p m≠[]:=λe=>by
 subst hp;have o:=jco p;rw[e]at o;have c:=jib (a:=a) h01 rfl hp3;rw[<-o]at c;unfold opB stD jc2 at h;have c:cnt a p p.length 0+cnt a p p.length 1=1:=c;split at h
 .cases h
 .split at h
  .cases h
  .omega
def gGN:G "GREATEST_NUMBER" = a8 (.int 1000000):=by rfl
def gLP:G "LEAST_PRICE" = a8 (.int 1):=by rfl
def gLW:G "LEAST_WEIGHT" = a8 (.int 0):=by rfl
noncomputable def btw(least x:Int):Bool:=decide (least<=x)&&decide (x<=1000000)
variable{l:zo}{least:Int}
def N5    (hl:l.length<=1000):evP 1000 G T (n+1) "all_between" [.lst (l.map D.int),.int least]=.val (.bl (l.all (btw least))):=by
 rw[jb (F:=Yg) (by rfl) rfl];simp only[Yg,Zz,enter];ext;rw[jj (l:=(l.map (btw least)).map D.bl) (by rfl) (by rw[xg];omega) ?_ (.inl rfl)]
 .ext;rw[iN];rfl
 .rw[Xf];refine je λx _=>jx (by ext) ?_;by_cases h1:least<=x
  .by_cases h2:x<=1000000
   .ext;simp only[gGN];ext;simp[btw,h1,h2]
   .ext;simp only[gGN];ext;simp[btw,h1,h2]
  .ext;simp[btw,h1]
def rep1(k:Nat):(ak k [D.int 1]).flatten=(ak k (1:Int)).map D.int:=by
 induction k with
 |zero=>rfl
 |succ k ih=>rw[Ph,Td,ih];rfl
def j1t  (hm:m<=6):evP 1000 G T (n+1) "prices_told" [.int m,.non]=.fresh ((ak m (1:Int)).map D.int):=by rw[jb (F:=Qc) (by rfl) rfl];simp only[Qc,Qf,enter];ext;rw[X5,rep1]
def j3z   (hl:pr.length=m) (hm:m<=6) (h:pr.all (btw 1)=ae):evP 1000 G T (n+2) "prices_told" [.int m,.lst (pr.map D.int)]=.fresh (pr.map D.int):=by rw[jb (F:=Qc) (by rfl) rfl];simp only[Qc,Qf,enter];ext;simp only[gLP];ext;rw[N5 nofun,h];ext
def ones(hm:1<=m/\m<=6):ak ((m:Nat):Int).toNat (D.int 1)=(j7 2 m (2^m-1)).map D.int:=by
 rw[X5];obtain rfl|rfl|rfl|rfl|rfl|rfl:m=1\/m=2\/m=3\/m=4\/m=5\/m=6:=by omega
 all_goals rfl
def j87  (hm:1<=m/\m<=6):evP 1000 G T (n+3) "count_of_rows" [.int m]=.val (.int ((2^m:Nat):Int)):=by
 rw[jb (F:=Vg) (by rfl) rfl];simp only[Vg,Qy,enter];have pc:((2^m:Nat):Int)=(2:Int)^m:=by simp
 have p2:=Ld (m:=m) nofun
 ext;rw[ones hm,Ot (n:=n) nofun nofun];ext;rw[pc];congr 2;omega
def p64(h:m<=6):2^m<=64:=T7 (n:=2) (j:=6) (by decide) h
def jgx  {wt:zo} (hm:1<=m/\m<=6) (hl:wt.length=2^m) (ha:wt.all (btw 0)=ae) (hs:wt.sum≠0):evP 1000 G T (n+4) "refuse_wrong_weights" [.lst (wt.map D.int),.int m]=.val .non:=by
 rw[jb (F:=Jg) (by rfl) rfl];simp only[Jg,v7,enter];have p6:=p64 hm.2;have hl':wt.length<=1000:=by omega
 ext;rw[j87 hm];ext;simp only[gLW];ext;rw[N5 hl',ha];ext
def N7    (hm:1<=m/\m<=6) (hw:ws.length=m):evP 1000 G T (n+1) "all_open" [qD ws a]=.val (jd (ak m 2)):=by
 rw[jb (F:=R8) (by rfl) rfl];simp only[R8,Yu,enter,qD];ext;simp only[gN];ext;rw[at0];ext;rw[hw]
 first|rfl|simp[jd]
noncomputable def prD(d:Option zo)(m:Nat):zo:=d.getD (ak m 1)
noncomputable def feD(d:Option zo):D:=match d with
 |none=>.non
 |some l=>.lst (l.map D.int)
def jog(hp:p.length=m)(hp3:∀t∈p,0<=t/\t<3):(jy p).toNat<3^m/\p=j7 3 m ((jy p).toNat:Int):=by
 obtain⟨b1,b2⟩:=Q4 hp3;have pc:((3^m:Nat):Int)=(3:Int)^m:=by simp
 rw[hp,<-pc]at b2;refine⟨by omega,?_⟩;rw[fH b1,<-hp];exact(j4y hp3).symm
noncomputable def PK(p:zo):List zo:=zu (p.map vo)
def Vj{t:Int}{p q:zo}:q∈PK (t::p) ↔ ∃x∈vo t,∃r∈PK p,q=x::r:=by
 unfold PK;rw[X7,zu,kD];constructor
 .rintro⟨x,hx,h⟩;obtain⟨r,hr,e⟩:=xr.mp h;exact⟨x,hx,r,hr,e.symm⟩
 .rintro⟨x,hx,r,hr,e⟩;exact⟨x,hx,xr.mpr ⟨r,hr,e.symm⟩⟩
def j13{t:Int}(h:x∈vo t):(t=2/\(x=0\/x=1\/x=2))\/(t≠2/\x=t):=by
 unfold vo at h;split at h
 .rename_i e;simp only[Xb,gz,or_false]at h;exact .inl ⟨e,h⟩
 .rename_i e;exact .inr ⟨e,xu.mp h⟩
theorem Ig:∀{p q:zo},(∀t∈p,0<=t/\t<3)->q∈PK p->q.length=p.length/\∀t∈q,0<=t/\t<3
 |[],q,_,h=>by have e:q=[]:=xu.mp h;rw[e];exact⟨rfl,λt ht=>nomatch ht⟩
 |t::p,q,h3,h=>by
  obtain⟨x,hx,r,hr,e⟩:=Vj.mp h;obtain⟨h1,h2⟩:=Ig (λt ht=>h3 t (xn _ ht)) hr;have ht:=h3 t X6;subst e;refine⟨by rw[xx,xx,h1],λy hy=>?_⟩;rcases Xb.mp hy with q|q
  .subst q;rcases j13 hx with ⟨_,z⟩|⟨_,z⟩<;>omega
  .exact h2 y q
theorem j9l:∀{p q:zo}{s:Nat}{c:Int},q∈PK p->q.getD s 0=2->(c=0\/c=1)->q.set s c∈PK p
 |[],q,s,c,h,h2,_=>by have e:q=[]:=xu.mp h;rw[e]at h2;simp at h2
 |t::p,q,s,c,h,h2,hc=>by
  obtain⟨x,hx,r,hr,e⟩:=Vj.mp h;subst e;cases s with
  |zero =>
   rw[fD]at h2;rw[T3];refine Vj.mpr ⟨c,?_,r,hr,rfl⟩;rcases j13 hx with ⟨z,_⟩|⟨z,z2⟩
   .rw[z];unfold vo;rw[if_pos rfl];rcases hc with q|q<;>rw[q]<;>simp
   .exact absurd (z2▸h2) z
  |succ s =>rw[cy]at h2;rw[Pz];exact Vj.mpr ⟨x,hx,_,j9l hr h2 hc,rfl⟩
theorem Ox:∀{p:zo},(∀t∈p,0<=t/\t<3)->(PK p).Pairwise λx y=>jy x<jy y
 |[],_=>eB _ _
 |t::p,h3=>by
  have h3':∀t∈p,0<=t/\t<3:=λt ht=>h3 t (xn _ ht);have ih:=Ox h3';have bd:∀r∈PK p,0<=jy r/\jy r<3^p.length/\r.length=p.length:=λr hr=>by obtain⟨h1,h2⟩:=Ig h3' hr;obtain⟨b1,b2⟩:=Q4 h2;rw[h1]at b2;exact⟨b1,b2,h1⟩
  have one:∀c:Int,((PK p).map (c :: ·)).Pairwise λx y=>jy x<jy y:=λc=>by rw[kr];refine ih.imp_of_mem λ{x y} hx hy h=>?_;rw[jy,jy,(bd x hx).2.2,(bd y hy).2.2];omega
  have two:∀{c d:Int},c<d->∀x∈(PK p).map (c :: ·),∀y∈(PK p).map (d :: ·),jy x<jy y:=λ{c d} hcd x hx y hy=>by
   obtain⟨r,hr,rfl⟩:=xr.mp hx;obtain⟨r',hr',rfl⟩:=xr.mp hy;obtain⟨b1,b2,b3⟩:=bd r hr;obtain⟨d1,d2,d3⟩:=bd r' hr';show c*3^r.length+jy r<d*3^r'.length+jy r';rw[b3,d3];have:c*3^p.length+3^p.length<=d*3^p.length:=by have h:=gL (show c+1<=d by omega) (show(0:Int)<=3^p.length by exact ja (T8 (by decide)));rw[Int.add_mul,Sh]at h;exact h
   omega
  by_cases e:t=2
  .have ek:PK (t::p)=(PK p).map (0 :: ·)++((PK p).map (1 :: ·)++(PK p).map (2 :: ·)):=by unfold PK;rw[X7,zu,e];simp[vo]
   rw[ek];refine List.pairwise_append.mpr ⟨one 0,List.pairwise_append.mpr ⟨one 1,one 2,two (by decide)⟩,λx hx y hy=>?_⟩;rcases P0.mp hy with q|q
   .exact two (by decide) x hx y q
   .exact two (by decide) x hx y q
  .have ek:PK (t::p)=(PK p).map (t :: ·):=by unfold PK;rw[X7,zu];simp[vo,e]
   rw[ek];exact one t
def Lg(h3:∀t∈p,0<=t/\t<3):(PK p).Nodup:=(Ox h3).imp λh e=>by rw[e]at h;omega
variable{r:zo}
def j43{i:Nat}(h3:∀t∈p,0<=t/\t<3)(hi:i<(PK p).length)(hr:r∈PK p)(hv:jy r<jy (PK p)[i]):r∈(PK p).take i:=by
 obtain⟨j,hj,rfl⟩:=T6.mp hr;have hs:=List.pairwise_iff_getElem.mp (Ox h3);have:j<i:=by
  rcases eO j i with q|q
  .exact q
  .rcases Nat.eq_or_lt_of_le q with q|q
   .subst q;omega
   .have:=hs i j hi hj q;omega
 exact T6.mpr ⟨j,by rw[pq];omega,List.getElem_take⟩
theorem Mz{f:zo->D}:∀{ks:List zo} {q:zo},q∈ks->zj ks (ks.map f) q=a8 (f q)
 |k::ks,q,h=>by
  rw[X7,zj];by_cases e:k=q
  .rw[if_pos e,e]
  .rw[if_neg e];exact Mz ((Xb.mp h).resolve_left λz=>e z.symm)
theorem Ih:∀{p:zo},(PK p).length<=3^p.length
 |[]=>X8 _
 |t::p=>by
  have ih:=Ih (p:=p);by_cases e:t=2
  .have ek:PK (t::p)=(PK p).map (0 :: ·)++((PK p).map (1 :: ·)++(PK p).map (2 :: ·)):=by unfold PK;rw[X7,zu,e];simp[vo]
   rw[ek,Xh,Xh,xg,xg,xg,xx,cq];omega
  .have ek:PK (t::p)=(PK p).map (t :: ·):=by unfold PK;rw[X7,zu];simp[vo,e]
   rw[ek,xg,xx,cq];omega
theorem j9n:∀{m:Nat}{q:zo},q.length=m->(∀t∈q,0<=t/\t<3)->q∈PK (ak m 2)
 |0,q,h,_=>by rw[List.length_eq_zero_iff.mp h];exact xu.mpr rfl
 |m+1,[],h,_=>by cases h
 |m+1,x::q,h,h3=>by
  have hx:=h3 x X6;refine Vj.mpr ⟨x,?_,q,j9n (by simpa using h) (λt ht=>h3 t (xn _ ht)),rfl⟩;have:x=0\/x=1\/x=2:=by omega
  unfold vo;rw[if_pos rfl];rcases this with e|e|e<;>rw[e]<;>simp
def jm4{f:zo->Int}(hp:p.length=m)(hp3:∀t∈p,0<=t/\t<3):zj (PK (ak m 2)) (((PK (ak m 2)).map f).map D.int) p=a8 (.int (f p)):=by rw[Xf];exact Mz (f:=λq=>D.int (f q)) (j9n hp hp3)
def j1z{f1 f2:En->Option D}{A B C:D}{L:List zo}{W:zo->Int}{op:zo->Bool}(hm:L.length<=1000000)(nd:L.Nodup)
  (h1:∀(q:zo)(s5:Sv),q∈L->f1 [.val A,.val B,.val C,.un,.val (.tup (q.map D.int)),s5]=a8 (.bl (!op q)))
  (h2:∀(i:Nat)(hi:i<L.length),f2 [.val A,.val B,.val C,.val (.dct (L.take i) (((L.take i).map W).map D.int)),.val (.tup (L[i].map D.int)),.val (.bl (!op L[i]))]=a8 (.int (W L[i]))) :
  ∀(r i:Nat)(s4 s5:Sv),i+r=L.length->Yr f1 f2 3 4 5 (ju (L.drop i)) [.val A,.val B,.val C,.un,s4,s5] (L.take i) ((L.take i).map W)=a8 (L,L.map W):=by
 intro r;induction r with
 |zero =>intro i s4 s5 e;rw[mz]at e;rw[iM nofun,T9 nofun];rfl
 |succ r ih =>
  intro i s4 s5 e;have hi:i<L.length:=by omega
  have ed:L.drop i=L[i]::L.drop (i+1):=su hi;have et:L.take (i+1)=L.take i++[L[i]]:=by rw[Te,kh hi];rfl
  have nc:(L.take i).contains L[i]=a9:=by
   have nd:=nd;rw[<-iZ i L,ed]at nd;have:=(List.nodup_append.mp nd).2.2;cases z:(L.take i).contains L[i] with
   |false=>rfl
   |true=>exact absurd rfl (this _ (by simpa using z) _ X6)
  have ll:(L.take i).length<aw:=lt_size (by rw[pq];omega);have g:=ih (i+1) (.val (.tup (L[i].map D.int))) (.val (.bl (!op L[i]))) nofun
  rw[et,Xi,X7,eK]at g;rw[ed,ju,X7,<-ju,Yr];simp only[jd,J3,T3,Pz,h1 _ _ (Xx hi),h2 i hi];rw[if_pos ⟨nc,ll⟩];exact g
def Fy(m:Nat):∀t∈ak m (2:Int),0<=t/\t<3:=λt ht=>by rw[(Ss.mp ht).2];decide
noncomputable def wsum(w:zo)(m:Nat)(p:zo):Int:=((inL p m).map λ(k:Nat)=>w.getD k 0).sum
def jel(m:Nat):(ak m [D.tup [.int 0,.int 1,.int 2]]).flatten=ju ((ak m (2:Int)).map vo):=by
 induction m with
 |zero=>rfl
 |succ k ih=>rw[Ph,Td,ih];rfl
def jcl  (h:1<=m/\m<=6):evP 1000 G T (n+2) "parts_of" [.int m]=.fresh (ju (PK (ak m 2))):=by rw[jb (F:=Wy) (by rfl) rfl];simp only[Wy,Ys,enter];ext;rw[j1s (n:=n) nofun];ext;simp only[gT];ext;rw[X5,jel,Zm Y9 (λf hf=>by obtain⟨t,_,rfl⟩:=xr.mp hf;unfold vo;split<;>simp) (by rw[xg,Pg];omega)];ext;rw[zy];rfl
def j8o{f2:En->Option D}{A B:D}{L:List zo}{W:zo->Int}(hm:L.length<=1000000)(nd:L.Nodup)
  (h2:∀(q:zo)(d:D),q∈L->f2 [.val A,.val B,.val d,.val (.tup (q.map D.int)),.un]=a8 (.int (W q))) :
  ∀(r i:Nat)(s3:Sv),i+r=L.length->Ym f2 2 3 (ju (L.drop i)) [.val A,.val B,.un,s3,.un] (L.take i) ((L.take i).map W)=a8 (L,L.map W):=by
 intro r;induction r with
 |zero =>intro i s3 e;rw[mz]at e;rw[iM nofun,T9 nofun];rfl
 |succ r ih =>
  intro i s3 e;have hi:i<L.length:=by omega
  have ed:L.drop i=L[i]::L.drop (i+1):=su hi;have et:L.take (i+1)=L.take i++[L[i]]:=by rw[Te,kh hi];rfl
  have nc:(L.take i).contains L[i]=a9:=by
   have nd:=nd;rw[<-iZ i L,ed]at nd;have:=(List.nodup_append.mp nd).2.2;cases z:(L.take i).contains L[i] with
   |false=>rfl
   |true=>exact absurd rfl (this _ (by simpa using z) _ X6)
  have ll:(L.take i).length<aw:=lt_size (by rw[pq];omega);have g:=ih (i+1) (.val (.tup (L[i].map D.int))) nofun
  rw[et,Xi,X7,eK]at g;rw[ed,ju,X7,<-ju,Ym];simp only[jd,J3,T3,Pz,h2 _ _ (Xx hi)];rw[if_pos ⟨nc,ll⟩];exact g
variable{w:zo}
def j5e(hm:1<=m/\m<=6)(hl:w.length=2^m) :
  evP 1000 G T (n+4) "weights_by_part" [.int m,.lst (w.map D.int)]=.val (.dct (PK (ak m 2)) (((PK (ak m 2)).map (wsum w m)).map D.int)):=by
 rw[jb (F:=Zh) (by rfl) rfl];simp only[Zh,Jr,enter];have pk:=jcl (n:=n+1) hm;have p3:=j41 hm.2;have p2:=Ld hm.2;have pc:((2^m:Nat):Int)=(2:Int)^m:=by simp
 have pl:=Ih (p:=ak m 2);rw[Pg]at pl;have pok:∀q∈PK (ak m 2),q.length=m/\∀t∈q,0<=t/\t<3:=λq hq=>by have:=Ig (Fy m) hq;rw[Pg]at this;exact this
 have hd:=j8o (f2:=λρ=>stOf (ev (evP 1000 G T (n+3)) G (.blt .sum (.cons (.comp [4] (.ix (.var 1) (.call "row_number" (.cons (.var 4) .nil))) (.seq (.call "rows_in" (.cons (.var 3) .nil))) .nil) .nil)) ρ))
  (A:=.int m) (B:=.lst (w.map D.int)) (L:=PK (ak m 2)) (W:=wsum w m) nofun (Lg (Fy m))
  (λq d hq=>by
   obtain⟨q1,q2⟩:=pok q hq
   have ri:evP 1000 G T (n+3) "rows_in" [jd q]=.fresh (ju (qx (q.map Vo))):=Dm (n:=n+1) j6s Y9 gN gA nofun
   rw[Mm q1 q2]at ri
   have l:=j6r q1 q2
   simp only[jd]at ri
   ext
   rw[ri]
   ext
   rw[jj (l:=((inL q m).map λ(k:Nat)=>w.getD k 0).map D.int) (by rfl) (by simp only[ju,xg];omega) ?_ (.inl rfl)]
   .ext
    rfl
   .rw[ju,Xf,Xf]
    refine je λk hk'=>jx (by ext) ?_
    have hk:=Xa.mp (Xk.mp hk').1
    have rn:=Ot (n:=n+1) (z:=(k:Int)) hm nofun
    have g:=U4 (p:=w) (k:=k) nofun
    simp only[c9]
    ext
    rw[rn]
    ext
    rw[g]
    ext)
  (PK (ak m 2)).length 0 .un (Pj _)
 have hi:ev (evP 1000 G T (n+3)) G (.seq (.call "parts_of" (.cons (.var 0) .nil))) [.val (.int m),.val (.lst (w.map D.int)),.un,.un,.un]=a8 (.i (ju (PK (ak m 2)))):=by ext;rw[pk];ext
 have ru:=j96 (fu:=1000) (Γ:=evP 1000 G T (n+3)) (G:=G) (ρ:=[.val (.int m),.val (.lst (w.map D.int)),.un,.un,.un]) (x:=2) (t:=3) ⟨by simp,by simp,by decide⟩ hi hd;exact congrArg fin ru
noncomputable def wfn(pr w:zo)(m:Nat):D:=.fn "whole_cost_of_ask" [.dct (PK (ak m 2)) (((PK (ak m 2)).map (wsum w m)).map D.int),.lst (pr.map D.int)]
def jbq    {d:D} (hw:ws.length=m) (hm:1<=m/\m<=6) (hl:w.length=2^m) (h0:w.all (btw 0)=ae) (hs:w.sum≠0) (hp:evP 1000 G T (n+4) "prices_told" [.int m,d]=.fresh (pr.map D.int)) :
  evP 1000 G T (n+5) "whole_cost_of_ask" [qD ws a,.lst (w.map D.int),d]=.val (wfn pr w m):=by
 have rf:=jgx (n:=n) hm hl h0 hs;have bp:=j5e (n:=n) hm hl;rw[jb (F:=Qs) (by rfl) rfl];simp only[Qs,J7,enter,qD];ext;rw[at0];ext;rw[hw,hp];ext;erw[rf,bp];rfl
noncomputable def opU(p:zo)(j:Nat):List Nat:=(ao j).filter λ(k:Nat)=>decide (p.getD k 0=2)
variable{j:Nat}
def jki(h:p.getD j 0=2):opU p (j+1)=opU p j++[j]:=by rw[opU,opU,gf,cF];congr 1;exact eC (decide_eq_true h)
def jhc(h:¬p.getD j 0=2):opU p (j+1)=opU p j:=by rw[opU,opU,gf,cF];have e:[j].filter (λ(k:Nat)=>decide (p.getD k 0=2))=[]:=eD (λz=>h (of_decide_eq_true z));rw[e,Pa]
noncomputable def rsS(k:Nat)(c:List (List Nat))(s:Nat):List (List Nat):=c++(c.filter λS=>decide (S.length<k)).map (· ++ [s])
noncomputable def rsC(k:Nat)(os:List Nat):List (List Nat):=os.foldl (rsS k) [[]]
noncomputable def rsL(k:Nat)(os:List Nat):List (List Nat):=(rsC k os).drop 1
variable{os:List Nat}
def jcd:rsC k (os++[s])=rsS k (rsC k os) s:=by unfold rsC;rw[List.foldl_append];rfl
variable{S:List Nat}
def jji{c:List (List Nat)}(h:S∈rsS k c s):S∈c\/∃R∈c,R.length<k/\S=R++[s]:=by
 rcases P0.mp h with h|h
 .exact .inl h
 .obtain⟨R,hR,e⟩:=xr.mp h;obtain⟨h1,h2⟩:=Xk.mp hR;exact .inr ⟨R,h1,of_decide_eq_true h2,e.symm⟩
theorem j6d{k:Nat}:∀{os:List Nat}{c:List (List Nat)},(∃r,c=[]::r/\∀S∈r,S≠[])->∃r,os.foldl (rsS k) c=[]::r/\∀S∈r,S≠[]
 |[],c,h=>h
 |s::os,c,⟨r,e,h⟩=>by
  refine j6d (os:=os) (c:=rsS k c s) ⟨r++(c.filter λS=>decide (S.length<k)).map (· ++ [s]),by rw[e];rfl,λS hS=>?_⟩;rcases P0.mp hS with q|q
  .exact h S q
  .obtain⟨R,_,e⟩:=xr.mp q;rw[<-e];simp
theorem j97{k:Nat}:∀{os pre:List Nat}{c:List (List Nat)},(∀S∈c,S.Sublist pre/\S.length<=k)->∀S∈os.foldl (rsS k) c,S.Sublist (pre++os)/\S.length<=k
 |[],pre,c,h,S,hS=>by rw[Pa];exact h S hS
 |s::os,pre,c,h,S,hS=>by
  have:=j97 (os:=os) (pre:=pre++[s]) (c:=rsS k c s) (λR hR=>by
   rcases jji hR with q|⟨R',h1,h2,e⟩
   .exact⟨(h R q).1.trans (List.sublist_append_left ..),(h R q).2⟩
   .rw[e];exact⟨(h R' h1).1.append (df _),by rw[Xh];exact h2⟩) S hS
  rwa [t8]at this
theorem j98{k:Nat}:∀{os:List Nat}{c:List (List Nat)},(os.foldl (rsS k) c).length<=c.length*2^os.length
 |[],c=>by simp
 |s::os,c=>by
  have h:=j98 (k:=k) (os:=os) (c:=rsS k c s);have l:(rsS k c s).length<=c.length*2:=by unfold rsS;rw[Xh,xg];have:=Pu (λS:List Nat=>decide (S.length<k)) c;omega
  have:=jL (2^os.length) l;rw[xx,cq,eN (2^os.length) 2,<-lS];exact Xn h this
def Mh:rsC k os=[]::rsL k os/\∀S∈rsL k os,S≠[]:=by obtain⟨r,e,h⟩:=j6d (k:=k) (os:=os) (c:=[[]]) ⟨[],rfl,λS hS=>nomatch hS⟩;have e':rsC k os=[]::r:=e;unfold rsL;rw[e'];exact⟨rfl,h⟩
def j9a(h:S∈rsC k os):S.Sublist os/\S.length<=k :=
 j97 (k:=k) (os:=os) (pre:=[]) (c:=[[]]) (λS hS=>by rw[xu.mp hS];exact⟨df _,S9 _⟩) S h
def Rn(h:S∈rsL k os):S.Sublist os/\S.length<=k/\S≠[]:=by obtain⟨e,h2⟩:=Mh (k:=k) (os:=os);have:=j9a (show S∈rsC k os by rw[e];exact xn _ h);exact⟨this.1,this.2,h2 S h⟩
def jgq:(rsC k os).length<=2^os.length:=by have:=j98 (k:=k) (os:=os) (c:=[[]]);rw[sr,Nat.one_mul]at this;exact this
def j99(hk:1<=k)(ho:os≠[]):rsL k os≠[]:=λz=>by
 obtain⟨e,_⟩:=Mh (k:=k) (os:=os);have grow:∀{os:List Nat}{c:List (List Nat)},c.length<=(os.foldl (rsS k) c).length:=λ{os}=>by
  induction os with
  |nil=>intro c;exact X8 _
  |cons s os ih=>intro c;exact Xn (by unfold rsS;rw[Xh];omega) (ih (c:=rsS k c s))
 cases os with
 |nil=>exact ho rfl
 |cons s os =>
  have h:=grow (os:=os) (c:=rsS k [[]] s);have l:(rsS k [[]] s).length=2:=by simp[rsS,show 0<k from hk]
  have h':2<=(rsC k (s::os)).length:=by rw[<-l];exact h
  rw[e,z]at h';simp at h'
noncomputable def seF(qs:List zo)(s:Nat):List zo:=qs.map (·.set s 0)++qs.map (·.set s 1)
noncomputable def seL(p:zo)(S:List Nat):List zo:=S.foldl seF [p]
def Beh(p:zo)(S:List Nat)(q:zo):Prop:=q.length=p.length/\∀j,j<p.length->(j∈S->q.getD j 0=0\/q.getD j 0=1)/\(j∉S->q.getD j 0=p.getD j 0)
def Lq{c:Int}(hs:s<p.length):(p.set s c).getD j 0=if s=j then c else p.getD j 0:=by
 rw[xf,cP];by_cases e:s=j
 .rw[if_pos e,if_pos e,if_pos hs];rfl
 .rw[if_neg e,if_neg e,xf]
def jdk{p q:zo}(hl:q.length=p.length)(h:∀j,j<p.length->q.getD j 0=p.getD j 0):q=p:=by
 refine List.ext_getElem hl λj h1 h2=>?_;have:=h j h2
 rwa [xf,xf,kh h1,kh h2]at this
theorem ja9{n:Nat}:∀{S:List Nat}{qs:List zo} {q:zo},(∀s∈S,s<n)->(∀p∈qs,p.length=n)->(q∈S.foldl seF qs ↔ ∃p∈qs,Beh p S q)
 |[],qs,q,_,hq=>by refine⟨λh=>⟨q,h,rfl,λj _=>⟨λz=>(nomatch z),λ_=>rfl⟩⟩,λ⟨p,hp,h1,h2⟩=>?_⟩;rw[jdk h1 λj hj=>(h2 j hj).2 (λz=>nomatch z)];exact hp
 |s::S,qs,q,hS,hq=>by
  have hs:=hS s X6;rw[Tp,ja9 (n:=n) (S:=S) (qs:=seF qs s) (λt ht=>hS t (xn _ ht)) (λp hp=>by
   rcases P0.mp hp with h|h<;>(obtain⟨r,hr,e⟩:=xr.mp h;rw[<-e,Xq];exact hq r hr))]
  constructor
  .rintro⟨p,hp,h1,h2⟩;have:∃r∈qs,∃c:Int,(c=0\/c=1)/\p=r.set s c:=by
    rcases P0.mp hp with h|h<;>obtain⟨r,hr,e⟩:=xr.mp h
    .exact⟨r,hr,0,.inl rfl,e.symm⟩
    .exact⟨r,hr,1,.inr rfl,e.symm⟩
   obtain⟨r,hr,c,hc,rfl⟩:=this;rw[Xq]at h1 h2;have hl:=hq r hr;refine⟨r,hr,h1,λj hj=>⟨λhm=>?_,λhm=>?_⟩⟩
   .by_cases e:j∈S
    .exact(h2 j hj).1 e
    .have ej:j=s:=(Xb.mp hm).resolve_right e;rw[(h2 j hj).2 e,Lq nofun,if_pos ej.symm];exact hc
   .rw[(h2 j hj).2 λz=>hm (xn _ z),Lq nofun,if_neg λz=>hm (by rw[z];exact X6)]
  .rintro⟨r,hr,h1,h2⟩;have hl:=hq r hr;have hc:=(h2 s nofun).1 X6;refine⟨r.set s (q.getD s 0),?_,by rw[Xq];exact h1,λj hj=>?_⟩
   .rcases hc with e|e<;>rw[e]
    .exact Tj _ (xr.mpr ⟨r,hr,rfl⟩)
    .exact Xo _ (xr.mpr ⟨r,hr,rfl⟩)
   .rw[Xq]at hj;refine⟨λhm=>(h2 j hj).1 (xn _ hm),λhm=>?_⟩;rw[Lq nofun];by_cases e:s=j
    .rw[if_pos e,e]
    .rw[if_neg e];exact(h2 j hj).2 λz=>(Xb.mp z).elim (λz=>e z.symm) hm
def Y7{p q:zo}(hS:∀s∈S,s<p.length):q∈seL p S↔Beh p S q:=by unfold seL;rw[ja9 (n:=p.length) hS λr hr=>by rw[xu.mp hr]];exact⟨λ⟨r,hr,h⟩=>by rwa [xu.mp hr]at h,λh=>⟨p,xu.mpr rfl,h⟩⟩
theorem j3u:∀{S:List Nat}{qs:List zo},qs≠[]->S.foldl seF qs≠[]
 |[],_,h=>h
 |s::S,qs,h=>j3u (S:=S) λz=>h (by unfold seF at z;exact List.map_eq_nil_iff.mp (List.append_eq_nil_iff.mp z).1)
theorem j1m:∀{p q:zo},q.length=p.length->(∀j,j<p.length->q.getD j 0<=p.getD j 0)->jy q<=jy p/\((∃j,j<p.length/\q.getD j 0<p.getD j 0)->jy q<jy p)
 |[],[],_,_=>⟨Sg _,λ⟨j,h,_⟩=>absurd h (eV _)⟩
 |[],_::_,h,_=>by cases h
 |_::_,[],h,_=>by cases h
 |x::p,y::q,hl,h=>by
  have hl':q.length=p.length:=by simpa using hl
  obtain⟨i1,i2⟩:=j1m hl' λj hj=>by have:=h (j+1) (by rw[xx];omega);simpa using this
  have h0:y<=x:=by have:=h 0 (by simp);simpa using this
  have w:(0:Int)<3^p.length:=T8 (by decide);have e:jy (y::q)=y*3^q.length+jy q:=rfl;have e':jy (x::p)=x*3^p.length+jy p:=rfl;rw[e,e',hl'];have hm:y*3^p.length<=x*3^p.length:=gL h0 (ja w);refine⟨by omega,λ⟨j,hj,hlt⟩=>?_⟩;cases j with
  |zero =>
   have hlt:y<x:=by simpa using hlt
   have:=Int.mul_lt_mul_of_pos_right hlt w;omega
  |succ j =>have:=i2 ⟨j,by rw[xx]at hj;omega,by simpa using hlt⟩;omega
def jcn(h:s∈jc p m):s<m/\p.getD s 0=2:=by obtain⟨h1,h2⟩:=Xk.mp h;exact⟨Xa.mp h1,of_decide_eq_true h2⟩
def j1c{p q:zo}(h:Beh p S q)(hp3:∀t∈p,0<=t/\t<3):∀t∈q,0<=t/\t<3:=λt ht=>by
 obtain⟨j,hj,e⟩:=T6.mp ht;have eq:q.getD j 0=t:=by rw[xf,kh hj,e];rfl
 have hj':j<p.length:=by rw[<-h.1];exact hj
 rw[<-eq];by_cases z:j∈S
 .have:=(h.2 j hj').1 z;omega
 .rw[(h.2 j hj').2 z];exact hp3 _ (by rw[xf,kh hj'];exact Xx hj')
def Fv{p q:zo}(hne:S≠[])(hS:∀s∈S,s<p.length/\p.getD s 0=2)(h:Beh p S q):jy q<jy p:=by
 refine(j1m h.1 λj hj=>?_).2 ?_
 .by_cases z:j∈S
  .have:=(h.2 j hj).1 z;have:=(hS j z).2;omega
  .rw[(h.2 j hj).2 z];exact Sg _
 .cases S with
  |nil=>exact absurd rfl hne
  |cons s S =>obtain⟨h1,h2⟩:=hS s X6;refine⟨s,h1,?_⟩;have:=(h.2 s h1).1 X6;omega
variable{l':zo}
def Bc(hl:l≠[])(h:∀x,x∈l↔x∈l'):zx l=zx l':=by
 have hl':l'≠[]:=λz=>by
  cases l with
  |nil=>exact hl rfl
  |cons x l=>have:=(h x).mp X6;rw[z]at this;cases this
 obtain⟨a1,a2⟩:=Lp hl';exact j6n ((h _).mpr a1) λx hx=>a2 x ((h x).mp hx)
noncomputable def RpF(k:Nat)(a:zo)(m:Nat):Nat->zo->Int
 |0,_=>0
 |f+1,p=>if opB a m p=ae then 1+Jf ((rsL k (jc p m)).map λS=>zx ((seL p S).map (RpF k a m f)))else 0
noncomputable def Rp(k:Nat)(a:zo)(m:Nat)(p:zo):Int:=RpF k a m (3^m) p
def Y4(hp:p.length=m)(h:S∈rsL k (jc p m)):∀s∈S,s<p.length/\p.getD s 0=2:=λs hs=>by rw[hp];exact jcn ((Rn h).1.subset hs)
theorem jbk{k m:Nat}{a:zo}:∀{f f':Nat}{p:zo},p.length=m->(∀t∈p,0<=t/\t<3)->jy p<f->f<=f'->RpF k a m f p=RpF k a m f' p
 |0,f',p,_,h3,hv,_=>by have:=(Q4 h3).1;omega
 |f+1,0,p,_,_,_,h=>by omega
 |f+1,f'+1,p,hp,h3,hv,h=>by rw[RpF,RpF];congr 3;refine Xu λS hS=>?_;congr 1;have ok:=Y4 hp hS;refine Xu λq hq=>?_;have b:=(Y7 λs hs=>(ok s hs).1).mp hq;have:=Fv (Rn hS).2.2 ok b;exact jbk (by rw[b.1];exact hp) (j1c b h3) nofun nofun
def N8(h:opB a m p=a9):Rp k a m p=0:=by
 unfold Rp;obtain⟨f,e⟩:∃f,3^m=f+1:=⟨3^m-1,by have:0<3^m:=jK (by decide);omega⟩
 rw[e,RpF,h];rfl
def j1i(hp:p.length=m)(h3:∀t∈p,0<=t/\t<3)(h:opB a m p=ae):Rp k a m p=1+Jf ((rsL k (jc p m)).map λS=>zx ((seL p S).map (Rp k a m))):=by
 obtain⟨f,e⟩:∃f,3^m=f+1:=⟨3^m-1,by have:0<3^m:=jK (by decide);omega⟩
 have hb:=(Q4 h3).2;rw[hp]at hb;have hb:jy p<((3^m:Nat):Int):=by simpa using hb
 show RpF k a m (3^m) p=_;have step:RpF k a m (3^m) p=1+Jf ((rsL k (jc p m)).map λS=>zx ((seL p S).map (RpF k a m f))):=by rw[e,RpF,if_pos h]
 rw[step];congr 2;refine Xu λS hS=>?_;congr 1;have ok:=Y4 hp hS;refine Xu λq hq=>?_;have b:=(Y7 λs hs=>(ok s hs).1).mp hq;have:=Fv (Rn hS).2.2 ok b;exact jbk (by rw[b.1];exact hp) (j1c b h3) nofun nofun
noncomputable def spI(S:List Nat):zo:=S.map λ(s:Nat)=>(s:Int)
def j6m:(j:Int)∈spI S↔j∈S:=by unfold spI;rw[xr];exact⟨λ⟨s,h,e⟩=>by rwa [<-Int.ofNat.inj e],λh=>⟨j,h,rfl⟩⟩
theorem j76{i:Int}:∀{l:zo},((l.map D.int).any λe=>deq e (.int i))=decide (i∈l)
 |[]=>by simp
 |x::l=>by
  rw[X7,d6,j76,Ej];by_cases e:x=i
  .simp[e]
  .simp[e,bu e]
def je0{i:Int}:Qe .isin (.int i) (.tup (l.map D.int))=a8 (decide (i∈l)):=by rw[<-j76];simp[Qe,D.sqv,D.dep,jam]
noncomputable def U5(p:zo)(S:List Nat)(j:Nat):zo:=if (j:Int)∈spI S then[0,1] else[p.getD j 0]
theorem Ln:∀{l:List zo} {q:zo},q∈zu l↔q.length=l.length/\∀j,j<l.length->q.getD j 0∈l.getD j []
 |[],q=>by rw[zu,xu];exact⟨λe=>by rw[e];exact⟨rfl,λj h=>absurd h (eV _)⟩,λh=>List.length_eq_zero_iff.mp h.1⟩
 |f::l,q=>by
  rw[zu,kD];constructor
  .rintro⟨x,hx,h⟩;obtain⟨r,hr,rfl⟩:=xr.mp h;obtain⟨h1,h2⟩:=Ln.mp hr;refine⟨by rw[xx,xx,h1],λj hj=>?_⟩;cases j with
   |zero=>simpa using hx
   |succ j=>have:=h2 j (by rw[xx]at hj;omega);simpa using this
  .rintro⟨h1,h2⟩;cases q with
   |nil=>cases h1
   |cons x r =>refine⟨x,by have:=h2 0 (by simp);simpa using this,xr.mpr ⟨r,Ln.mpr ⟨by simpa using h1,λj hj=>?_⟩,rfl⟩⟩;have:=h2 (j+1) (by rw[xx];omega);simpa using this
def j4g{p q:zo}:q∈zu ((ao p.length).map (U5 p S))↔Beh p S q:=by
 rw[Ln,xg,Xg];refine and_congr_right λhl=>forall_congr' λj=>forall_congr' λhj=>?_;have e:((ao p.length).map (U5 p S)).getD j []=U5 p S j:=by rw[xf,xm,Xm hj];rfl
 rw[e,U5];by_cases z:j∈S
 .rw[if_pos (j6m.mpr z)];simp[z]
 .rw[if_neg λh=>z (j6m.mp h)];simp[z]
variable{R:zo->Int}
def j2z(hl:p.length<=6)(hS:∀s∈S,s<p.length)(hx:∀q,Beh p S q->zj ks (ns.map D.int) q=a8 (.int (R q))) :
  evP 1000 G T (n+2) "greatest_behind" [.dct ks (ns.map D.int),jd p,jd (spI S)]=.val (.int (zx ((seL p S).map R))):=by
 rw[jb (F:=Zi) (by rfl) rfl];simp only[Zi,Js,enter,jd];ext;rw[jj (l:=ju ((ao p.length).map (U5 p S))) (by rfl) (by unfold vf;rw[xg,cE,xg];omega) ?_ (.inl rfl)];rotate_left
 .rw[Br,ju,Xf];refine je λj hj=>j67 (by ext) ?_;ext;rw[je0];ext;by_cases z:(j:Int)∈spI S
  .rw[decide_eq_true z];ext;simp only[gA];ext;simp[U5,z,jd]
  .rw[decide_eq_false z];ext;simp[U5,z,jd]
 ext;rw[Zm Y9 (λf hf=>by obtain⟨j,_,rfl⟩:=xr.mp hf;unfold U5;split<;>simp) (by rw[xg,Xg];exact hl),zy];ext;have ne:seL p S≠[]:=j3u (by simp);have pe:∀q,q∈zu ((ao p.length).map (U5 p S))↔q∈seL p S:=λq=>by rw[j4g,Y7 hS]
 rw[jj (l:=((zu ((ao p.length).map (U5 p S))).map R).map D.int) (by rfl) ?_ ?_ (.inr (qt _))]
 .ext;rw[jf6 (λz=>?_)]
  .ext;rw[Bc (l':=(seL p S).map R) (λz=>?_) λx=>?_]
   .exact ne (List.eq_nil_iff_forall_not_mem.mpr λq hq=>by
     rw[List.map_eq_nil_iff.mp z]at pe
     exact nomatch(pe q).mpr hq)
   .rw[xr,xr];exact⟨λ⟨q,h,e⟩=>⟨q,(pe q).mp h,e⟩,λ⟨q,h,e⟩=>⟨q,(pe q).mpr h,e⟩⟩
  .exact ne (List.eq_nil_iff_forall_not_mem.mpr λq hq=>by
    rw[List.map_eq_nil_iff.mp z]at pe
    exact nomatch(pe q).mpr hq)
 .rw[ju,xg,<-zy];have h:=Dw (fs:=(ao p.length).map (U5 p S)) (k:=2) (λf hf=>by obtain⟨j,_,rfl⟩:=xr.mp hf;unfold U5;split<;>simp);rw[xg,Xg]at h;have h2:=T7 (show 0<2 by decide) hl;omega
 .rw[ju,Xf];refine je λq hq=>jx (by ext) ?_;ext;simp only[jd];rw[Fq (hx q (j4g.mp hq))];rfl
noncomputable def spD(S:List Nat):D:=jd (spI S)
def ja1(l:List (List Nat)):qw (l.map spD)=ae:=by
 have:=Dr (l.map spI)
 rwa [ju,Xf]at this
def jg9:(spI S).length=S.length:=xg ..
def jc1:spI (S++[s])=spI S++[(s:Int)]:=by unfold spI;rw[Xi];rfl
def jcp(h:p.getD j 0=2):jc p (j+1)=jc p j++[j]:=jki h
def j9u(h:¬p.getD j 0=2):jc p (j+1)=jc p j:=jhc h
def Li(p:zo)(j:Nat):(jc p j).length<=j:=Xn (Pu _ _) (by rw[Xg];exact X8 _)
def j3v(h:os.length<=m)(hm:m<=6):(rsC k os).length<=64:=by have h1:=jgq (k:=k) (os:=os);have h2:=T7 (show 0<2 by decide) (show os.length<=6 by omega);omega
def j5t   (hl:p.length<=6):evP 1000 G T (n+1) "rounds_at" [jd p,.int k]=.fresh ((rsL k (jc p p.length)).map spD):=by
 rw[jb (F:=W0) (by rfl) rfl];simp only[W0,Vw,enter,jd];ext;rw[Br];refine Jv (λi ρ=>∃s3 s4,ρ=[.val (.tup (p.map D.int)),.val (.int k),.own ((rsC k (jc p i)).map spD),s3,s4,.un]) ⟨_,_,rfl⟩ ?_ ?_
 .rintro i d ρ hi ⟨s3,s4,rfl⟩;have hi':i<p.length:=by have:=(Xe.mp hi).1;rw[xg,Xg]at this;exact this
  rw[xm,Xm hi']at hi;cases hi;have sm:=j3v (k:=k) (m:=i) (Li p i) nofun
  simp only[Rz];ext;simp only[gN];by_cases h2:p.getD i 0=2
  .ext;rw[jj (l:=(((rsC k (jc p i)).filter λS=>decide (S.length<k)).map (· ++ [i])).map spD) (by rfl) (by rw[xg];omega) ?_ (.inr (ja1 _))];rotate_left
   .rw[Xf];refine Z2 λS hS=>?_;have sl:=(j9a hS).1.length_le;have ol:=Li p i;have il:=jg9 (S:=S);refine M7 ?_ λhb=>?_
    .simp only[spD,jd];ext;rw[il,show cmpI .lt (S.length:Int) (k:Int)=a8 (decide (S.length<k))from by simp[cmpI]];ext
    .simp only[spD,jd];ext;simp only[c9,spD,jd,jc1,Xi];rfl
   have fl:=Pu (λS:List Nat=>decide (S.length<k)) (rsC k (jc p i));ext;exact⟨_,rfl,_,_,by rw[jcp h2,jcd,rsS,Xi]⟩
  .ext;exact⟨_,rfl,.val (.int (i:Int)),.val (.int (p.getD i 0)),by rw[j9u h2]⟩
 .rintro ρ ⟨s3,s4,rfl⟩;ext;rw[Xg,rsL,List.map_drop];congr 1;exact j52 (k:=1) (by rw[xg,(Mh (k:=k) (os:=jc p p.length)).1,xx];omega)
def jcy{p q:Int×zo}:(j7z p q=ae->p.1<=q.1)/\(j7z p q=a9->q.1<=p.1):=by
 unfold j7z;split
 .rename_i e;rw[e];exact⟨λ_=>Sg _,λ_=>Sg _⟩
 .exact⟨λh=>by have:=of_decide_eq_true h;omega,λh=>by have:=of_decide_eq_false h;omega⟩
theorem Ey(l:List (Int×zo)):∀k,k<l.length->aN (Vb l) k<=k/\∀j,j<=k->(l.getD (aN (Vb l) k) (0,[])).1<=(l.getD j (0,[])).1
 |0,_=>⟨X8 _,λj hj=>by rw[show j=0 by omega];exact Sg _⟩
 |k+1,hk=>by
  obtain⟨h1,h2⟩:=Ey l k nofun
  have f:=jcy (p:=l.getD (k+1) (0,[])) (q:=l.getD (aN (Vb l) k) (0,[]));rw[aN];cases e:Vb l (k+1) (aN (Vb l) k) with
  |true =>
   rw[if_pos rfl];refine⟨X8 _,λj hj=>?_⟩;have g:=f.1 e;by_cases z:j=k+1
   .rw[z];exact Sg _
   .exact mC g (h2 j nofun)
  |false =>
   rw[if_neg (by simp)];refine⟨by omega,λj hj=>?_⟩;by_cases z:j=k+1
   .rw[z];exact f.2 e
   .exact h2 j nofun
def jbh(hk:1<=k)(hl:p.length<=6)(ho:jc p p.length≠[])
  (hx:∀S,S∈rsL k (jc p p.length)->∀q,Beh p S q->zj ks (ns.map D.int) q=a8 (.int (R q))) :
  ∃S∈rsL k (jc p p.length),zx ((seL p S).map R)=Jf ((rsL k (jc p p.length)).map λS=>zx ((seL p S).map R)) /\
   evP 1000 G T (n+3) "best_round" [.dct ks (ns.map D.int),jd p,.int k]=.val (.tup [.int (zx ((seL p S).map R)),spD S]):=by
 have ne:=j99 hk ho;obtain⟨S0,rest,er⟩:∃S0 rest,rsL k (jc p p.length)=S0::rest:=by
  cases h:rsL k (jc p p.length) with
  |nil=>exact absurd h ne
  |cons x l=>exact⟨x,l,rfl⟩
 let pr:List Nat->Int×zo:=λS=>(zx ((seL p S).map R),spI S)
 have sm:=j3v (k:=k) (Li p p.length) hl;have ll:(rsL k (jc p p.length)).length<=64:=by unfold rsL;rw[Tv];omega
 obtain⟨b1,b2⟩:=Ey ((rsL k (jc p p.length)).map pr) rest.length (by rw[xg,er,xx];omega);have hi:aN (Vb ((rsL k (jc p p.length)).map pr)) rest.length<(rsL k (jc p p.length)).length:=by rw[er,xx];rw[er]at b1;omega
 obtain⟨S,eS⟩:∃S,(rsL k (jc p p.length))[aN (Vb ((rsL k (jc p p.length)).map pr)) rest.length]?=a8 S:=⟨_,kh hi⟩
 have hS:=Xp eS;have gS:((rsL k (jc p p.length)).map pr)[aN (Vb ((rsL k (jc p p.length)).map pr)) rest.length]?=a8 (pr S):=by rw[xm,eS];rfl
 refine⟨S,hS,?_,?_⟩
 .refine(Nx (xr.mpr ⟨S,hS,(rfl:(λS=>zx ((seL p S).map R)) S=zx ((seL p S).map R))⟩) λc hc=>?_).symm;obtain⟨S',hS',rfl⟩:=xr.mp hc;obtain⟨j,hj,ej⟩:=T6.mp hS';have q:=b2 j (by rw[er,xx]at hj;omega);rw[xf,gS,xf,xm,kh hj,ej]at q;exact q
 .rw[jb (F:=U9) (by rfl) rfl];simp only[U9,Va,enter];have rs:=j5t (n:=n+1) (k:=k) hl;ext;rw[rs];ext;rw[jj (l:=((rsL k (jc p p.length)).map pr).map pairD) (by rfl) (by rw[xg];omega) ?_ (.inl rfl)];rotate_left
  .rw[Xf];refine je λS hS=>jx (by ext) ?_;have g:=j2z (n:=n) (R:=R) hl (λs hs=>(Y4 rfl hS s hs).1) (hx S hS);ext;simp only[spD];rw[g];ext;rfl
  ext;rw[er,X7,jhg (by rw[<-X7,<-er,xg];exact gS)];ext;rfl
def jd2(hk:1<=k)(hl:p.length<=6)(ho:jc p p.length≠[])
  (hx:∀S,S∈rsL k (jc p p.length)->∀q,Beh p S q->zj ks (ns.map D.int) q=a8 (.int (R q))) :
  evP 1000 G T (n+5) (qg "round_numbers") [.int k,.dct ks (ns.map D.int),jd p]=.lval (.int (1+Jf ((rsL k (jc p p.length)).map λS=>zx ((seL p S).map R)))):=by
 obtain⟨S,_,e0,e⟩:=jbh (n:=n+1) hk hl ho hx;rw[Fo (F:=Vc) (by rfl) rfl];simp only[Vc,Qu,enter];ext;rw[e];ext;rw[at0,e0];ext
theorem j9m:∀{p q r:zo}{S:List Nat},q∈PK p->(∀s∈S,s<q.length/\q.getD s 0=2)->Beh q S r->r∈PK p
 |[],q,r,S,h,_,hb=>by have e:q=[]:=xu.mp h;rw[e]at hb;rw[List.length_eq_zero_iff.mp hb.1];exact xu.mpr rfl
 |t::p,q,r,S,h,hS,hb=>by
  obtain⟨x,hx,q',hq,e⟩:=Vj.mp h;subst e;cases r with
  |nil=>cases hb.1
  |cons y r =>
   have hl:r.length=q'.length:=by simpa using hb.1
   refine Vj.mpr ⟨y,?_,r,j9m (S:=(S.filter λs=>decide (0<s)).map (· - 1)) hq (λs hs=>?_) ⟨hl,λj hj=>?_⟩,rfl⟩
   .have b:=hb.2 0 (by simp);by_cases z:0∈S
    .have h2:x=2:=by simpa using(hS 0 z).2
     have hy:y=0\/y=1:=by simpa using b.1 z
     have ht:t=2:=by rcases j13 hx with ⟨z,_⟩|⟨z,w⟩<;>omega
     rw[ht];unfold vo;rw[if_pos rfl];rcases hy with e|e<;>rw[e]<;>simp
    .have hy:y=x:=by simpa using b.2 z
     rw[hy];exact hx
   .obtain⟨u,hu,rfl⟩:=xr.mp hs;obtain⟨h1,h2⟩:=Xk.mp hu;have h2:=of_decide_eq_true h2;have h3:=hS u h1;obtain⟨v,rfl⟩:∃v,u=v+1:=⟨u-1,by omega⟩
    rw[xx,cy]at h3;exact⟨by show v+1-1<_;omega,by show q'.getD (v+1-1) 0=2;rw[ko];exact h3.2⟩
   .have b:=hb.2 (j+1) (by rw[xx];omega);rw[cy,cy]at b;have e:j+1∈S↔j∈(S.filter λs=>decide (0<s)).map (· - 1):=by
     rw[xr];exact⟨λh=>⟨j+1,Xk.mpr ⟨h,decide_eq_true nofun⟩,rfl⟩,λ⟨u,hu,e⟩=>by
      obtain⟨h1,h2⟩:=Xk.mp hu
      have h2:=of_decide_eq_true h2
      have e:u-1=j:=e
      rw[show j+1=u by omega];exact h1⟩
    rw[e]at b;exact b
def j5r(hk:1<=k)(hw:ws.length=m)(hm:1<=m/\m<=6)(ha:a.length=2^m)(h01:∀x∈a,x=0\/x=1)(hp:p.length=m)(hp3:∀t∈p,0<=t/\t<3) :
  evP 1000 G T (n+6) "numbers_within" [jd p,qD ws a,.fn "round_numbers" [.int k]]=.val (.dct (PK p) (((PK p).map (Rp k a m)).map D.int)):=by
 rw[jb (F:=J0) (by rfl) rfl];simp only[J0,J1,enter];have pk:evP 1000 G T (n+5) "parts_in" [jd p]=.fresh (ju (PK p)):=by rw[Oz (n:=n+3) nofun,zy];rfl
 have p3:=j41 hm.2;have pl:=Ih (p:=p);rw[hp]at pl;have pok:∀q∈PK p,q.length=m/\∀t∈q,0<=t/\t<3:=λq hq=>by rw[<-hp];exact Ig hp3 hq
 have hd:=j1z (f1:=λρ=>stOf (ev (evP 1000 G T (n+5)) G (.not (.isN (.call "settled_by" (.cons (.var 1) (.cons (.var 4) .nil))))) ρ))
  (f2:=λρ=>stOf (ev (evP 1000 G T (n+5)) G (.ite (.var 5) (.lit (.int 0)) (.callV 2 (.cons (.var 3) (.cons (.var 4) .nil)))) ρ))
  (A:=jd p) (B:=qD ws a) (C:=.fn "round_numbers" [.int k]) (L:=PK p) (W:=Rp k a m) (op:=opB a m) nofun (Lg hp3)
  (λq s5 hq=>by
   have sp:evP 1000 G T (n+5) "settled_by" [.tup [.tup (ws.map D.str),.tup (a.map D.int)],jd q]=.val (stD a q m):=j1p (n:=n) hm ha (pok q hq).1 (pok q hq).2
   simp only[jd]at sp
   simp only[qD]
   ext
   rw[sp]
   ext
   simp only[opB])
  (λi hi=>by
   have hq:=Xx hi
   obtain⟨q1,q2⟩:=pok _ hq
   cases z:opB a m (PK p)[i] with
   |false =>
    simp only[l7]
    ext
    rw[N8 z]
   |true =>
    simp only[lF]
    have L:=jd2 (n:=n) (k:=k) (p:=(PK p)[i]) (ks:=(PK p).take i) (ns:=((PK p).take i).map (Rp k a m)) (R:=Rp k a m) hk nofun (by rw[q1];exact Nv h01 q1 q2 z) (λS hS q hb=>by
     rw[q1]at hS
     have ok:=Y4 q1 hS
     rw[Xf]
     exact Mz (f:=λq=>D.int (Rp k a m q)) (j43 hp3 hi (j9m hq ok hb) (Fv (Rn hS).2.2 ok hb)))
    rw[q1,<-j1i q1 q2 z]at L
    simp only[jd]at L
    ext
    rw[j5d (by rw[J2,Uy,J2,Lj];rfl)]
    simp only[Tw,gb]
    rw[L]
    ext)
  (PK p).length 0 .un .un (Pj _)
 have hi:ev (evP 1000 G T (n+5)) G (.seq (.call "parts_in" (.cons (.var 0) .nil))) [.val (jd p),.val (qD ws a),.val (.fn "round_numbers" [.int k]),.un,.un,.un]=a8 (.i (ju (PK p))):=by ext;rw[pk];ext
 have ru:=j1q (fu:=1000) (Γ:=evP 1000 G T (n+5)) (G:=G) (ρ:=[.val (jd p),.val (qD ws a),.val (.fn "round_numbers" [.int k]),.un,.un,.un]) (x:=3) (t:=4) (y:=5) ⟨by simp,by simp,by simp,by decide,by decide,by decide⟩ hi hd;exact congrArg fin ru
def j2v(hk:1<=k)(hw:ws.length=m)(hm:1<=m/\m<=6)(ha:a.length=2^m)(h01:∀x∈a,x=0\/x=1)(hp:p.length=m)(hp3:∀t∈p,0<=t/\t<3) :
  evP 1000 G T (n+7) "round_numbers" [jd p,qD ws a,.int k]=.val (.dct (PK p) (((PK p).map (Rp k a m)).map D.int)):=by
 rw[jb (F:=Ve) (by rfl) rfl];simp only[Ve,Qw,enter];ext;rw[j5r (n:=n) hk hw hm ha h01 hp hp3,j6g (Uy ..)];ext
def gFw:G "FEWEST_AT_ONCE" = a8 (.int 1):=by rfl
def gMo:G "MOST_AT_ONCE" = a8 (.int 6):=by rfl
def jce  (hk:1<=k/\k<=6):evP 1000 G T (n+1) "refuse_wrong_round" [.int k]=.val .non:=by rw[jb (F:=Q9) (by rfl) rfl];simp only[Q9,vp,enter];ext;simp only[gFw];ext;simp only[gMo];ext
def j5s(hk:1<=k/\k<=6)(hw:ws.length=m)(hm:1<=m/\m<=6)(ha:a.length=2^m)(h01:∀x∈a,x=0\/x=1) :
  evP 1000 G T (n+8) "round_table" [qD ws a,.int k]=.val (.tup (((PK (ak m 2)).map (Rp k a m)).map D.int)):=by
 rw[jb (F:=Yd) (by rfl) rfl];simp only[Yd,Zx,enter];ext;erw[jce (n:=n+6) hk,N7 (n:=n+6) hm hw,j2v (n:=n) hk.1 hw hm ha h01 (Pg ..) (Fy m)]
noncomputable def chi(b:Bool)(x:Int):Int:=if b=ae then(if x=0 then 1 else if x=1 then 0 else x)else x
variable{b:Bool}
def j19:chi b (chi b x)=x:=by
 unfold chi;cases b with
 |false=>rfl
 |true =>
  by_cases h0:x=0
  .subst h0;rfl
  .by_cases h1:x=1
   .subst h1;rfl
   .simp[h0,h1]
def j18:chi b x=2↔x=2:=by
 unfold chi;cases b with
 |false=>simp
 |true =>
  by_cases h0:x=0
  .subst h0;simp
  .by_cases h1:x=1
   .subst h1;simp
   .simp[h0,h1]
def jox(h:0<=x/\x<3):0<=chi b x/\chi b x<3:=by
 unfold chi;cases b with
 |false=>simpa using h
 |true =>
  by_cases h0:x=0
  .subst h0;simp
  .by_cases h1:x=1
   .subst h1;simp
   .simp[h0,h1];omega
structure Ord(m:Nat)(o i:Nat->Nat):Prop where
 ol:∀k,k<m->o k<m
 il:∀k,k<m->i k<m
 io:∀k,k<m->i (o k)=k
 oi:∀k,k<m->o (i k)=k
noncomputable def rl(m:Nat)(o:Nat->Nat)(t:Nat->Bool)(p:zo):zo:=(ao m).map λk=>chi (t (o k)) (p.getD (o k) 0)
variable{c:zo->Nat->Int->Int->Int}{N N':zo->Int}
section
variable{m:Nat}{o i:Nat->Nat}{t:Nat->Bool}{p:zo}
def qi:(rl m o t p).length=m:=by simp[rl]
def Q5(h:k<m):(rl m o t p).getD k 0=chi (t (o k)) (p.getD (o k) 0):=by unfold rl;rw[xf,xm,Xm h];rfl
def j0i(hp3:∀x∈p,0<=x/\x<3):∀x∈rl m o t p,0<=x/\x<3:=λx hx=>by
 obtain⟨k,_,rfl⟩:=xr.mp hx;refine jox ?_;rw[xf];cases e:p[o k]? with
 |none=>simp
 |some y=>exact hp3 y (Xp e)
def jjk(h:Ord m o i)(hp:p.length=m)(hs:s<m):rl m o t (p.set s x)=(rl m o t p).set (i s) (chi (t s) x):=by
 refine Xy λk=>?_;by_cases hk:k<m
 .rw[kh (by rw[qi];exact hk),kh (by rw[Xq,qi];exact hk)];congr 1;have e1:(rl m o t (p.set s x))[k]'(by rw[qi];exact hk)=(rl m o t (p.set s x)).getD k 0:=by rw[xf,kh (by rw[qi];exact hk)];rfl
  rw[e1,Q5 hk];by_cases e:k=i s
  .subst e;rw[h.oi s hs,List.getElem_set_self,xf,Pk nofun];rfl
  .have ne:o k≠s:=λz=>e (by rw[<-z,h.io k hk]);rw[List.getElem_set_ne (bu e)];have e2:(rl m o t p)[k]'(by rw[qi];exact hk)=(rl m o t p).getD k 0:=by rw[xf,kh (by rw[qi];exact hk)];rfl
   rw[e2,Q5 hk,xf,T4 (bu ne),<-xf]
 .rw[Xc (by rw[qi];omega),Xc (by rw[Xq,qi];omega)]
def v5:s∈jc p m↔s<m/\p.getD s 0=2:=by unfold jc;rw[Xk,Xa,decide_eq_true_eq]
def j0h(h:Ord m o i)(hs:s<m):s∈jc p m↔i s∈jc (rl m o t p) m:=by rw[v5,v5,Q5 (h.il s hs),h.oi s hs,j18];exact⟨λz=>⟨h.il s hs,z.2⟩,λz=>⟨hs,z.2⟩⟩
def j4e(hl:l≠[])(h1:∀x∈l,x∈l')(h2:∀x∈l',x∈l):Jf l=Jf l':=by have a:=j4f hl;exact(Nx (h1 _ a.1) λx hx=>a.2 x (h2 x hx)).symm
structure Nm(m:Nat)(op:zo->Bool)(c:zo->Nat->Int->Int->Int)(N:zo->Int):Prop where
 shut:∀p,p.length=m->(∀x∈p,0<=x/\x<3)->op p=a9->N p=0
 opn:∀p,p.length=m->(∀x∈p,0<=x/\x<3)->op p=ae->jc p m≠[]/\N p=Jf ((jc p m).map λs=>c p s (N (p.set s 0)) (N (p.set s 1)))
def j6k{op op':zo->Bool}{c':zo->Nat->Int->Int->Int}(h:Ord m o i)(n:Nm m op c N)(n':Nm m op' c' N')
  (ho:∀p,p.length=m->(∀x∈p,0<=x/\x<3)->op' (rl m o t p)=op p) (hc:∀p s u v,p.length=m->(∀x∈p,0<=x/\x<3)->s<m->c' (rl m o t p) (i s) u v=c p s u v) (sym:∀p s u v,c p s u v=c p s v u) :
  ∀(f:Nat)(p:zo),p.length=m->(∀x∈p,0<=x/\x<3)->(jc p m).length<=f->N' (rl m o t p)=N p:=by
 intro f;induction f with
 |zero =>
  intro p hp hp3 hf;cases e:op p with
  |false=>rw[n.shut p hp hp3 e,n'.shut _ qi (j0i hp3) (by rw[ho p hp hp3,e])]
  |true=>exact absurd (List.length_eq_zero_iff.mp nofun) (n.opn p hp hp3 e).1
 |succ f ih =>
  intro p hp hp3 hf;cases e:op p with
  |false=>rw[n.shut p hp hp3 e,n'.shut _ qi (j0i hp3) (by rw[ho p hp hp3,e])]
  |true =>
   obtain⟨z1,e1⟩:=n.opn p hp hp3 e;obtain⟨z2,e2⟩:=n'.opn (rl m o t p) qi (j0i hp3) (by rw[ho p hp hp3,e]);have less:∀s∈jc p m,∀x:Int,(x=0\/x=1)->N' ((rl m o t p).set (i s) (chi (t s) x))=N (p.set s x):=λs hs x hx=>by
    have hsm:=(v5.mp hs).1;rw[<-jjk h hp hsm];refine ih _ (by rw[Xq];exact hp) (λy hy=>?_) ?_
    .rcases cu hy with z|z
     .exact hp3 y z
     .rw[z];rcases hx with q|q<;>subst q<;>decide
    .have sub:∀k∈jc (p.set s x) m,k∈(jc p m).erase s:=λk hk=>by
      obtain⟨k1,k2⟩:=v5.mp hk;have ne:k≠s:=λq=>by subst q;rw[xf,Pk nofun]at k2;rcases hx with q|q<;>subst q<;>cases k2
      rw[xf,T4 (bu ne),<-xf]at k2;exact(List.mem_erase_of_ne ne).mpr (v5.mpr ⟨k1,k2⟩)
     have nd:(jc (p.set s x) m).Nodup:=Tz.filter _;have:=fw nd sub;rw[List.length_erase_of_mem hs]at this;omega
   have each:∀s∈jc p m,c' (rl m o t p) (i s) (N' ((rl m o t p).set (i s) 0)) (N' ((rl m o t p).set (i s) 1))=c p s (N (p.set s 0)) (N (p.set s 1)):=λs hs=>by
    have hsm:=(v5.mp hs).1;rw[hc p s _ _ hp hp3 hsm];have l0:=less s hs 0 (.inl rfl);have l1:=less s hs 1 (.inr rfl);cases ht:t s with
    |false =>rw[ht]at l0 l1;have l0:N' ((rl m o t p).set (i s) 0)=N (p.set s 0):=l0;have l1:N' ((rl m o t p).set (i s) 1)=N (p.set s 1):=l1;rw[l0,l1]
    |true =>rw[ht]at l0 l1;have l0:N' ((rl m o t p).set (i s) 1)=N (p.set s 0):=l0;have l1:N' ((rl m o t p).set (i s) 0)=N (p.set s 1):=l1;rw[l0,l1,sym]
   rw[e1,e2];refine j4e (by simpa using z2) (λx hx=>?_) λx hx=>?_
   .obtain⟨s',hs',rfl⟩:=xr.mp hx;have hs'm:=(v5.mp hs').1;have hs:o s'∈jc p m:=(j0h (t:=t) h (h.ol s' hs'm)).mpr (by rw[h.io s' hs'm];exact hs');have q:=each (o s') hs;rw[h.io s' hs'm]at q;exact xr.mpr ⟨o s',hs,q.symm⟩
   .obtain⟨s,hs,rfl⟩:=xr.mp hx;exact xr.mpr ⟨i s,(j0h (t:=t) h (v5.mp hs).1).mp hs,each s hs⟩
end
noncomputable def vl:zo->Int
 |[]=>0
 |x::r=>x*2^r.length+vl r
theorem Ka:∀{r:zo},(∀x∈r,x=0\/x=1)->0<=vl r/\vl r<2^r.length
 |[],_=>by simp[vl]
 |x::r,h=>by have ih:=Ka (r:=r) λy hy=>h y (xn _ hy);have p:(0:Int)<2^r.length:=T8 (by decide);rw[vl,xx,cS];rcases h x (X6 ..)with z|z<;>rw[z]<;>omega
theorem j15:∀{r:zo},(∀x∈r,x=0\/x=1)->j7 2 r.length (vl r)=r
 |[],_=>rfl
 |x::r,h=>by
  have h':=λy hy=>h y (xn _ hy);have ih:=j15 (r:=r) h';have bd:=Ka (r:=r) h';have p:(0:Int)<2^r.length:=T8 (by decide);rw[xx,j7,vl];congr 1
  .rw[eQ,Int.add_mul_ediv_right _ _ nofun,Tu bd.1 bd.2,Xz];rcases h x (X6 ..)with z|z<;>rw[z]<;>rfl
  .rw[show x*2^r.length+vl r=vl r+2^r.length*x from by rw[cT,eQ],Yh (by decide) _ _ (X8 _),ih]
def Ng:∀(m:Nat)(z:Int),0<=z->z<2^m->vl (j7 2 m z)=z:=by
  intro m;induction m with
  |zero=>intro z h1 h2;simp at h2;rw[j7,vl];omega
  |succ m ih =>
   intro z h1 h2;have p:(0:Int)<2^m:=T8 (by decide);rw[cS]at h2;have e:z=z%2^m+2^m*(z/2^m):=(Int.emod_add_mul_ediv z (2^m)).symm;have q1:0<=z/2^m:=Int.ediv_nonneg h1 nofun
   have q2:z/2^m<2:=Int.ediv_lt_of_lt_mul p nofun
   have d1:j7 2 m z=j7 2 m (z%2^m):=by
    conv=>lhs;rw[e]
    exact Yh (by decide) _ _ (X8 _)
   rw[j7,vl,jt,d1,ih _ (Tq _ nofun) (Sw _ p),show z/2^m%2=z/2^m from Int.emod_eq_of_lt q1 q2,cT];omega
def Mx(hj:j<2^m)(hk:k<2^m)(h:j7 2 m (j:Int)=j7 2 m (k:Int)):j=k:=by
 have pc:((2^m:Nat):Int)=(2:Int)^m:=by simp
 have pj:(j:Int)<2^m:=by omega
 have pk:(k:Int)<2^m:=by omega
 have:=congrArg vl h;rw[Ng m j nofun pj,Ng m k nofun pk]at this;omega
theorem Il{α β:Type}{f:α->β}:∀{l:List α},(∀x∈l,∀y∈l,f x=f y->x=y)->l.Nodup->(l.map f).Nodup
 |[],_,_=>dz
 |a::l,h,n=>by rw[X7,Xv];rw[Xv]at n;refine⟨λz=>?_,Il (λx hx y hy=>h x (.tail _ hx) y (.tail _ hy)) n.2⟩;obtain⟨y,hy,e⟩:=xr.mp z;exact n.1 (h y (.tail _ hy) a (.head _) e▸hy)
def Ck(h:l.Perm l'):l.sum=l'.sum:=by
 induction h with
 |nil=>rfl
 |cons x _ ih=>rw[gk,gk,ih]
 |swap x y l=>simp only[gk];omega
 |trans _ _ a b=>rw[a,b]
variable{b:zo}
section
variable{m:Nat}{o i:Nat->Nat}{t:Nat->Bool}{p r:zo}
def jb3{b:Bool}(h:x=0\/x=1):chi b x=0\/chi b x=1:=by rcases h with z|z<;>subst z<;>cases b<;>decide
def jid{b:Bool}(h:chi b x=chi b y):x=y:=by
 have:=congrArg (chi b) h
 rwa [j19,j19]at this
def jns(hr:∀x∈r,x=0\/x=1):∀x∈rl m o t r,x=0\/x=1:=λx hx=>by
 obtain⟨k,_,rfl⟩:=xr.mp hx;refine jb3 ?_;rw[xf];cases e:r[o k]? with
 |none=>simp
 |some y=>exact hr y (Xp e)
def j6f(h:Ord m o i)(hp:p.length=m)(hr:r.length=m):fits (rl m o t p) (rl m o t r)=fits p r:=by
 rw[dh,Lr (by rw[qi,qi]),Lr (by rw[hp,hr])];constructor
 .intro z k hk;rw[hp]at hk;have:=z (i k) (by rw[qi];exact h.il k hk);rw[Q5 (h.il k hk),Q5 (h.il k hk),h.oi k hk,j18]at this;exact this.imp id jid
 .intro z k hk;rw[qi]at hk;have:=z (o k) (by rw[hp];exact h.ol k hk);rw[Q5 hk,Q5 hk,j18];exact this.imp id λe=>by rw[e]
def Um(h:Ord m o i)(hp:p.length=m):rl m i (λk=>t (o k)) (rl m o t p)=p:=by
 refine Xy λk=>?_;by_cases hk:k<m
 .have e1:(rl m i (λk=>t (o k)) (rl m o t p))[k]?=a8 ((rl m i (λk=>t (o k)) (rl m o t p)).getD k 0):=by rw[xf,kh (by rw[qi];exact hk)];rfl
  rw[e1,Q5 hk,Q5 (h.il k hk),h.oi k hk,j19,xf,kh nofun];rfl
 .rw[Xc (by rw[qi];omega),Xc nofun]
def Ord.inv(h:Ord m o i):Ord m i o:=⟨h.il,h.ol,h.oi,h.io⟩
def jfi:∀x∈j7 2 m (k:Int),x=0\/x=1:=λx hx=>by
 obtain⟨j,hj,e⟩:=List.getElem_of_mem hx;have hl:(j7 2 m (k:Int)).length=m:=jt ..;have:=Zj (b:=2) (m:=m) (i:=j) (z:=(k:Int)) nofun
 rw[kh hj,e]at this;have:=ax this;omega
noncomputable def rk(m:Nat)(o:Nat->Nat)(t:Nat->Bool)(k:Nat):Nat:=(vl (rl m o t (j7 2 m (k:Int)))).toNat
def Jd:rk m o t k<2^m/\j7 2 m ((rk m o t k:Nat):Int)=rl m o t (j7 2 m (k:Int)):=by
 have z:=jns (m:=m) (o:=o) (t:=t) (jfi (m:=m) (k:=k));have b:=Ka z;rw[qi]at b;have pc:((2^m:Nat):Int)=(2:Int)^m:=by simp
 have e:((rk m o t k:Nat):Int)=vl (rl m o t (j7 2 m (k:Int))):=by unfold rk;omega
 refine⟨by unfold rk;omega,?_⟩;rw[e];have:=j15 z
 rwa [qi]at this
def Uo(h:Ord m o i)(hk:k<2^m):rk m i (λk=>t (o k)) (rk m o t k)=k:=by have a:=Jd (m:=m) (o:=o) (t:=t) (k:=k);have b:=Jd (m:=m) (o:=i) (t:=λk=>t (o k)) (k:=rk m o t k);refine Mx b.1 hk ?_;rw[b.2,a.2,Um h (jt ..)]
def j4r(h:Ord m o i)(hp:p.length=m):(inL (rl m o t p) m).Perm ((inL p m).map (rk m o t)):=by
 have n1:(inL (rl m o t p) m).Nodup:=Tz.filter _;have n2:((inL p m).map (rk m o t)).Nodup:=by refine Il (λx hx y hy e=>?_) (Tz.filter _);have hx:=Xa.mp (Xk.mp hx).1;have hy:=Xa.mp (Xk.mp hy).1;rw[<-Uo (t:=t) h hx,e,Uo h hy]
 refine(i6 n1 n2).mpr λx=>⟨λhx=>?_,λhx=>?_⟩
 .obtain⟨h1,h2⟩:=Xk.mp hx;have hx2:=Xa.mp h1;have hi:Ord m i o:=h.inv;have a:=Jd (m:=m) (o:=i) (t:=λk=>t (o k)) (k:=x);have back:rk m o t (rk m i (λk=>t (o k)) x)=x:=by
   refine Mx (Jd ..).1 hx2 ?_;rw[(Jd ..).2,a.2];have:=Um (t:=λk=>t (o k)) hi (jt 2 m (x:Int));have e:rl m o t (rl m i (λk=>t (o k)) (j7 2 m (x:Int)))=rl m o (λk=>t (o (i k))) (rl m i (λk=>t (o k)) (j7 2 m (x:Int))):=by unfold rl;refine Xu λk hk=>?_;show chi (t (o k)) _=chi (t (o (i (o k)))) _;rw[h.oi (o k) (h.ol k (Xa.mp hk))]
   rw[e];exact this
  refine xr.mpr ⟨_,Xk.mpr ⟨Xa.mpr a.1,?_⟩,back⟩;rw[<-j6f (t:=t) h hp (jt ..),<-(Jd (m:=m) (o:=o) (t:=t)).2,back];exact h2
 .obtain⟨k,hk,rfl⟩:=xr.mp hx;obtain⟨h1,h2⟩:=Xk.mp hk;refine Xk.mpr ⟨Xa.mpr Jd.1,?_⟩;rw[Jd.2,j6f h hp (jt ..)];exact h2
def Car(m:Nat)(o:Nat->Nat)(t:Nat->Bool)(a b:zo):Prop:=∀k,k<2^m->b.getD (rk m o t k) 0=a.getD k 0
def j72(h:Ord m o i)(hp:p.length=m)(c:Car m o t a b)(v:Int):cnt b (rl m o t p) m v=cnt a p m v:=by unfold cnt;rw[(j4r (t:=t) h hp).countP_eq,gR];refine List.countP_congr λk hk=>?_;have hk:=Xa.mp (Xk.mp hk).1;show(b.getD (rk m o t k) 0==v)=ae↔_;rw[c k hk]
def j45(h:Ord m o i)(hp:p.length=m)(c:Car m o t a b):opB b m (rl m o t p)=opB a m p:=by unfold opB stD;rw[j72 h hp c,j72 h hp c]
def jbm(h:Ord m o i)(hp:p.length=m)(c:Car m o t a b):wsum b m (rl m o t p)=wsum a m p:=by unfold wsum;rw[Ck ((j4r (t:=t) h hp).map λk=>b.getD k 0),Xf];congr 1;refine Xu λk hk=>?_;exact c k (Xa.mp (Xk.mp hk).1)
end
def jjj(h:S.Sublist os):∀{Q:List Nat}{c:List (List Nat)},Q∈c->Q.length+S.length<=k->Q++S∈os.foldl (rsS k) c:=by
 induction h with
 |slnil=>intro Q c h _;rw[Pa];exact h
 |cons a _ ih=>intro Q c h l;exact ih (c:=rsS k c a) (Tj _ h) l
 |cons_cons a _ ih =>
  intro Q c h l;rw[xx]at l;have:=ih (Q:=Q++[a]) (c:=rsS k c a) (Xo _ (xr.mpr ⟨Q,Xk.mpr ⟨h,decide_eq_true nofun⟩,rfl⟩)) (by rw[Xh,sr];omega)
  rwa [t8]at this
def jgp(h:S.Sublist os)(l:S.length<=k)(n:S≠[]):S∈rsL k os:=by
 have:=jjj (k:=k) h (Q:=[]) (c:=[[]]) (xu.mpr rfl) (by rw[Tg,Pj];exact l);have:S∈rsC k os:=this;rw[Mh.1]at this;rcases Xb.mp this with z|z
 .exact absurd z n
 .exact z
section
variable{m:Nat}{o i:Nat->Nat}{t:Nat->Bool}{p q:zo}
def Lb(h:Ord m o i)(hp:p.length=m):rl m o t (rl m i (λk=>t (o k)) p)=p:=by
 have:=Um (t:=λk=>t (o k)) h.inv hp;have e:rl m o t (rl m i (λk=>t (o k)) p)=rl m o (λk=>t (o (i k))) (rl m i (λk=>t (o k)) p):=by unfold rl;refine Xu λk hk=>?_;show chi (t (o k)) _=chi (t (o (i (o k)))) _;rw[h.oi (o k) (h.ol k (Xa.mp hk))]
 rw[e];exact this
def j9b(h:Ord m o i)(hS:S∈rsL k (jc p m)):∃S'∈rsL k (jc (rl m o t p) m),∀j,j<m->(j∈S'↔o j∈S):=by
 obtain⟨s1,s2,s3⟩:=Rn hS;have mem:∀j,j<m->(j∈(jc (rl m o t p) m).filter (λj=>decide (o j∈S))↔o j∈S):=λj hj=>by
  rw[Xk,decide_eq_true_eq];refine⟨λz=>z.2,λz=>⟨?_,z⟩⟩;have:=(j0h (t:=t) (p:=p) h (h.ol j hj)).mp (s1.subset z)
  rwa [h.io j hj]at this
 refine⟨_,jgp (List.filter_sublist ..) (Xn ?_ s2) (λz=>?_),mem⟩
 .have nd:(((jc (rl m o t p) m).filter (λj=>decide (o j∈S))).map o).Nodup:=by refine Il (λx hx y hy e=>?_) ((Tz.filter _).filter _);have hx:=(v5.mp (Xk.mp hx).1).1;have hy:=(v5.mp (Xk.mp hy).1).1;rw[<-h.io x hx,e,h.io y hy]
  have:=fw nd (λx hx=>by
   obtain⟨j,hj,rfl⟩:=xr.mp hx
   exact of_decide_eq_true (Xk.mp hj).2:_ ⊆ S)
  rwa [xg]at this
 .cases S with
  |nil=>exact s3 rfl
  |cons s S =>have hs:=(v5.mp (s1.subset X6)).1;have:=(mem (i s) (h.il s hs)).mpr (by rw[h.oi s hs];exact X6);rw[z]at this;cases this
def jbi{S':List Nat}(h:Ord m o i)(hp:p.length=m)(hs:∀j,j<m->(j∈S'↔o j∈S))(b:Beh p S q):Beh (rl m o t p) S' (rl m o t q):=by refine⟨by rw[qi,qi],λj hj=>?_⟩;rw[qi]at hj;have:=b.2 (o j) (by rw[hp];exact h.ol j hj);rw[Q5 hj,Q5 hj];refine⟨λz=>jb3 (this.1 ((hs j hj).mp z)),λz=>?_⟩;rw[this.2 λy=>z ((hs j hj).mpr y)]
def jkp{S':List Nat}(h:Ord m o i)(hp:p.length=m)(hS:∀s∈S,s<m)(hS':∀s∈S',s<m)(hs:∀j,j<m->(j∈S'↔o j∈S))(hN:∀q,Beh p S q->N' (rl m o t q)=N q) :
  zx ((seL (rl m o t p) S').map N')=zx ((seL p S).map N):=by
 refine Bc (λz=>j3u (qs:=[rl m o t p]) (by simp) (List.map_eq_nil_iff.mp z)) λx=>⟨λhx=>?_,λhx=>?_⟩
 .obtain⟨q',hq,rfl⟩:=xr.mp hx;have b:=(Y7 (by rw[qi];exact hS')).mp hq;have b2:=jbi (t:=λk=>t (o k)) h.inv qi (S:=S') (S':=S) (λj hj=>by have:=hs (i j) (h.il j hj);rw[h.oi j hj]at this;exact this.symm) b;rw[Um h hp]at b2;have e:=hN _ b2;have l:q'.length=m:=by rw[b.1,qi]
  rw[Lb h l]at e;exact xr.mpr ⟨_,(Y7 (by rw[hp];exact hS)).mpr b2,e.symm⟩
 .obtain⟨q,hq,rfl⟩:=xr.mp hx;have b:=(Y7 (by rw[hp];exact hS)).mp hq;exact xr.mpr ⟨_,(Y7 (by rw[qi];exact hS')).mpr (jbi h hp hs b),hN q b⟩
def jis(hk:1<=k)(h:Ord m o i)(h01:∀x∈a,x=0\/x=1)(c:Car m o t a b) :
  ∀(f:Nat)(p:zo),p.length=m->(∀x∈p,0<=x/\x<3)->jy p<f->Rp k b m (rl m o t p)=Rp k a m p:=by
 intro f;induction f with
 |zero=>intro p hp h3 hv;have:=(Q4 h3).1;omega
 |succ f ih =>
  intro p hp h3 hv;have oc:=j45 h hp c;cases e:opB a m p with
  |false=>rw[N8 e,N8 (oc.trans e)]
  |true =>
   rw[j1i hp h3 e,j1i qi (j0i h3) (oc.trans e)];congr 1;have each:∀S S',S∈rsL k (jc p m)->S'∈rsL k (jc (rl m o t p) m)->(∀j,j<m->(j∈S'↔o j∈S))->zx ((seL (rl m o t p) S').map (Rp k b m))=zx ((seL p S).map (Rp k a m)):=λS S' hS hS' hs=>by have ok:=Y4 hp hS;refine jkp h hp (λs z=>by rw[<-hp];exact(ok s z).1) (λs z=>by have:=(Y4 qi hS' s z).1;rwa [qi]at this) hs λq bq=>?_;have:=Fv (Rn hS).2.2 ok bq;exact ih q (by rw[bq.1];exact hp) (j1c bq h3) nofun
   refine(j4e (λz=>j99 hk (Nv h01 hp h3 e) (List.map_eq_nil_iff.mp z)) (λx hx=>?_) λx hx=>?_).symm
   .obtain⟨S,hS,rfl⟩:=xr.mp hx;obtain⟨S',hS',hs⟩:=j9b (t:=t) h hS;exact xr.mpr ⟨S',hS',each S S' hS hS' hs⟩
   .obtain⟨S',hS',rfl⟩:=xr.mp hx;obtain⟨S,hS,hs⟩:=j9b (t:=λk=>t (o k)) h.inv hS';rw[Um h hp]at hS;exact xr.mpr ⟨S,hS,(each S S' hS hS' λj hj=>by have:=hs (o j) (h.ol j hj);rw[h.io j hj]at this;exact this.symm).symm⟩
end
noncomputable def NpF(c:zo->Nat->Int->Int->Int)(a:zo)(m:Nat):Nat->zo->Int
 |0,_=>0
 |f+1,p=>if opB a m p=ae then Jf ((jc p m).map λs=>c p s (NpF c a m f (p.set s 0)) (NpF c a m f (p.set s 1)))else 0
noncomputable def Np(c:zo->Nat->Int->Int->Int)(a:zo)(m:Nat)(p:zo):Int:=NpF c a m (3^m) p
def set_3(h3:∀t∈p,0<=t/\t<3)(hx:x=0\/x=1):∀t∈p.set s x,0<=t/\t<3:=λy hy=>by
 rcases cu hy with z|z
 .exact h3 y z
 .rw[z];rcases hx with q|q<;>subst q<;>decide
def M6(hp:p.length=m)(hs:s∈jc p m)(hx:x=0\/x=1):jy (p.set s x)<jy p:=by obtain⟨h1,h2⟩:=v5.mp hs;rw[j04 nofun,h2];have:(0:Int)<3^(p.length-1-s):=T8 (by decide);rcases hx with e|e<;>subst e<;>omega
theorem j01{c:zo->Nat->Int->Int->Int}{m:Nat}{a:zo}:∀{f f':Nat}{p:zo},p.length=m->(∀t∈p,0<=t/\t<3)->jy p<f->f<=f'->NpF c a m f p=NpF c a m f' p
 |0,f',p,_,h3,hv,_=>by have:=(Q4 h3).1;omega
 |f+1,0,p,_,_,_,h=>by omega
 |f+1,f'+1,p,hp,h3,hv,h=>by rw[NpF,NpF];congr 2;refine Xu λs hs=>?_;have b0:=M6 hp hs (.inl rfl);have b1:=M6 hp hs (.inr rfl);rw[j01 (f:=f) (f':=f') (by rw[Xq];exact hp) (set_3 h3 (.inl rfl)) nofun nofun,j01 (f:=f) (f':=f') (by rw[Xq];exact hp) (set_3 h3 (.inr rfl)) nofun nofun]
def Df(h01:∀x∈a,x=0\/x=1):Nm m (opB a m) c (Np c a m):=by
 obtain⟨f,e⟩:∃f,3^m=f+1:=⟨3^m-1,by have:0<3^m:=jK (by decide);omega⟩
 refine⟨λp hp h3 h=>by unfold Np;rw[e,NpF,h];rfl,λp hp h3 h=>⟨Nv h01 hp h3 h,?_⟩⟩;have hb:=(Q4 h3).2;rw[hp]at hb;have hb:jy p<((3^m:Nat):Int):=by simpa using hb
 show NpF c a m (3^m) p=_;have step:NpF c a m (3^m) p=Jf ((jc p m).map λs=>c p s (NpF c a m f (p.set s 0)) (NpF c a m f (p.set s 1))):=by rw[e,NpF,if_pos h]
 rw[step];congr 1;refine Xu λs hs=>?_;have b0:=M6 hp hs (.inl rfl);have b1:=M6 hp hs (.inr rfl);unfold Np;rw[j01 (f:=f) (f':=3^m) (by rw[Xq];exact hp) (set_3 h3 (.inl rfl)) nofun nofun,j01 (f:=f) (f':=3^m) (by rw[Xq];exact hp) (set_3 h3 (.inr rfl)) nofun nofun]
def Cst(X:au)(xs:List D)(m:Nat)(c:zo->Nat->Int->Int->Int):Prop :=
 ∀(n s:Nat)(p:zo)(ks:List zo) (ns:zo) (x y:Int),p.length=m->(∀t∈p,0<=t/\t<3)->s<m->p.getD s 0=2->zj ks (ns.map D.int) (p.set s 0)=a8 (.int x)->zj ks (ns.map D.int) (p.set s 1)=a8 (.int y) ->
  evP 1000 G T (n+3) (qg X) (xs++[.dct ks (ns.map D.int),jd p,.int s])=.lval (.int (c p s x y))
variable{X:au}{xs:List D}
def jie{V0 V1:Nat->Int}(hc:Cst X xs m c)(hm:m<=6)(hp:p.length=m)(hp3:∀t∈p,0<=t/\t<3)(ho:jc p p.length≠[])
  (hx:∀s,s<p.length->p.getD s 0=2->zj ks (ns.map D.int) (p.set s 0)=a8 (.int (V0 s))/\zj ks (ns.map D.int) (p.set s 1)=a8 (.int (V1 s))) :
  ∃s:Nat,s∈jc p p.length/\Jf ((jc p p.length).map λs=>c p s (V0 s) (V1 s))=c p s (V0 s) (V1 s)/\evP 1000 G T (n+4) "cheapest_ask" [.dct ks (ns.map D.int),jd p,.fn X xs]=.val (.tup [.int (Jf ((jc p p.length).map λs=>c p s (V0 s) (V1 s))),.int (s:Int)]):=by
 let kk:List zo:=(jc p p.length).map λ(s:Nat)=>[c p s (V0 s) (V1 s),(s:Int)]
 have kl:kk.length=(jc p p.length).length:=xg ..;have kp:0<(jc p p.length).length:=List.length_pos_iff.mpr ho;obtain⟨b1,b2⟩:=j64 kk (λk hk=>by obtain⟨s,_,e⟩:=xr.mp hk;rw[<-e];rfl) (kk.length-1) nofun
 have hi:aN (Q0 kk) (kk.length-1)<kk.length:=by omega
 have hk:kk[aN (Q0 kk) (kk.length-1)]?=a8 (kk.getD (aN (Q0 kk) (kk.length-1)) []):=by rw[xf,kh hi];rfl
 obtain⟨s0,hs0,e0⟩:=xr.mp (Xp hk);have at':∀{t:Nat},t∈jc p p.length->t<p.length/\p.getD t 0=2:=λ{t} ht=>by obtain⟨h1,h2⟩:=Xk.mp ht;exact⟨Xa.mp h1,of_decide_eq_true h2⟩
 have mn:Jf ((jc p p.length).map λs=>c p s (V0 s) (V1 s))=c p s0 (V0 s0) (V1 s0):=by
  refine Nx (xr.mpr ⟨s0,hs0,rfl⟩) λ_ hc=>?_;obtain⟨t,ht,rfl⟩:=xr.mp hc;obtain⟨j,hj,ej⟩:=T6.mp ht;have q:=b2 j nofun
  rw[<-e0]at q;have e1:kk.getD j []=[c p t (V0 t) (V1 t),(t:Int)]:=by rw[xf,xm,kh hj,ej];rfl
  rw[e1]at q;exact q
 refine⟨s0,hs0,mn,?_⟩;rw[mn,jb (F:=Vt) (by rfl) rfl];simp only[Vt,Z9,enter,jd];ext;rw[jj (l:=kk.map λk=>D.tup (k.map D.int)) (by rfl) (by unfold vf;rw[xg,cE,xg];omega) ?_ (.inl rfl)];rotate_left
 .rw[Br,Xf];refine Z2 λs hs'=>?_;have hs:=Xa.mp hs';refine jbt ?_ λhb=>?_
  .ext;simp only[gN];ext;simp only[j17];ext
  .have h2:p.getD s 0=2:=of_decide_eq_true hb;obtain⟨h0,h1⟩:=hx s hs h2;have cc:=hc n s p ks ns _ _ hp hp3 nofun h2 h0 h1;simp only[jd]at cc;ext;rw[je7 (by rw[J2,Uy,J2,Lj];rfl)];rw[cc];ext;rfl
 ext;rw[jhh hk,<-e0];ext
def jod{V0 V1:Nat->Int}(hc:Cst X xs m c)(hm:m<=6)(hp:p.length=m)(hp3:∀t∈p,0<=t/\t<3)(ho:jc p p.length≠[])
  (hx:∀s,s<p.length->p.getD s 0=2->zj ks (ns.map D.int) (p.set s 0)=a8 (.int (V0 s))/\zj ks (ns.map D.int) (p.set s 1)=a8 (.int (V1 s))) :
  evP 1000 G T (n+5) (qg "least_numbers") [.fn X xs,.dct ks (ns.map D.int),jd p]=.lval (.int (Jf ((jc p p.length).map λs=>c p s (V0 s) (V1 s)))):=by
 obtain⟨s,_,_,e⟩:=jie (n:=n) hc hm hp hp3 ho hx;rw[Fo (F:=Vd) (by rfl) rfl];simp only[Vd,Qv,enter];ext;erw[e,at0]
def jbo(hw:ws.length=m)(hm:1<=m/\m<=6)(ha:a.length=2^m)(h01:∀x∈a,x=0\/x=1)(hp:p.length=m)(hp3:∀t∈p,0<=t/\t<3)(hc:Cst X xs m c) :
  evP 1000 G T (n+6) "numbers_within" [jd p,qD ws a,.fn "least_numbers" [.fn X xs]]=.val (.dct (PK p) (((PK p).map (Np c a m)).map D.int)):=by
 rw[jb (F:=J0) (by rfl) rfl];simp only[J0,J1,enter];have pk:evP 1000 G T (n+5) "parts_in" [jd p]=.fresh (ju (PK p)):=by rw[Oz (n:=n+3) nofun,zy];rfl
 have p3:=j41 hm.2;have pl:=Ih (p:=p);rw[hp]at pl;have pok:∀q∈PK p,q.length=m/\∀t∈q,0<=t/\t<3:=λq hq=>by rw[<-hp];exact Ig hp3 hq
 have hd:=j1z (f1:=λρ=>stOf (ev (evP 1000 G T (n+5)) G (.not (.isN (.call "settled_by" (.cons (.var 1) (.cons (.var 4) .nil))))) ρ))
  (f2:=λρ=>stOf (ev (evP 1000 G T (n+5)) G (.ite (.var 5) (.lit (.int 0)) (.callV 2 (.cons (.var 3) (.cons (.var 4) .nil)))) ρ))
  (A:=jd p) (B:=qD ws a) (C:=.fn "least_numbers" [.fn X xs]) (L:=PK p) (W:=Np c a m) (op:=opB a m) nofun (Lg hp3)
  (λq s5 hq=>by
   have sp:evP 1000 G T (n+5) "settled_by" [.tup [.tup (ws.map D.str),.tup (a.map D.int)],jd q]=.val (stD a q m):=j1p (n:=n) hm ha (pok q hq).1 (pok q hq).2
   simp only[jd]at sp
   simp only[qD]
   ext
   rw[sp]
   ext
   simp only[opB])
  (λi hi=>by
   have hq:=Xx hi
   obtain⟨q1,q2⟩:=pok _ hq
   cases z:opB a m (PK p)[i] with
   |false =>
    simp only[l7]
    ext
    rw[(Df h01).shut _ q1 q2 z]
   |true =>
    simp only[lF]
    have sub:∀(s:Nat)(v:Int),s<(PK p)[i].length->(PK p)[i].getD s 0=2->(v=0\/v=1)->zj ((PK p).take i) (((((PK p).take i).map (Np c a m))).map D.int) ((PK p)[i].set s v)=a8 (.int (Np c a m ((PK p)[i].set s v))):=λs v hs h2 hv=>by
     rw[Xf]
     refine Mz (f:=λq=>D.int (Np c a m q)) (j43 hp3 hi (j9l hq h2 hv) ?_)
     rw[j04 hs,h2]
     have:(0:Int)<3^((PK p)[i].length-1-s):=T8 (by decide)
     rcases hv with e|e<;>subst e<;>omega
    have L:=jod (n:=n) (p:=(PK p)[i]) (ks:=(PK p).take i) (ns:=((PK p).take i).map (Np c a m)) (V0:=λs=>Np c a m ((PK p)[i].set s 0)) (V1:=λs=>Np c a m ((PK p)[i].set s 1))
     hc hm.2 q1 q2 (by rw[q1];exact Nv h01 q1 q2 z) (λs hs h2=>⟨sub s 0 hs h2 (.inl rfl),sub s 1 hs h2 (.inr rfl)⟩)
    have wo:=((Df (c:=c) h01).opn _ q1 q2 z).2
    rw[q1,<-wo]at L
    simp only[jd]at L
    ext
    rw[j5d (by rw[J2,Uy,J2,Lj];rfl)]
    simp only[Tw,gb]
    rw[L]
    ext)
  (PK p).length 0 .un .un (Pj _)
 have hi:ev (evP 1000 G T (n+5)) G (.seq (.call "parts_in" (.cons (.var 0) .nil))) [.val (jd p),.val (qD ws a),.val (.fn "least_numbers" [.fn X xs]),.un,.un,.un]=a8 (.i (ju (PK p))):=by ext;rw[pk];ext
 have ru:=j1q (fu:=1000) (Γ:=evP 1000 G T (n+5)) (G:=G) (ρ:=[.val (jd p),.val (qD ws a),.val (.fn "least_numbers" [.fn X xs]),.un,.un,.un]) (x:=3) (t:=4) (y:=5) ⟨by simp,by simp,by simp,by decide,by decide,by decide⟩ hi hd;exact congrArg fin ru
def j9y(hw:ws.length=m)(hm:1<=m/\m<=6)(ha:a.length=2^m)(h01:∀x∈a,x=0\/x=1)(hp:p.length=m)(hp3:∀t∈p,0<=t/\t<3)(hc:Cst X xs m c) :
  evP 1000 G T (n+7) "least_numbers" [jd p,qD ws a,.fn X xs]=.val (.dct (PK p) (((PK p).map (Np c a m)).map D.int)):=by
 rw[jb (F:=Vf) (by rfl) rfl];simp only[Vf,Qx,enter];ext;rw[jbo (n:=n) hw hm ha h01 hp hp3 hc,j6g (Uy ..)];ext
def jab(hw:ws.length=m)(hm:1<=m/\m<=6)(ha:a.length=2^m)(h01:∀x∈a,x=0\/x=1)(hc:Cst X xs m c) :
  evP 1000 G T (n+8) "least_table" [qD ws a,.fn X xs]=.val (.tup (((PK (ak m 2)).map (Np c a m)).map D.int)):=by
 rw[jb (F:=Ye) (by rfl) rfl];simp only[Ye,Zy,enter];ext;erw[N7 (n:=n+6) hm hw,j9y (n:=n) hw hm ha h01 (Pg ..) (Fy m) hc]
noncomputable def cW(pr:zo)(_:zo)(s:Nat)(x y:Int):Int:=pr.getD s 0+zx [x,y]
noncomputable def cH(pr:zo)(wt:zo->Int)(p:zo)(s:Nat)(x y:Int):Int:=pr.getD s 0*wt p+(x+y)
def j8n   (hm:m<=6) (hr:pr.length=m):Cst "worst_cost_of_ask" [.lst (pr.map D.int)] m (cW pr):=by
 intro n s p ks ns x y hp hp3 hs h2 hx hy;have b:=Dy (n:=n) nofun nofun h2 hx hy;have g:=U4 (p:=pr) (k:=s) nofun
 simp only[Tw,gb];rw[Fo (F:=Qo) (by rfl) rfl];simp only[Qo,J4,enter];ext;rw[g,b];ext;rw[show([D.int x,D.int y]:List D)=[x,y].map D.int from rfl,jf6 (by simp)];ext;rfl
def j8p   (hm:m<=6) (hr:pr.length=m) (hq:j1j pr):Cst "whole_cost_of_ask" [.dct (PK (ak m 2)) (((PK (ak m 2)).map (wsum w m)).map D.int),.lst (pr.map D.int)] m (cH pr (wsum w m)):=by intro n s p ks ns x y hp hp3 hs h2 hx hy;exact jaq (n:=n) ⟨hq,jm4 (f:=wsum w m) hp hp3⟩ nofun nofun nofun h2 hx hy
def j3e    {d:D} (hw:ws.length=m) (hm:1<=m/\m<=6) (ha:a.length=2^m) (h01:∀x∈a,x=0\/x=1) (hr:pr.length=m) (hp:evP 1000 G T (n+7) "prices_told" [.int m,d]=.fresh (pr.map D.int)) :
  evP 1000 G T (n+9) "worst_table" [qD ws a,d]=.val (.tup (((PK (ak m 2)).map (Np (cW pr) a m)).map D.int)):=by
 have cf:evP 1000 G T (n+8) "worst_cost_of_ask" [qD ws a,d]=.val (.fn "worst_cost_of_ask" [.lst (pr.map D.int)]):=by rw[jb (F:=Qq) (by rfl) rfl];simp only[Qq,J6,enter,qD];ext;rw[at0];ext;rw[hw,hp];ext
 rw[jb (F:=Yb) (by rfl) rfl];simp only[Yb,Zu,enter];ext;erw[cf,jab (n:=n) hw hm ha h01 (j8n hm.2 hr)]
def jbp    {d:D} (hw:ws.length=m) (hm:1<=m/\m<=6) (ha:a.length=2^m) (h01:∀x∈a,x=0\/x=1) (hr:pr.length=m) (hq:j1j pr) (hl:w.length=2^m) (h0:w.all (btw 0)=ae) (hs:w.sum≠0) (hp:evP 1000 G T (n+7) "prices_told" [.int m,d]=.fresh (pr.map D.int)) :
  evP 1000 G T (n+9) "whole_table" [qD ws a,.lst (w.map D.int),d]=.val (.tup (((PK (ak m 2)).map (Np (cH pr (wsum w m)) a m)).map D.int)):=by
 have wc:=jbq (n:=n+3) (a:=a) hw hm hl h0 hs hp;rw[jb (F:=Yc) (by rfl) rfl];simp only[Yc,Zv,enter];ext;rw[wc];ext;rw[wfn,jab (n:=n) hw hm ha h01 (j8p hm.2 hr hq)];ext
section
variable{m:Nat}{o i:Nat->Nat}{t:Nat->Bool}{a b:zo}
def M5{pr':zo}(h:Ord m o i)(ha:∀x∈a,x=0\/x=1)(hb:∀x∈b,x=0\/x=1)(c:Car m o t a b)(hp:∀s,s<m->pr'.getD (i s) 0=pr.getD s 0)(hl:p.length=m)(h3:∀x∈p,0<=x/\x<3) :
  Np (cW pr') b m (rl m o t p)=Np (cW pr) a m p :=
 j6k h (Df ha) (Df hb) (λp q1 _=>j45 h q1 c) (λp s u v _ _ hs=>by unfold cW;rw[hp s hs]) (λp s u v=>by unfold cW;rw[Bc (l:=[u,v]) (l':=[v,u]) (by simp) λx=>by simp[or_comm]]) _ p hl h3 (X8 _)
def K9{pr' w':zo}(h:Ord m o i)(ha:∀x∈a,x=0\/x=1)(hb:∀x∈b,x=0\/x=1)(c:Car m o t a b)(cw:Car m o t w w')(hp:∀s,s<m->pr'.getD (i s) 0=pr.getD s 0)(hl:p.length=m)(h3:∀x∈p,0<=x/\x<3) :
  Np (cH pr' (wsum w' m)) b m (rl m o t p)=Np (cH pr (wsum w m)) a m p :=
 j6k h (Df ha) (Df hb) (λp q1 _=>j45 h q1 c) (λp s u v q1 _ hs=>by unfold cH;rw[hp s hs,jbm h q1 cw]) (λp s u v=>by unfold cH;rw[eQ u v]) _ p hl h3 (X8 _)
def Kz(hk:1<=k)(h:Ord m o i)(ha:∀x∈a,x=0\/x=1)(c:Car m o t a b)(hl:p.length=m)(h3:∀x∈p,0<=x/\x<3):Rp k b m (rl m o t p)=Rp k a m p :=
 jis hk h ha c ((jy p).toNat+1) p hl h3 (by have:=(Q4 h3).1;omega)
noncomputable def tb(N:zo->Int)(m:Nat):zo:=(PK (ak m 2)).map N
noncomputable def nt(m:Nat)(o:Nat->Nat)(t:Nat->Bool)(k:Nat):Int:=jy (rl m o t (j7 3 m (k:Int)))
def j42:PK (ak m 2)=Jb m:=by rw[<-j9t m,zy];rfl
def Rj:(tb N m).length=3^m:=by unfold tb;rw[j42,xg,j2w]
def jj4(h:k<3^m):(tb N m)[k]?=a8 (N (j7 3 m (k:Int))):=by unfold tb;rw[j42,xm,Ij h];rfl
def dg3(h:k<3^m):(j7 3 m (k:Int)).length=m/\∀x∈j7 3 m (k:Int),0<=x/\x<3 :=
 j46 (Xp (Ij h))
def jo3(h:k<3^m):∃j:Nat,j<3^m/\nt m o t k=(j:Int)/\j7 3 m (j:Int)=rl m o t (j7 3 m (k:Int)):=by obtain⟨_,h3⟩:=dg3 h;obtain⟨h1,e⟩:=jog (qi (m:=m) (o:=o) (t:=t)) (j0i h3);have:=(Q4 (j0i (m:=m) (o:=o) (t:=t) h3)).1;exact⟨_,h1,by unfold nt;omega,e.symm⟩
def jg1(st:∀p:zo,p.length=m->(∀x∈p,0<=x/\x<3)->N' (rl m o t p)=N p)(h:k<3^m):∃j:Nat,nt m o t k=(j:Int)/\(tb N' m)[j]?=a8 (N (j7 3 m (k:Int))):=by obtain⟨j,h1,e,e2⟩:=jo3 (o:=o) (t:=t) h;refine⟨j,e,?_⟩;rw[jj4 h1,e2,st _ (dg3 h).1 (dg3 h).2]
end
noncomputable def rcO(d:Option zo):Rc:=match d with
 |none=>.val .non
 |some l=>.fresh (l.map D.int)
variable{ρ:En}
def V5{f:D->En->So}{ds:List D}{g:En->So}{Q:Rc->Prop}(W:Nat->En->Prop)(h0:W 0 ρ)(hs:∀i d ρ,ds[i]?=a8 d->W i ρ->∃ρ',f d ρ=.next ρ'/\W (i+1) ρ')(hk:∀ρ',W ds.length ρ'->Q (fin (g ρ'))):Q (fin (Oq (Jz f ds ρ) g)):=by
 obtain⟨ρ',e,w⟩:=Ze (f:=f) W (k:=0) (ds:=ds) (ρ:=ρ) h0 λi d ρ hi w=>by rw[Pj]at w ⊢;exact hs i d ρ hi w
 rw[e];rw[Pj]at w;exact hk ρ' w
variable{c:Int}
def j5v   (hm:m<=6):∃d:Option zo,evP 1000 G T (n+1) "_law_prices" [.int c,.int m]=rcO d/\∀l,d=a8 l->l.length=m/\l.all (btw 1)=ae:=by
 rw[jb (F:=Bm) (by rfl) rfl];simp only[Bm,Wq,enter];by_cases h:c%4=0
 .refine⟨af,?_,λl e=>nomatch e⟩;ext;rfl
 ext;refine V5 (Q:=λr=>∃d:Option zo,r=rcO d/\∀l,d=a8 l->l.length=m/\l.all (btw 1)=ae) (λj ρ=>∃(dr lf:Int)(l:zo)(s5:Sv),l.length=j/\l.all (btw 1)=ae/\ρ=[.val (.int c),.val (.int m),.val (.int dr),.val (.int lf),.own (l.map D.int),s5]) ⟨_,_,[],_,rfl,rfl,rfl⟩ ?_ ?_
 .rintro j d ρ hj ⟨dr,lf,l,s5,hl,hall,rfl⟩;obtain⟨h1,rfl⟩:=Qh hj;have h1:j<m:=by rw[X5]at h1;exact h1
  have fin:∀(v:Int),1<=v/\v<=1000000->(l++[v]).length=j+1/\(l++[v]).all (btw 1)=ae:=λv hv=>by refine⟨by rw[Xh,hl];rfl,?_⟩;rw[kT,hall];simp only[cB,lU,btw,iB,iA];rw[decide_eq_true hv.1,decide_eq_true hv.2];rfl
  simp only[za];ext;generalize hdr:(dr*48271+13*(0+(j:Int))+5)%2147483647=dr2;have hc:∃v:Int,(1<=v/\v<=1000000)/\atI [D.int (1+dr2/16%5),D.int (1+dr2/16%1000000)] (c/4%2)=a8 (.int v):=by
   have:c/4%2=0\/c/4%2=1:=by omega
   rcases this with e|e
   .exact⟨1+dr2/16%5,by omega,by rw[e,at0]⟩
   .exact⟨1+dr2/16%1000000,by omega,by rw[e,at1]⟩
  obtain⟨v,hv,ev⟩:=hc;rw[ev];ext;by_cases hb:(1000000000000000000:Int)<=c
  .ext;have lf2:=fin (1+lf%1000000) nofun
   have ix:ixN (l.map D.int++[D.int v]).length (0+(j:Int))=a8 j:=by rw[Xh,xg,hl,Xz];unfold ixN;rw[if_pos nofun,if_pos (by show(j:Int)<((j+1:Nat):Int);omega),X5]
   rw[Yx ix];ext;refine⟨_,rfl,dr2,lf/1000000,l++[1+lf%1000000],.val (.int (0+(j:Int))),lf2.1,lf2.2,?_⟩;have e:(l.map D.int++[D.int v]).set j (D.int (1+lf%1000000))=(l++[1+lf%1000000]).map D.int:=by rw[kP,if_neg (by rw[xg];omega),xg,hl,mx,Xi];rfl
   rw[<-e]
   try rfl
  .ext;exact⟨_,rfl,dr2,lf,l++[v],.val (.int (0+(j:Int))),(fin v hv).1,(fin v hv).2,by rw[Xi];rfl⟩
 .rintro ρ ⟨dr,lf,l,s5,hl,hall,rfl⟩;ext;rw[jf,X5]at hl;exact⟨a8 l,rfl,λl' e=>by cases e;exact⟨hl,hall⟩⟩
def j88  {d:Option zo} (hm:m<=6):evP 1000 G T (n+1) "_law_costs" [feD d,.int m]=match d with
  |none=>.fresh ((ak m (1:Int)).map D.int)
  |some l=>.val (.lst (l.map D.int)):=by
 rw[jb (F:=Lx) (by rfl) rfl];simp only[Lx,O8,enter];cases d with
 |none =>
  simp only[feD];ext;rw[jj (l:=(ak m (1:Int)).map D.int) (by rfl) (by rw[jf];omega) ?_ (.inl rfl)]
  .ext
  .have e:(ak m (1:Int)).map D.int=(upto 0 (m:Int).toNat).map λ_=>D.int 1:=by rw[List.map_const',jf,X5,jY]
   rw[e];exact j2c λd hd=>jx (by ext) (by ext)
 |some l =>simp only[feD];ext
theorem jao:∀(ts acc:List au),acc.Nodup->(ts.foldl ddS acc).length=acc.length+ts.length->(acc++ts).Nodup
 |[],acc,hn,_=>by rw[Pa];exact hn
 |v::ts,acc,hn,h=>by
  rw[Tp,xx]at h;have hl:=Ek ts (ddS acc v);by_cases e:acc.any (· == v)=ae
  .have ed:ddS acc v=acc:=if_pos e;rw[ed]at hl h;omega
  .have ed:ddS acc v=acc++[v]:=if_neg e;rw[ed]at h;have nv:v∉acc:=λz=>e (List.any_eq_true.mpr ⟨v,z,beq_self_eq_true v⟩);have:=jao ts (acc++[v]) (by
    rw[List.nodup_append]
    exact⟨hn,by simp,λx hx y hy=>by rw[xu.mp hy];exact λz=>nv (z▸hx)⟩) (by rw[h,Xh,sr];omega)
   rw[t8]at this;exact this
def jdw{ns:List au}(h:(dd ns).length=ns.length):ns.Nodup:=jao ns [] dz (by rw[show([]:List au).length=0 from rfl,Pj];exact h)
def jbn   (hm:1<=m/\m<=6):∃ws:List au,(ws.Nodup/\ws.length=m)/\evP 1000 G T (n+1) "_law_words" [.int c,.int m]=.fresh (ws.map D.str):=by
 rw[jb (F:=Ls) (by rfl) rfl];simp only[Ls,O6,enter];have ll:=joc;have tot:∀k:Bool,((m:Int)*(if k then 1 else 0)).toNat=if k then m else 0:=λk=>by cases k<;>simp
 ext;simp only[K4];ext;obtain⟨k,ek⟩:∃k:Bool,decide ((1000000000000000000:Int)<=c)=k:=⟨_,rfl⟩
 rw[ek];have kb:-4611686018427387904<=(m:Int)*(if k then 1 else 0)/\(m:Int)*(if k then 1 else 0)<4611686018427387904:=by cases k<;>simp<;>omega
 ext;rw[tot];refine V5 (Q:=λr=>∃ws:List au,(ws.Nodup/\ws.length=m)/\r=.fresh (ws.map D.str)) (λi ρ=>∃(ns:List au)(r:Int)(s5 s6 s7 s8:Sv),ns.length=i/\ρ=[.val (.int c),.val (.int m),.val (.str "mdkbvqhzcgrnapxolsiefwtyju"),.own (ns.map D.str),.val (.int r),s5,s6,s7,s8,.un,.un,.un,.un]) ⟨[],c,.un,.un,.un,.un,rfl,rfl⟩ ?_ ?_
 .rintro i d ρ hi ⟨ns,r,s5,s6,s7,s8,hl,rfl⟩;have hi2:i<7:=by have:=(Xe.mp hi).1;rw[jf]at this;cases k<;>simp at this<;>omega
  simp only[za];ext;refine Wd (λj ρ=>∃(x:List Nat)(r2:Int)(s8:Sv),x.length=j/\ρ=[.val (.int c),.val (.int m),.val (.str "mdkbvqhzcgrnapxolsiefwtyju"),.own (ns.map D.str),.val (.int r2),.val d,.val (.int (1+r%8)),.val (.str (sL x)),s8,.un,.un,.un,.un]) ⟨[],r/8,s8,rfl,rfl⟩ ?_ ?_
  .rintro j e ρ hj ⟨x,r2,s8',hx,rfl⟩;have hj2:j<8:=by have:=(Xe.mp hj).1;rw[jf]at this;omega
   have lx:(sL x).length=j:=by rw[Ji,hx]
   simp only[za];ext;rw[j37 nofun];ext;have l1:(⟨#[lt (r2%26)]⟩:au).length=1:=rfl;ext;refine⟨_,rfl,x++[lt (r2%26)],r2/26,.val e,by simp[hx],?_⟩;rw[show(⟨#[lt (r2%26)]⟩:au)=sL [lt (r2%26)]from rfl,We]
  .rintro ρ2 ⟨x,r2,s8',hx,rfl⟩;ext;refine⟨_,rfl,ns++[sL x],r2,.val d,.val (.int (1+r%8)),.val (.str (sL x)),s8',by simp[hl],?_⟩;rw[Xi];rfl
 rintro ρ' ⟨ns,r,s5,s6,s7,s8,hl,rfl⟩;rw[jf]at hl;have nl:ns.length<=6:=by rw[hl];split<;>omega
 ext;rw[jhk nofun];by_cases hd:((dd ns).length:Int)=(m:Int)
 .have lm:ns.length=m:=by
   cases k with
   |true=>simpa using hl
   |false =>have:ns=[]:=d9 (by simpa using hl);subst this;have z:(dd []).length=0:=rfl;rw[z]at hd;omega
  ext;exact⟨ns,⟨jdw nofun,lm⟩,rfl⟩
 refine⟨Zb c m,⟨j3f hm.2,j2m _ _⟩,?_⟩;by_cases h:c%4<2
 .ext;rw[jj (l:=((Ug c).map λx=>(⟨#[x]⟩:au)).map D.str) (by rfl) (by rw[jf];decide) ?_ (.inl rfl)];rotate_left
  .rw[zm,Ug,Xf,Xf];refine je λk hk'=>jx (by ext) ?_;have hk:=Xa.mp hk';ext;rw[j37 nofun];ext;simp
  rw[j6p (Bd (by rw[Zf];decide)),Iv];have st:=jet (c:=c) hm.2;obtain⟨s,hs⟩:∃s:Nat,s=stN c m:=⟨_,rfl⟩
  have es:c/8%(9-(m:Int))=(s:Int):=by rw[hs];unfold stN;have:=Tq (c/8) (show(9-(m:Int))≠0 by omega);omega
  have lg:(sL (Ug c)).length=8:=by rw[Ji,Zf]
  by_cases h0:c%4=0
  .ext;rw[es,jj (l:=(Zb c m).map D.str) (by rfl) (by rw[jf];omega) ?_ (.inl rfl)]
   .ext
   .rw[X5,zm,Zb,Xf];refine je λk hk'=>jx (by ext) ?_;have hk:=Xa.mp hk';ext;have e:(s:Int)+(0+(k:Int))+1=((s+k+1:Nat):Int):=by omega
    have hh:wrd c m k=(Ug c).take (stN c m+k+1):=by unfold wrd;rw[if_pos h,if_pos h0]
    rw[e,Kr (by rw[Zf];omega)];simp only[c9,hh,hs]
  .ext;rw[es,jj (l:=(Zb c m).map D.str) (by rfl) (by rw[jf];omega) ?_ (.inl rfl)]
   .ext
   .rw[X5,zm,Zb,Xf];refine je λk hk'=>jx (by ext) ?_;have hk:=Xa.mp hk';ext;have e:8-(s:Int)-(0+(k:Int))-1=((8-s-k-1:Nat):Int):=by omega
    have hh:wrd c m k=(Ug c).drop (8-stN c m-k-1):=by unfold wrd;rw[if_pos h,if_neg h0]
    rw[e,Ks (by rw[Zf];omega)];simp only[c9,hh,hs]
 .have a:=jfk c;obtain⟨s,hs⟩:∃s:Nat,s=szN c:=⟨_,rfl⟩
  have es:c/4%8=(s:Int):=by rw[hs];unfold szN;omega
  obtain⟨q,hq⟩:∃q:Nat,q=atN c:=⟨_,rfl⟩
  have eq:c/512%((s:Int)+1)=(q:Int):=by rw[hq];unfold atN;have:=Tq (c/512) (show((s:Int)+1)≠0 by omega);rw[<-hs];omega
  ext;rw[es,jj (l:=((Yn c s).map λx=>(⟨#[x]⟩:au)).map D.str) (by rfl) (by rw[jf];omega) ?_ (.inl rfl)];rotate_left
  .rw[X5,zm,Yn,Xf,Xf];refine je λk hk'=>jx (by ext) ?_;have hk:=Xa.mp hk';ext;rw[j37 nofun];ext;simp
  rw[j6p (Bd (by rw[vg];omega)),Iv];have lg:(sL (Yn c s)).length=s:=by rw[Ji,vg]
  ext;rw[eq,jj (l:=(Zb c m).map D.str) (by rfl) (by rw[jf];omega) ?_ (.inl rfl)]
  .ext
  .rw[X5,zm,Zb,Xf];refine je λk hk'=>jx (by ext) ?_;have hk:=Xa.mp hk';ext;rw[j37 nofun];ext;rw[Kr (by rw[vg];omega),Ks (by rw[vg];omega)];have e1:(⟨#[lt ((c/9+7*(0+(k:Int)))%26)]⟩:au)=sL [lt ((c/9+7*(0+(k:Int)))%26)]:=rfl;have l1:(sL ((Yn c s).take q)).length=q:=by rw[Ji,pq,vg];omega
   have l2:(sL ((Yn c s).drop q)).length=s-q:=by rw[Ji,Tv,vg]
   have l3:(sL [lt ((c/9+7*(0+(k:Int)))%26)]).length=1:=rfl;have l4:(sL ((Yn c s).take q)++sL [lt ((c/9+7*(0+(k:Int)))%26)]).length=q+1:=by rw[We,Ji,Xh,pq,vg,xx,Tg];omega
   rw[e1];ext;rw[We,We];simp only[c9,wrd,h,if_false,<-hs,<-hq,t8,j3,Xz]
noncomputable def W8(n:Nat)(ns:zo)(a most:Nat):zo :=
 (ao (2^Qm ns a most)).map λ(k:Nat)=>if decide ((1000000000000000000:Int)<=q9 ns (a+2))=ae then q9 ns (a+2)/(1*2^(0+(k:Int)).toNat)%2 else K5 1000 G T n (j7 2 (Qm ns a most) (0+(k:Int))) (q9 ns a/(most:Int)%5) (q9 ns (a+2))
variable{ns:zo}
def jio{a most:Nat}(hm:1<=most/\most<=6):∀x∈W8 n ns a most,x=0\/x=1:=by
 intro x hx;obtain⟨k,_,rfl⟩:=xr.mp hx;have mb:=j6o (ns:=ns) (a:=a) hm;split
 .omega
 .exact(j5f jld (j85 _ _) (by rw[jt];omega)).1
def p2n(h:k<64):0<(2:Int)^k/\(2:Int)^k<18446744073709551616:=by
 refine⟨T8 (by decide),?_⟩;have h1:2^k<2^64:=Nat.pow_lt_pow_right (by decide) h;have h2:(2:Nat)^64=18446744073709551616:=by decide
 rw[h2]at h1;have h3:((2^k:Nat):Int)=(2:Int)^k:=by simp
 omega
def j5u{a most:Nat}(ha:a<=50)(hm:1<=most/\most<=6):∃ws:List au,(ws.Nodup/\ws.length=Qm ns a most) /\
  evP 1000 G T (n+2) "_law_question" [.lst (ns.map D.int),.int a,.int most]=.val (.tup [.tup (ws.map D.str),.tup ((W8 n ns a most).map D.int)]):=by
 rw[jb (F:=R9) (by rfl) rfl];simp only[R9,Yv,enter];have mb:=j6o (ns:=ns) (a:=a) hm;obtain⟨m,em⟩:∃m:Nat,m=Qm ns a most:=⟨_,rfl⟩
 have em2:1+q9 ns a%(most:Int)=(m:Int):=by rw[em];unfold Qm;have h1:=Tq (q9 ns a) (show(most:Int)≠0 by omega);omega
 rw[<-em]at mb;have p2:=Ld (m:=m) nofun
 have pc:((2^m:Nat):Int)=(2:Int)^m:=by simp
 have e3:(1*2^m:Int).toNat=2^m:=by rw[Sh,<-pc];exact X5 _
 have c0:evP 1000 G T (n+1) "_law_cell" [.lst (ns.map D.int),.int a]=.val (.int (q9 ns a)):=cell_spec Uh nofun
 have c1:evP 1000 G T (n+1) "_law_cell" [.lst (ns.map D.int),.int ((a:Int)+1)]=.val (.int (q9 ns (a+1))):=cell_spec Uh (k:=a+1) nofun
 have c2:evP 1000 G T (n+1) "_law_cell" [.lst (ns.map D.int),.int ((a:Int)+2)]=.val (.int (q9 ns (a+2))):=cell_spec Uh (k:=a+2) nofun
 obtain⟨ws,⟨wnd,wl⟩,we⟩:=jbn (n:=n) (c:=q9 ns (a+1)) (m:=m) nofun
 refine⟨ws,⟨wnd,by rw[wl,em]⟩,?_⟩;ext;rw[c0];ext;rw[em2,c1];ext;erw[we,c0,c2,X5];rw[e3];rw[j4h (λi=>[.val (.lst (ns.map D.int)),.val (.int a),.val (.int most),.val (.int m),.own (ws.map D.str),.val (.int (q9 ns a/(most:Int)%5)),.val (.int (q9 ns (a+2))),.own (((W8 n ns a most).take i).map D.int),if i=0 then .un else .val (.int ((i:Int)-1)),if i=0 then .un else .own ((j7 2 m ((i:Int)-1)).map D.int),.un]) (by simp)]
 .ext;rw[jf,T9 (by simp[W8,<-em])]
 .intro i d hi;obtain⟨h1,rfl⟩:=Qh hi;have hz:=j85 m (0+(i:Int));have hlz:=jt 2 m (0+(i:Int));obtain⟨hb,eb⟩:=j5f (fu:=1000) (n:=n) (G:=G) jld hz nofun (kd:=q9 ns a/(most:Int)%5) (c:=q9 ns (a+2))
  have lt64:2^m<=64:=by omega
  have pw:=p2n (k:=(0+(i:Int)).toNat) nofun
  have al:(W8 n ns a most).length=2^m:=by simp[W8,<-em]
  have ag:(W8 n ns a most)[i]?=a8 (if decide ((1000000000000000000:Int)<=q9 ns (a+2))=ae then q9 ns (a+2)/(1*2^(0+(i:Int)).toNat)%2 else K5 1000 G T n (j7 2 m (0+(i:Int))) (q9 ns a/(most:Int)%5) (q9 ns (a+2))):=by unfold W8;rw[<-em,xm,Xm h1];rfl
  simp only[za];ext;rw[jj (l:=(j7 2 m (0+(i:Int))).map D.int) (by rfl) (by rw[jf];omega) ?_ (.inl rfl)];rotate_left
  .have ed:j7 2 m (0+(i:Int))=(ao m).map λ(k:Nat)=>(0+(i:Int))/2^(m-1-k)%2:=by
    refine Xy λk=>?_;by_cases hk:k<m
    .rw[Zj hk,xm,Xm hk];rfl
    .rw[Xc (by rw[jt];omega),Xc (by simp;omega)]
   rw[X5,zm,ed,Xf];refine je λk hk'=>jx (by ext) ?_;have hk:=Xa.mp hk';have et:((m:Int)-(0+(k:Int))-1).toNat=m-1-k:=by omega
   have p:=p2k (k:=m-1-k) nofun
   rw[<-et]at p;ext;rw[et,Sh];rfl
  ext;rw[je2,eb];ext;rw[jhj rfl];simp only[K4];ext;have pick:∀(k:Bool)(x y:Int),atI [D.int x,.int y] (if k then 1 else 0)=a8 (.int (if k=ae then y else x)):=λk x y=>by cases k<;>rfl
  rw[pick];ext;rw[Te,ag];simp
def jbe(h1:least<=x)(h2:x<=1000000):btw least x=ae:=by simp[btw,h1,h2]
def j5h(h:l.all (btw least)=ae)(h1:least<=x)(h2:x<=1000000):(l++[x]).all (btw least)=ae:=by rw[kT,h,cB,lU,jbe h1 h2];rfl
def jip{v:Int}(h:l.all (btw 0)=ae)(h1:0<=v)(h2:v<=1000000):(l.set k v).all (btw 0)=ae:=by
 rw[ph]at h ⊢;intro x hx;rcases cu hx with z|z
 .exact h x z
 .rw[z];exact jbe h1 h2
theorem j6a:∀{l:zo}{k:Nat}{v:Int},l.all (btw 0)=ae->k<l.length->1<=v->0<(l.set k v).sum
 |[],k,v,_,h,_=>by simp at h
 |x::l,k,v,ha,hk,hv=>by
  rw[cB,Xl]at ha;have hx:0<=x:=by have:=ha.1;simp[btw]at this;exact this.1
  have sn:∀{l:zo},l.all (btw 0)=ae->0<=l.sum:=by
   intro l;induction l with
   |nil=>intro _;simp
   |cons y l ih =>
    intro h;rw[cB,Xl]at h;have:=ih h.2;have hy:0<=y:=by have:=h.1;simp[btw]at this;exact this.1
    rw[gk];omega
  cases k with
  |zero =>have:=sn ha.2;rw[T3,gk];omega
  |succ k =>have:=j6a (k:=k) (v:=v) ha.2 (by simpa using hk) hv;rw[Pz,gk];omega
def j0t{l:Nat}(h:0<l):∃k:Nat,k<l/\c%(l:Int)=(k:Int):=by
 have h1:=Tq c (b:=(l:Int)) nofun
 have h2:=Sw c (b:=(l:Int)) nofun
 exact⟨(c%(l:Int)).toNat,by omega,by omega⟩
def j0z{l:Nat}(h:k<l):ixN l (k:Int)=a8 k:=by unfold ixN;rw[if_pos nofun,if_pos nofun,X5]
def j2x   (hm:m<=6):∃wt:zo,evP 1000 G T (n+2) "_law_weights" [.int c,.int m]=.fresh (wt.map D.int)/\wt.length=2^m/\wt.all (btw 0)=ae/\wt.sum≠0:=by
 rw[jb (F:=Mt) (by rfl) rfl];simp only[Mt,Uk,enter];have p2:=Ld hm;have p6:=p64 hm;have pg:1<=2^m:=kn;have pc:((2^m:Nat):Int)=(2:Int)^m:=by simp
 have e3:(1*2^m:Int).toNat=2^m:=by rw[Sh,<-pc];exact X5 _
 ext;rw[X5];ext;rw[e3,zm];refine V5 (Q:=λr=>∃wt:zo,r=.fresh (wt.map D.int)/\wt.length=2^m/\wt.all (btw 0)=ae/\wt.sum≠0) (λi ρ=>∃(acc:zo)(dr lf:Int)(s5:Sv),ρ=[.val (.int c),.val (.int m),.val (.int dr),.val (.int lf),.own (acc.map D.int),s5]/\acc.length=i/\acc.all (btw 0)=ae) ⟨[],_,_,.un,rfl,rfl,rfl⟩ ?_ ?_
 .rintro i d ρ hi ⟨acc,dr,lf,s5,rfl,ha,hb⟩;rw[xm]at hi;obtain⟨k,hk,rfl⟩:=Pb.mp hi;obtain⟨h1,h2⟩:=Xe.mp hk;rw[jZ]at h2;subst h2;rw[Xg]at h1;simp only[za];ext;generalize (dr*48271+13*(0+(i:Int))+5)%2147483647=d2;have h3:c/4%2=0\/c/4%2=1:=by omega
  have one:∃v:Int,(0<=v/\v<=1000000)/\atI [D.int (d2/16%4),D.int (d2/16%1000001)] (c/4%2)=a8 (.int v):=by
   rcases h3 with e|e<;>rw[e]
   .exact⟨_,by omega,rfl⟩
   .exact⟨_,by omega,rfl⟩
  obtain⟨v,hv,ev⟩:=one;rw[ev];ext;by_cases hbg:(1000000000000000000:Int)<=c
  .have ix:ixN (acc.map D.int++[D.int v]).length (0+(i:Int))=a8 i:=by rw[Xh,xg,ha,Xz];unfold ixN;rw[if_pos nofun,if_pos (by show(i:Int)<((i+1:Nat):Int);omega),X5]
   ext;rw[Yx ix];ext;refine⟨_,rfl,acc++[lf%(1000001)],d2,lf/(1000001),.val (.int (0+(i:Int))),?_,by rw[Xh];simp;omega,j5h hb nofun nofun⟩;have e:(acc.map D.int++[D.int v]).set i (D.int (lf%(1000001)))=(acc++[lf%(1000001)]).map D.int:=by rw[kP,if_neg (by rw[xg];omega),xg,ha,mx,Xi];rfl
   rw[<-e]
  .ext;exact⟨_,rfl,acc++[v],_,_,_,by rw[Xi];rfl,by rw[Xh];simp;omega,j5h hb nofun nofun⟩
 .rintro ρ' ⟨acc,dr,lf,s5,rfl,ha,hb⟩;rw[xg,Xg]at ha;by_cases hs:acc.sum=0
  .obtain⟨k,hk,ek⟩:=j0t (c:=c/8) (l:=acc.length) nofun
   ext;rw[ek,Yx (n:=k) (by rw[xg];exact j0z hk)];ext;refine⟨acc.set k 1,by rw[cO],by rw[Xq];exact ha,jip hb nofun nofun,?_⟩;have:=j6a (v:=1) hb hk nofun
   omega
  .ext;exact⟨acc,rfl,ha,hb,hs⟩
def jgr  (h:1<=m/\m<=6):evP 1000 G T (n+2) "rows_of" [.int m]=.fresh (ju (Qj m)):=by
 rw[jb (F:=Ms) (by rfl) rfl];simp only[Ms,Uj,enter];ext;rw[j1s (n:=n) nofun];ext;simp only[gA];have hrep:(ak (m:Int).toNat [D.tup [.int 0,.int 1]]).flatten=ju (ak m [0,1]):=by
  rw[X5];have:∀k:Nat,(ak k [D.tup [.int 0,.int 1]]).flatten=ju (ak k [0,1]):=by
   intro k;induction k with
   |zero=>rfl
   |succ k ih=>rw[Ph,Td,ih];rfl
  exact this m
 ext;rw[hrep,Zm Y9 (λf hf=>by rw[(Ss.mp hf).2];decide) (by rw[Pg];omega)];ext;have hc:qx (ak m [0,1])=Qj m:=by
  rw[zy];have:∀k:Nat,zu (ak k [0,1])=Qj k:=by
   intro k;induction k with
   |zero=>rfl
   |succ k ih=>rw[Ph,zu,ih,Qj];simp
  exact this m
 rw[hc]
def U3(a:List au):D.depL (a.map D.str)<=90:=by
 induction a with
 |nil=>simp[D.depL]
 |cons x a ih=>rw[X7,D.depL];simp[D.dep];exact ih
theorem j4k:∀{ws:List au}{p:au},p∈ws->ixD (.str p) (ws.map D.str)=a8 (ws.idxOf p)
 |[],p,h=>by cases h
 |w::ws,p,h=>by
  unfold ixD;rw[X7];dsimp only;rw[j4z];by_cases z:w=p
  .subst z;simp
  .have z':(w==p)=a9:=by simpa using z
   rw[z',if_neg (by simp),j4k (by simpa [bu z]using h),List.idxOf_cons,z'];rfl
variable{p:au}
def j9z(s:List D->D)(hs:s=D.tup\/s=D.lst):Qe .notin (.str p) (s (ws.map D.str))=a8 (!ws.contains p):=by
 have e:((ws.map D.str).any λe=>deq e (.str p))=ws.contains p:=by
  induction ws with
  |nil=>rfl
  |cons x ws ih=>rw[X7,d6,ih,j4z,k5,Bool.beq_comm]
 have hd:=U3 ws;rcases hs with z|z<;>subst z<;>simp only[Qe,D.sqv]<;>rw[if_pos ⟨hd,by simp[D.dep]⟩,e]
def jpo(hp:p∈ws):Oj (a8 (.v (.e (.tup (ws.map D.str))))) (a8 (.v (.e (.str p))))=a8 (.v (.e (.int ((ws.idxOf p:Nat):Int)))):=by
 have hdl:D.depL (ws.map D.str)<=90/\(D.str p).dep<=90:=⟨U3 ws,by simp[D.dep]⟩
 simp only[Oj,Rk.d,if_pos hdl,j4k hp];rfl
variable{a:zo}
def j6c     (hp:p∈ws):evP fu G T (n+1) "spot_of" [qD ws a,.str p]=.val (.int ((ws.idxOf p:Nat):Int)):=by rw[jb (F:=Mr) (by rfl) rfl];simp only[Mr,Ui,enter,qD];have hc:ws.contains p=ae:=List.contains_iff_mem.mpr hp;ext;rw[at0];ext;rw[j9z _ (.inl rfl),hc];ext;erw[at0,jpo hp]
noncomputable def rv(ws:List au)(r:zo)(p:au):Int:=r.getD (ws.idxOf p) 0
theorem j29:∀a b:List au,z9 (a.map D.str) (b.map D.str)=decide (a=b)
 |[],[]=>by simp[z9]
 |[],_::_=>by simp[z9]
 |_::_,[]=>by simp[z9]
 |x::a,y::b=>by rw[X7,X7,z9,j29 a b,deq];by_cases h1:x=y<;>by_cases h2:a=b<;>simp[h1,h2]
theorem j28{α β:Type}(f:α->β):∀(l:List α)(k:Nat),(l.map f).eraseIdx k=(l.eraseIdx k).map f
 |[],_=>rfl
 |_::_,0=>rfl
 |x::l,k+1=>by rw[X7,iJ,iJ,X7,j28 f l k]
def Iw(h:0<=z/\z<n):ixN n z=a8 z.toNat:=by unfold ixN;rw[if_pos h.1,if_pos h.2]
theorem Eg{α:Type}:∀(l:List α)(k:Nat)(h:k<l.length),(l[k]::l.eraseIdx k).Perm l
 |[],_,h=>absurd h (eV _)
 |x::l,0,_=>eG _
 |x::l,k+1,h=>(jM x _ _).trans ((Eg l k (by simpa using h)).cons x)
noncomputable def dg(m k:Nat):zo:=j7 2 m (k:Int)
def j6e(m:Nat):Qj m=(ao (2^m)).map (dg m):=(La m).symm
def Eh(m k:Nat):(dg m k).length=m:=jt 2 m _
noncomputable def xk(m k s:Nat):Nat:=(bG (k:Int) (2^(m-s-1))).toNat
def jdl:∀m:Fin 7,∀k:Fin 64,∀s:Fin 6,s.val<m.val->k.val<2^m.val ->
  (j7 2 m.val (k.val:Int)).set s.val (1-(j7 2 m.val (k.val:Int)).getD s.val 0)=j7 2 m.val ((xk m.val k.val s.val:Nat):Int)/\bG (k.val:Int) (2^(m.val-s.val-1))=((xk m.val k.val s.val:Nat):Int)/\xk m.val k.val s.val<2^m.val:=by decide +kernel
def Mv(hm:m<=6)(hk:k<2^m)(hs:s<m):(j7 2 m (k:Int)).set s (1-(j7 2 m (k:Int)).getD s 0)=j7 2 m ((xk m k s:Nat):Int)/\bG (k:Int) (2^(m-s-1))=((xk m k s:Nat):Int)/\xk m k s<2^m:=by
 have h64:2^m<=64:=by
  have:m=0\/m=1\/m=2\/m=3\/m=4\/m=5\/m=6:=by omega
  rcases this with rfl|rfl|rfl|rfl|rfl|rfl|rfl<;>decide
 exact jdl ⟨m,by omega⟩ ⟨k,by omega⟩ ⟨s,by omega⟩ hs hk
def jfj{i j:Int}:binI .bxor i j=a8 (bG i j):=(rfl)
def jqo(m k:Nat):∀x∈dg m k,x=0\/x=1:=λx hx=>j85 m _ x hx
def jnc(h:k<2^m):vl (dg m k)=k:=by
 have pc:((2^m:Nat):Int)=(2:Int)^m:=by simp
 exact Ng m k nofun nofun
def jfh(hr:r.length=m)(h:∀x∈r,x=0\/x=1):(vl r).toNat<2^m/\dg m (vl r).toNat=r:=by
 have b:=Ka h;rw[hr]at b;have pc:((2^m:Nat):Int)=(2:Int)^m:=by simp
 refine⟨by omega,?_⟩;unfold dg;rw[fH b.1,<-hr];exact j15 h
noncomputable def an(a:zo)(r:zo):Int:=a.getD (vl r).toNat 0
def jfl(h:k<2^m):an a (dg m k)=a.getD k 0:=by unfold an;rw[jnc h,X5]
def jin    (hm:1<=m/\m<=6) (ha:a.length=2^m) (hr:r.length=m) (h:∀x∈r,x=0\/x=1):evP 1000 G T (n+3) "answer_to" [qD ws a,jd r]=.val (.int (an a r)):=by obtain⟨h1,h2⟩:=jfh hr h;have:=Dz (n:=n) (ws:=ws) hm ha h1;rw[show j7 2 m (((vl r).toNat:Nat):Int)=r from h2]at this;exact this
noncomputable def byR(a:zo)(m:Nat)(f:zo->zo):zo:=(ao (2^m)).map λk=>an a (f (dg m k))
def jik(a:zo)(m:Nat)(f:zo->zo):(byR a m f).length=2^m:=by simp[byR]
def Rw(m:Nat)(r:zo):Prop:=r.length=m/\∀x∈r,x=0\/x=1
def Ky(m k:Nat):Rw m (dg m k):=⟨Eh m k,jqo m k⟩
def jle(h:∀x∈r,x=0\/x=1)(i:Nat):r.getD i 0=0\/r.getD i 0=1:=by
 rw[xf];cases e:r[i]? with
 |none=>exact .inl rfl
 |some y=>exact h y (Xp e)
noncomputable def pk(L P:List au)(r:zo):zo:=L.map λw=>rv P r w
variable{L P:List au}
def jev(hL:L.length=m)(h:Rw m r):Rw m (pk L P r):=⟨by simp[pk,hL],λx hx=>by
 obtain⟨w,_,rfl⟩:=xr.mp hx
 exact jle h.2 _⟩
variable{s:List D->D}
def j91(hs:s=D.tup\/s=D.lst){ts:List au}(h:ts.length<64):j0d (a8 (.v (.e (s (ts.map D.str)))))=a8 (.v (.o ((Vk ts).map D.str))):=by rcases hs with z|z<;>subst z<;>simp only[j0d,Rk.d,M8,if_pos h]
def jkm{a b:List au}:Qe .ne (.lst ((Vk a).map D.str)) (.lst ((Vk b).map D.str))=a8 (!decide (a.Perm b)):=by rw[j55 (U3 _) (U3 _),j29];congr 2;rw[decide_eq_decide];exact jc0
def Dn  {t:List D->D} (hs:s=D.tup\/s=D.lst) (ht:t=D.tup\/t=D.lst) {A B:List au} (h1:A.length<64) (h2:B.length<64) (hp:B.Perm A):evP 1000 G T (n+1) "refuse_other_order" [s (A.map D.str),t (B.map D.str)]=.val .non:=by rw[jb (F:=Qa) (by rfl) rfl];simp only[Qa,vq,enter];ext;rw[j91 hs h1,j91 ht h2];ext;rw[jkm,decide_eq_true hp];ext
variable{α:Type}
def Do    {l:List α} {f:α->Nat} (hr:r.length=m) (hi:∀x∈l,f x<m) (hl:l.length<=1000):evP 1000 G T (n+1) "picked" [jd r,.lst (l.map λx=>D.int (f x:Int))]=.val (jd (l.map λx=>r.getD (f x) 0)):=by
 rw[jb (F:=Bk) (by rfl) rfl];simp only[Bk,Wn,enter,jd];ext;rw[jj (l:=l.map λx=>D.int (r.getD (f x) 0)) (by rfl) (by rw[xg];omega) ?_ (.inl rfl)]
 .ext;rw[Xf];rfl
 .refine je λx hx=>jx (by ext) ?_;have:=hi x hx;ext;rw[U4 nofun];ext
def len_str(hs:s=D.tup\/s=D.lst):zp .len (a8 (.a [.e (s (P.map D.str))]))=a8 (.v (.e (.int (P.length:Int)))):=by rcases hs with z|z<;>subst z<;>simp only[zp,V3,Rk.d,xg]<;>rfl
def jfx(hs:s=D.tup\/s=D.lst):zp .tuple (a8 (.a [.e (s (P.map D.str))]))=a8 (.v (.e (.tup (P.map D.str)))):=by rcases hs with z|z<;>subst z<;>rfl
def j68(hs:s=D.tup\/s=D.lst)(hp:p∈P):Oj (a8 (.v (.e (s (P.map D.str))))) (a8 (.v (.e (.str p))))=a8 (.v (.e (.int ((P.idxOf p:Nat):Int)))):=by
 have hdl:D.depL (P.map D.str)<=90/\(D.str p).dep<=90:=⟨U3 P,by simp[D.dep]⟩
 rcases hs with z|z<;>subst z<;>(simp only[Oj,Rk.d,if_pos hdl,j4k hp];rfl)
variable{i:Nat}
def jbu{c e:En->Option W}{d:D}(hc:c (ρ.set i (.val d))=a8 (.a [])){d':D}(he:e (ρ.set i (.val d))=a8 (.v (.t d')))(hn:Jy d'=ae):Qi [i] c e ρ d=a8 (a8 d'):=by simp[Qi,qz,hc,he,Rk.st,hn]
def jo4(r:zo):Jy (jd r)=ae:=qt r
variable{a:zo}
def jcg(hs:s=D.tup\/s=D.lst)(hm:1<=m/\m<=6)(hL:L.length=m)(ha:a.length=2^m)(hp:L.Perm P) :
  evP 1000 G T (n+4) "put_in_order" [qD L a,s (P.map D.str)]=.val (qD P (byR a m (pk L P))):=by
 have hP:P.length=m:=by rw[<-hp.length_eq,hL]
 rw[jb (F:=Vq) (by rfl) rfl];simp only[Vq,Z6,enter,qD];have p64:2^m<=64:=Xn (T7 (by decide) hm.2) (by decide);ext;erw[at0,Dn (n:=n+2) (.inl rfl) hs nofun nofun hp.symm,at0];rw[jj (l:=L.map λw=>D.int ((P.idxOf w:Nat):Int)) (by rfl) (by rw[xg];omega) ?_ (.inl rfl)];rotate_left
 .refine je λw hw=>jx (by ext) ?_;ext;rw[j68 hs (hp.mem_iff.mp hw)];ext
 ext;rw[len_str hs];ext;rw[hP,jgr (n:=n+1) hm];ext;rw[jj (l:=(ao (2^m)).map λk=>jd (pk L P (dg m k))) (by rfl) (by rw[j6e];simp[ju];omega) ?_ (.inl rfl)];rotate_left
 .rw[j6e,ju,Xf];refine je λk hk=>jbu (by ext) ?_ (jo4 _);ext;have e:=Do (n:=n+2) (r:=dg m k) (l:=L) (f:=λw=>P.idxOf w) (Eh m k) (λw hw=>by
   have:=Sy (hp.mem_iff.mp hw)
   omega) nofun
  simp only[c9];rw[e,jex];rfl
 ext;rw[jfx hs];ext;rw[jj (l:=(byR a m (pk L P)).map D.int) (by rfl) (by rw[xg,Xg];omega) ?_ (.inr (qt _))]
 .ext
 .rw[byR,Xf];refine je λk hk=>jx (by ext) ?_;have e:evP 1000 G T (n+3) "answer_to" [.tup [.tup (L.map D.str),.tup (a.map D.int)],jd (pk L P (dg m k))]=_:=jin (n:=n) (ws:=L) hm ha (jev hL (Ky m k)).1 (jev hL (Ky m k)).2;ext;rw[e];ext;rfl
noncomputable def swp(i j k:Nat):Nat:=if k=i then j else if k=j then i else k
def jg4(i j k:Nat):swp i j (swp i j k)=k:=by unfold swp;split<;>split<;>(try split)<;>omega
variable{j:Nat}
def jj7(hi:i<m)(hj:j<m)(hk:k<m):swp i j k<m:=by unfold swp;split<;>(try split)<;>omega
noncomputable def sw(i j:Nat)(d:α)(l:List α):List α:=(ao l.length).map λk=>l.getD (swp i j k) d
def Ol{d:α}{l:List α}:(sw i j d l).length=l.length:=by simp[sw]
def j3m{d:α}{l:List α}(hk:k<l.length):(sw i j d l)[k]?=a8 (l.getD (swp i j k) d):=by unfold sw;rw[xm,Xm hk];rfl
def Mg{d:α}{l:List α}(hi:i<l.length)(hj:j<l.length):(l.set i (l.getD j d)).set j (l.getD i d)=sw i j d l:=by
 refine Xy λk=>?_;by_cases hk:k<l.length
 .rw[j3m hk];unfold swp;by_cases h2:k=j
  .subst h2;rw[Pk (by simp;omega)];by_cases h1:k=i
   .subst h1;rw[if_pos rfl]
   .rw[if_neg h1,if_pos rfl]
  .rw[T4 (bu h2)];by_cases h1:k=i
   .subst h1;rw[Pk hk,if_pos rfl]
   .rw[T4 (bu h1),if_neg h1,if_neg h2,xf,kh hk];rfl
 .rw[Xc (by simp;omega),Xc (by rw[Ol];omega)]
def j0c{d:α}{l:List α}(hi:i<l.length)(hj:j<l.length):(sw i j d l).Perm l:=by
 rw[<-Mg hi hj];have e1:l.getD j d=l[j]:=by rw[xf,kh hj];rfl
 have e2:l.getD i d=l[i]:=by rw[xf,kh hi];rfl
 rw[e1,e2];exact List.set_set_perm hi hj
def jo0    (hL:L.length=m) (hn:L.Nodup) (hr:r.length=m) (hi:i<m) (hj:j<m):pk L (sw i j ("":au) L) r=sw i j 0 r:=by
 refine Xy λk=>?_;unfold pk;rw[xm];by_cases hk:k<m
 .rw[kh nofun,j3m nofun];show a8 (rv (sw i j ("":au) L) r L[k])=_;unfold rv;have pn:(sw i j ("":au) L).Nodup:=(j0c nofun nofun).nodup_iff.mpr hn;have hs:=jj7 hi hj hk;have e:(sw i j ("":au) L)[swp i j k]'(by rw[Ol];omega)=L[k]:=by
   have:=j3m (d:=("":au)) (l:=L) (i:=i) (j:=j) (k:=swp i j k) nofun
   rw[jg4,kh (by rw[Ol];omega)]at this;rw[ax this,xf,kh nofun];rfl
  rw[<-e,pn.idxOf_getElem _ (by rw[Ol];omega)]
 .rw[Xc nofun,Xc (by rw[Ol];omega)];rfl
def May(a:zo)(m i j:Nat):Prop:=∀r,Rw m r->an a (sw i j 0 r)=an a r
def jmo{p:zo->Prop}:(∀r,Rw m r->p r) ↔ ∀k,k<2^m->p (dg m k):=by
 refine⟨λh k hk=>h _ (Ky m k),λh r hr=>?_⟩;obtain⟨h1,h2⟩:=jfh hr.1 hr.2;have:=h _ h1
 rwa [h2]at this
def jij(ha:a.length=2^m):byR a m (sw i j 0)=a↔May a m i j:=by
 unfold May;rw[jmo];refine⟨λh k hk=>?_,λh=>Xy λk=>?_⟩
 .have:=congrArg (λl:zo=>l.getD k 0) h;rw[jfl hk,<-this];show _=(byR a m (sw i j 0)).getD k 0;unfold byR;rw[xf,xm,Xm hk];rfl
 .by_cases hk:k<2^m
  .unfold byR;rw[xm,Xm hk];show a8 (an a (sw i j 0 (dg m k)))=_;rw[h k hk,jfl hk,xf,kh nofun];rfl
  .rw[Xc (by rw[jik];omega),Xc nofun]
def jbd{f g:zo->zo}(h:∀r,Rw m r->f r=g r):byR a m f=byR a m g:=Xu λk _=>by rw[h _ (Ky m k)]
def Im   (hn:L.Nodup) (hi:i<L.length):L.getD i "" ∈ L/\L.idxOf (L.getD i "")=i:=by
 have e:L.getD i "" = L[i]:=by rw[xf,kh hi];rfl
 rw[e];exact⟨Xx hi,hn.idxOf_getElem i hi⟩
def Yk(l:zo):D.depL (l.map D.int)+1<=90:=by
 have:D.depL (l.map D.int)<=0:=D.depL_of λd hd=>by obtain⟨x,_,rfl⟩:=xr.mp hd;simp[D.dep]
 omega
open Classical in
def jcv(hm:1<=m/\m<=6)(hL:L.length=m)(hn:L.Nodup)(ha:a.length=2^m)(hi:i<m)(hj:j<m) :
  evP 1000 G T (n+5) "may_exchange" [qD L a,.str (L.getD i ""),.str (L.getD j "")]=.val (.bl (decide (May a m i j))):=by
 have p64:2^m<=64:=Xn (T7 (by decide) hm.2) (by decide);obtain⟨i1,i2⟩:=Im (L:=L) (i:=i) hn nofun
 obtain⟨j1,j2⟩:=Im (L:=L) (i:=j) hn nofun
 have s1:evP 1000 G T (n+4) "spot_of" [.tup [.tup (L.map D.str),.tup (a.map D.int)],.str (L.getD i "")]=_:=j6c (n:=n+3) (a:=a) i1;have s2:evP 1000 G T (n+4) "spot_of" [.tup [.tup (L.map D.str),.tup (a.map D.int)],.str (L.getD j "")]=_:=j6c (n:=n+3) (a:=a) j1;rw[i2]at s1;rw[j2]at s2;have hp:L.Perm (sw i j ("":au) L):=(j0c nofun nofun).symm;have w1:=jcg (n:=n) (s:=D.lst) (.inr rfl) hm hL ha hp;rw[jbd (g:=sw i j 0) λr hr=>jo0 hL hn hr.1 hi hj]at w1;unfold qD at w1;have e5:((L.map D.str).set i (.str (L.getD j ""))).set j (.str (L.getD i ""))=(sw i j ("":au) L).map D.str:=by rw[<-Mg nofun nofun,cO,cO]
 have l1:(L.map D.str).length=m:=by rw[xg,hL]
 have l2:((L.map D.str).set i (.str (L.getD j ""))).length=m:=by rw[Xq,l1]
 rw[jb (F:=Vs) (by rfl) rfl];simp only[Vs,Z8,enter,qD];ext;erw[s1,s2,at0,Yx (n:=i) (by rw[l1,Iw nofun];simp)];rw[Yx (n:=j) (by rw[l2,Iw nofun];simp),e5];ext;rw[w1];ext;rw[at1,at1];ext;rw[j56 (by rw[D.dep];exact Yk _) (by rw[D.dep];exact Yk _),U0];ext;congr 2;exact decide_eq_decide.mpr (jij ha)
def j3x  (hm:m<=6):evP 1000 G T (n+1) "_law_row" [.int (m:Int),.int (k:Int)]=.val (jd (dg m k)):=by
 rw[jb (F:=j4s) (by rfl) rfl];simp only[j4s,Ew,enter];ext;rw[X5];refine Jv (λi ρ=>∃s3,ρ=[.val (.int (m:Int)),.val (.int (k:Int)),.own (((dg m k).take i).map D.int),s3]) ⟨_,rfl⟩ ?_ ?_
 .rintro i d ρ hi ⟨s3,rfl⟩;obtain⟨hlt,rfl⟩:=Qh hi;simp only[za];have et:((m:Int)-(0+(i:Int))-1).toNat=m-1-i:=by omega
  have p:=p2k (k:=m-1-i) nofun
  rw[<-et]at p;have ll:((dg m k).take i).length<=6:=by rw[pq];omega
  ext;refine⟨_,rfl,.val (.int (0+(i:Int))),?_⟩;rw[Te,show dg m k=j7 2 m (k:Int)from rfl,Zj hlt,Xi,et,Sh];rfl
 .rintro ρ' ⟨s3,rfl⟩;ext;rw[jf,T9 (by rw[Eh];exact X8 _)]
def jp4{i j:Int}:binI .band i j=a8 (dj i j):=(rfl)
theorem j65:∀(l:zo)(x:Int),vl (l++[x])=2*vl l+x
 |[],x=>by simp[vl]
 |y::l,x=>by rw[Tw,vl,j65 l x,vl,Xh,sr,cS,<-fJ,cT _ (2:Int)];omega
def jdr(ks:List Nat):vf (ks.map λ(k:Nat)=>D.int (k:Int))=(ao ks.length).map λ(i:Nat)=>D.tup [.int (i:Int),.int ((ks.getD i 0:Nat):Int)]:=by
 refine Xy λi=>?_;rw[Wl,xm,xm];by_cases h:i<ks.length
 .rw[Xm h,kh h];simp[h]
 .rw[Xc nofun,Xc (by simp;omega)];rfl
def jem   {mask:Int} (hm:1<=m/\m<=6) (ha:a.length=2^m) (h01:∀x∈a,x=0\/x=1):∃a':zo,(a'.length=2^m/\∀x∈a',x=0\/x=1)/\evP 1000 G T (n+2) "_law_alike_for" [.tup (a.map D.int),.int (m:Int),.int mask]=.val (.tup (a'.map D.int)):=by
 rw[jb (F:=W4) (by rfl) rfl];simp only[W4,Vz,enter];have p64:2^m<=64:=Xn (T7 (by decide) hm.2) (by decide);have p2:=Ld (m:=m) nofun
 have pc:((2^m:Nat):Int)=(2:Int)^m:=by simp
 have e3:(1*2^m:Int).toNat=2^m:=by rw[Sh,<-pc];exact X5 _
 ext;rw[X5];ext;rw[e3];refine V5 (Q:=λr=>∃a':zo,(a'.length=2^m/\∀x∈a',x=0\/x=1)/\r=.val (.tup (a'.map D.int))) (λi ρ=>∃(l:zo)(s4 s5 s6 s7 s8 s9 s10 s11:Sv),(l.length=i/\∀x∈l,x=0\/x=1)/\ρ=[.val (.tup (a.map D.int)),.val (.int (m:Int)),.val (.int mask),.own (l.map D.int),s4,s5,s6,s7,s8,s9,s10,s11]) ⟨[],_,_,_,_,_,_,_,_,⟨rfl,λx hx=>nomatch hx⟩,rfl⟩ ?_ ?_
 .rintro i d ρ hi ⟨l,s4,s5,s6,s7,s8,s9,s10,s11,⟨hl,hl0⟩,rfl⟩;obtain⟨hlt,rfl⟩:=Qh hi;simp only[za,Xz];obtain⟨p,ep⟩:∃p:Nat->Bool,∀k:Nat,p k=decide (dj (mask/2^k) 1=1):=⟨_,λ_=>rfl⟩
  obtain⟨ks,eks⟩:∃ks:List Nat,ks=(ao m).filter p:=⟨_,rfl⟩
  have kl:ks.length<=m:=by rw[eks];exact Xn (Pu _ _) (by rw[Xg];exact X8 _)
  have km:∀k∈ks,k<m:=λk hk=>by rw[eks]at hk;exact Xa.mp (Xk.mp hk).1
  ext;rw[j3x (n:=n) hm.2];ext;rw[jj (l:=ks.map λ(k:Nat)=>D.int (k:Int)) (by rfl) (by rw[jf];omega) ?_ (.inl rfl)];rotate_left
  .rw[X5,zm,eks];refine Z2 (g:=λ(k:Nat)=>D.int (k:Int)) (p:=p) λk hk=>M7 (b:=p k) ?_ λ_=>?_
   .have hk:=Xa.mp hk;ext;rw[jp4];ext;rw[Xz,X5,ep];rfl
   .ext;rw[Xz]
  ext;rw[jj (l:=(ks.map λk=>(dg m i).getD k 0).map D.int) (by rfl) (by rw[xg];omega) ?_ (.inr (qt _))];rotate_left
  .rw[Xf];refine je λk hk=>jx (by ext) ?_;ext;rw[U4 (by rw[Eh];exact km k hk)];ext;rfl
  ext;generalize (ks.map λk=>(dg m i).getD k 0).sum=y;rw[jdr];refine Wd (λ_ ρ=>∃(r:zo)(s7 s9:Sv),Rw m r/\ρ=[.val (.tup (a.map D.int)),.val (.int (m:Int)),.val (.int mask),.own (l.map D.int),.val (.int (i:Int)),.own (r.map D.int),.val (.lst (ks.map λ(k:Nat)=>D.int (k:Int))),s7,.val (.int y),s9,s10,s11]) ⟨_,_,_,Ky m i,rfl⟩ ?_ ?_
  .rintro j d ρ hj ⟨r,s7',s9',hr,rfl⟩;rw[xm]at hj;have hjl:j<ks.length:=by refine Nat.lt_of_not_le λh=>?_;rw[Xc (by simp;omega)]at hj;cases hj
   rw[Xm hjl]at hj;cases hj;have hkj:ks.getD j 0<m:=km _ (by rw[xf,kh hjl];exact Xx hjl);simp only[Rz];generalize ks.getD j 0=kj at hkj;ext;erw[show cmpI .lt (j:Int) y=a8 (decide ((j:Int)<y))from rfl,Yx (n:=kj) (by rw[xg,hr.1,Iw nofun];simp)];refine⟨_,rfl,r.set kj (if decide ((j:Int)<y)=ae then 1 else 0),_,_,?_,by rw[cO]⟩;refine⟨by rw[Xq];exact hr.1,λx hx=>?_⟩;rcases cu hx with h|h
   .exact hr.2 x h
   .rw[h];split<;>omega
  .rintro ρ' ⟨r,s7',s9',hr,rfl⟩;ext;refine Wd (λj ρ=>∃(s11:Sv),ρ=[.val (.tup (a.map D.int)),.val (.int (m:Int)),.val (.int mask),.own (l.map D.int),.val (.int (i:Int)),.val (.lst (r.map D.int)),.val (.lst (ks.map λ(k:Nat)=>D.int (k:Int))),s7',.val (.int y),s9',.val (.int (vl (r.take j))),s11]) ⟨_,rfl⟩ ?_ ?_
   .rintro j d ρ hj ⟨s11',rfl⟩;rw[xm]at hj;cases e:r[j]? with
    |none=>rw[e]at hj;cases hj
    |some x =>
     rw[e]at hj;cases hj;simp only[za];ext;refine⟨_,rfl,.val (.int x),?_⟩;rw[Te,e];show _=[_,_,_,_,_,_,_,_,_,_,Sv.val (.int (vl (r.take j++[x]))),_]
     rw[j65]
   .rintro ρ' ⟨s11',rfl⟩;rw[xg,S7];obtain⟨v1,v2⟩:=Ka hr.2;rw[hr.1]at v2;obtain⟨w,ew⟩:∃w:Nat,vl r=(w:Int):=⟨(vl r).toNat,by omega⟩
    rw[ew]at v1 v2 ⊢;have hw:w<2^m:=by rw[<-pc]at v2;omega
    ext;rw[U4 nofun];ext;refine⟨_,rfl,l++[a.getD w 0],.val (.int (i:Int)),.val (.lst (r.map D.int)),.val (.lst (ks.map λ(k:Nat)=>D.int (k:Int))),s7',.val (.int y),s9',.val (.int (w:Int)),s11',⟨by rw[Xh,hl];rfl,λx hx=>?_⟩,?_⟩
    .rcases P0.mp hx with z|z
     .exact hl0 x z
     .rw[xu.mp z,xf,kh (by omega:w<a.length)];exact h01 _ (Xx _)
    .rw[Xi];rfl
 .rintro ρ' ⟨l,s4,s5,s6,s7,s8,s9,s10,s11,⟨hl,hl0⟩,rfl⟩;rw[jf]at hl;ext;exact⟨l,⟨hl,hl0⟩,rfl⟩
noncomputable def oD(k:Nat):D:=.int (k:Int)
def jcm  {c:Int} (hm:1<=m/\m<=6):∃os:List Nat,os.Perm (ao m)/\evP 1000 G T (n+1) "_law_order" [.int c,.int (m:Int)]=.fresh (os.map oD):=by
 obtain⟨ρ',e1,d,r,s3,s7,left,out,er,h1,h2⟩:=Ze (f:=O5 [3] (run 1000 (evP 1000 G T n) G (.seq (.set 5 (.bin .mod (.bin .add (.bin .add (.bin .mul (.var 5) (.lit (.int 48271))) (.bin .mul (.lit (.int 7)) (.var 3))) (.lit (.int 1))) (.lit (.int 2147483647)))) (.seq (.set 7 (.bin .mod (.ix (.lst (.cons (.bin .fdiv (.var 5) (.lit (.int 32))) (.cons (.var 6) .nil))) (.blt .int (.cons (.cmp .ge (.var 0) (.bin .pow (.lit (.int 10)) (.lit (.int 18)))) .nil))) (.blt .len (.cons (.var 2) .nil)))) (.seq (.set 6 (.bin .fdiv (.var 6) (.blt .len (.cons (.var 2) .nil)))) (.seq (.apop 4 2 (.var 7)) .nop))))))
   (λi ρ=>∃(d r:Int)(s3 s7:Sv)(left out:List Nat),ρ=[.val (.int c),.val (.int m),.own (left.map oD),s3,.own (out.map oD),.val (.int d),.val (.int r),s7]/\left.length+i=m/\(left++out).Perm (ao m))
   (ds:=upto 0 m) (ρ:=[.val (.int c),.val (.int m),.own ((ao m).map oD),.un,.own [],.val (.int (c%2147483647)),.val (.int c),.un]) (k:=0) ⟨_,_,_,_,ao m,[],rfl,by simp,by rw[Pa]⟩ λi x ρ hi ⟨d,r,s3,s7,left,out,er,h1,h2⟩=>by
  obtain⟨hi6,ex⟩:=Qh hi;subst er ex;have hl:0<left.length:=by omega
  obtain⟨u,eu⟩:∃u:Int,u=(d*48271+7*(0+(i:Int))+1)%2147483647:=⟨_,rfl⟩
  obtain⟨k0,ek0⟩:∃k:Bool,decide ((1000000000000000000:Int)<=c)=k:=⟨_,rfl⟩
  obtain⟨y,ey⟩:∃y:Int,y=(if k0=ae then r else u/32):=⟨_,rfl⟩
  have hb:0<=y%(left.length:Int)/\y%(left.length:Int)<(left.length:Int):=⟨Tq _ nofun,Sw _ nofun⟩
  obtain⟨k,ek⟩:∃k:Nat,k=(y%(left.length:Int)).toNat:=⟨_,rfl⟩
  have hk:k<left.length:=by omega
  have ol:out.length<=6:=by have:=h2.length_eq;rw[Xh,Xg]at this;omega
  have pick:∀(k:Bool)(x y:Int),atI [D.int x,.int y] (if k then 1 else 0)=a8 (.int (if k=ae then y else x)):=λk x y=>by cases k<;>rfl
  refine⟨[.val (.int c),.val (.int m),.own ((left.eraseIdx k).map oD),.val (.int (0+(i:Int))),.own ((out++[left[k]]).map oD),.val (.int u),.val (.int (r/(left.length:Int))),.val (.int (y%(left.length:Int)))],?_,u,_,_,_,left.eraseIdx k,out++[left[k]],rfl,?_,?_⟩
  .simp only[za];ext;rw[<-eu];simp only[K4];ext;rw[ek0,pick,<-ey];ext;rw[jim (k:=k) (d:=oD left[k]) (by rw[xg,Iw hb,ek]) (by rw[xm,kh hk];rfl) (by decide) (by rw[xg];omega) (by rw[xg];omega)];ext;rw[j28,Xi];rfl
  .rw[List.length_eraseIdx_of_lt hk];omega
  .refine List.Perm.trans ?_ h2;rw[<-t8];refine(List.perm_append_comm (l₁:=left.eraseIdx k++out) (l₂:=[left[k]])).trans ?_;rw[j3,<-Tw];exact(Eg left k hk).append_right out
 have hlen:left=[]:=by rw[Pj,jf]at h1;exact d9 nofun
 rw[hlen,gb]at h2;refine⟨out,h2,?_⟩;rw[jb (F:=Lw) (by rfl) rfl];simp only[Lw,O7,enter];ext;rw[jj (l:=(ao m).map oD) (by rfl) (by rw[jf,X5];omega) ?_ (.inl rfl)]
 .ext;rw[X5,e1,er];ext
 .rw[X5,zm];refine je λk hk'=>jx (by ext) ?_;ext;rw[Xz];rfl
noncomputable def Bg(os:List Nat)(m:Nat)(row:zo)(i:Nat):Int:=((ao i).map λt=>row.getD t 0*2^(m-os.getD t 0-1)).sum
def jdf{row:zo}{i:Nat}:Bg os m row (i+1)=Bg os m row i+row.getD i 0*2^(m-os.getD i 0-1):=by unfold Bg;rw[gf,Xi,List.sum_append];simp
section
variable{m:Nat}{os:List Nat}{row:zo}
def jey(hp:os.Perm (ao m)){t:Nat}(ht:t<m):os.getD t 0<m:=by
 have hl:os.length=m:=by rw[hp.length_eq,Xg]
 rw[xf,kh nofun];exact Xa.mp (hp.mem_iff.mp (Xx _))
noncomputable def oF(os:List Nat)(k:Nat):Nat:=os.getD k 0
noncomputable def iF(os:List Nat)(s:Nat):Nat:=os.idxOf s
def Ru(hp:os.Perm (ao m)):Ord m (oF os) (iF os):=by
 have hl:os.length=m:=by rw[hp.length_eq,Xg]
 have nd:os.Nodup:=hp.nodup_iff.mpr Tz;have mem:∀k,k<m->k∈os:=λk hk=>hp.mem_iff.mpr (Xa.mpr hk);refine⟨λk hk=>jey hp hk,λk hk=>by rw[<-hl];exact Sy (mem k hk),λk hk=>?_,λk hk=>?_⟩
 .unfold oF iF;rw[xf,kh (by omega:k<os.length)];exact nd.idxOf_getElem k nofun
 .unfold oF iF;have:=Sy (mem k hk);rw[xf,kh this];exact List.getElem_idxOf this
theorem j8r:∀{r:zo},vl r=((ao r.length).map λs=>r.getD s 0*2^(r.length-s-1)).sum
 |[]=>rfl
 |x::r=>by rw[vl,j8r (r:=r),xx,Sd,X7,gk,Xf];congr 1;congr 1;refine Xu λs _=>?_;show _=(x::r).getD (s+1) 0*2^(r.length+1-(s+1)-1);rw[show r.length+1-(s+1)-1=r.length-s-1 by omega];rfl
def jlf(hp:os.Perm (ao m))(hr:row.length=m):Bg os m (rl m (oF os) (λ_=>a9) row) m=vl row:=by
 have hl:os.length=m:=by rw[hp.length_eq,Xg]
 have e:(ao m).map (λt=>(rl m (oF os) (λ_=>a9) row).getD t 0*2^(m-os.getD t 0-1))=os.map λs=>row.getD s 0*2^(m-s-1):=by
  refine Xy λt=>?_;by_cases ht:t<m
  .rw[xm,Xm ht,xm,kh (by omega:t<os.length)];have hg:os.getD t 0=os[t]:=by rw[xf,kh (by omega:t<os.length)];rfl
   show a8 ((rl m (oF os) (λ_=>a9) row).getD t 0*2^(m-os.getD t 0-1))=a8 (row.getD os[t] 0*2^(m-os[t]-1));rw[Q5 ht];unfold oF;rw[hg];rfl
  .rw[Xc (by simp;omega),Xc (by simp;omega)]
 unfold Bg;rw[e,Ck (hp.map _),j8r,hr]
def jlg(hp:os.Perm (ao m)){j:Nat}(hj:j<2^m):Bg os m (j7 2 m (j:Int)) m=((rk m (iF os) (λ_=>a9) j:Nat):Int):=by
 have h:=Ru hp;have a:=Jd (m:=m) (o:=iF os) (t:=λ_=>a9) (k:=j);have e:=jlf (row:=j7 2 m ((rk m (iF os) (λ_=>a9) j:Nat):Int)) hp (jt ..);rw[a.2]at e;have f:=Lb (t:=λ_=>a9) h (jt 2 m (j:Int));rw[f]at e;have b:=a.1;have pc:((2^m:Nat):Int)=(2:Int)^m:=by simp
 rw[e,<-a.2,Ng m _ nofun nofun]
noncomputable def caL(a:zo)(os:List Nat)(m i:Nat):zo:=(ao i).map λk=>a.getD (rk m (iF os) (λ_=>a9) k) 0
def Ry(hp:os.Perm (ao m)):Car m (oF os) (λ_=>a9) a (caL a os m (2^m)):=λk hk=>by have h:=Ru hp;have a1:=(Jd (m:=m) (o:=oF os) (t:=λ_=>a9) (k:=k)).1;unfold caL;rw[xf,xm,Xm a1];show a.getD _ 0=_;have:=Uo (t:=λ_=>a9) h hk;rw[this]
end
def jlh{row:zo}{A tl s4 s7 s8:Sv}(hm:1<=m/\m<=6)(hp:os.Perm (ao m))(hr:row.length=m):∃s7' s8':Sv,Jz (O5 [7,8] (run 1000 (evP 1000 G T n) G (.seq (.set 6 (.bin .add (.var 6) (.bin .mul (.ix (.var 5) (.var 7)) (.bin .shl (.lit (.int 1)) (.bin .sub (.bin .sub (.var 1) (.var 8)) (.lit (.int 1))))))) .nop))) (vf (os.map oD))
   [A,.val (.int (m:Int)),.val (.lst (os.map oD)),tl,s4,.val (jd row),.val (.int 0),s7,s8]=.next [A,.val (.int (m:Int)),.val (.lst (os.map oD)),tl,s4,.val (jd row),.val (.int (Bg os m row m)),s7',s8']:=by
 have hl:os.length=m:=by rw[hp.length_eq,Xg]
 obtain⟨ρ',e1,s7',s8',er⟩:=Ze (f:=O5 [7,8] (run 1000 (evP 1000 G T n) G (.seq (.set 6 (.bin .add (.var 6) (.bin .mul (.ix (.var 5) (.var 7)) (.bin .shl (.lit (.int 1)) (.bin .sub (.bin .sub (.var 1) (.var 8)) (.lit (.int 1))))))) .nop)))
  (λi ρ=>∃s7 s8:Sv,ρ=[A,.val (.int (m:Int)),.val (.lst (os.map oD)),tl,s4,.val (jd row),.val (.int (Bg os m row i)),s7,s8]) (ds:=vf (os.map oD)) (k:=0) (ρ:=[A,.val (.int (m:Int)),.val (.lst (os.map oD)),tl,s4,.val (jd row),.val (.int 0),s7,s8]) ⟨_,_,rfl⟩ λi d ρ hi ⟨s7,s8,er⟩=>by
  rw[Pj]at er ⊢;have hi2:i<m:=by have:=(Xe.mp hi).1;simpa [vf,hl]using this
  rw[Wl,xm,kh (by omega:i<os.length)]at hi;have ed:d=.tup [.int (i:Int),oD (os.getD i 0)]:=by rw[xf,kh (by omega:i<os.length)];exact(ax hi).symm
  subst er ed;have ol:=jey hp hi2;have g2:atI (row.map D.int) (i:Int)=a8 (.int (row.getD i 0)):=by have:=Fj (p:=row) (k:=i) nofun;rwa [Xz]at this
  have et:((m:Int)-((os.getD i 0:Nat):Int)-1).toNat=m-os.getD i 0-1:=by omega
  have p:=p2k (k:=m-os.getD i 0-1) nofun
  refine⟨_,?_,.val (.int (i:Int)),.val (oD (os.getD i 0)),rfl⟩;simp only[Rz,oD];rw[<-et]at p;ext;rw[g2];ext;rw[et,Sh,jdf]
  try rfl
 refine⟨s7',s8',?_⟩;rw[e1,er,Pj];congr 1;simp[vf,hl]
def El     (hs:s=D.tup\/s=D.lst) (hm:1<=m/\m<=6) (ha:a.length=2^m) (hp:os.Perm (ao m)):evP 1000 G T (n+2) "_law_carried_rows" [s (a.map D.int),.int (m:Int),.lst (os.map oD)]=.fresh ((caL a os m (2^m)).map D.int):=by
 have p64:2^m<=64:=Xn (T7 (by decide) hm.2) (by decide);have pc:((2^m:Nat):Int)=(2:Int)^m:=by simp
 have e3:(1*2^m:Int).toNat=2^m:=by rw[Sh,<-pc];exact X5 _
 have p2:=Ld (m:=m) hm.2;rw[jb (F:=Vu) (by rfl) rfl];simp only[Vu,Za,enter];ext;rw[X5];ext;rw[e3];refine Jv (λi ρ=>∃s4 s5 s6 s7 s8:Sv,ρ=[.val (s (a.map D.int)),.val (.int (m:Int)),.val (.lst (os.map oD)),.own ((caL a os m i).map D.int),s4,s5,s6,s7,s8]) ⟨_,_,_,_,_,rfl⟩ (λi d ρ hi=>?_) λρ'=>?_
 .rintro⟨s4,s5,s6,s7,s8,rfl⟩;obtain⟨hi2,rfl⟩:=Qh hi;rw[Xz];have rs:evP 1000 G T (n+1) "_law_row" [.int (m:Int),.int (i:Int)]=.val (jd (j7 2 m (i:Int))):=j3x (n:=n) hm.2;obtain⟨s7',s8',fi⟩:=jlh (n:=n+1) (os:=os) (row:=j7 2 m (i:Int)) (A:=.val (s (a.map D.int))) (tl:=.own ((caL a os m i).map D.int)) (s4:=.val (.int (i:Int))) (s7:=s7) (s8:=s8) hm hp (jt _ _ _);rw[jlg hp hi2]at fi;have bd:=(Jd (m:=m) (o:=iF os) (t:=λ_=>a9) (k:=i)).1;have tl:(caL a os m i).length<=1000:=by simp[caL];omega
  have gi:atI (a.map D.int) ((rk m (iF os) (λ_=>a9) i:Nat):Int)=a8 (.int (a.getD (rk m (iF os) (λ_=>a9) i) 0)):=by
   have:=Fj (p:=a) (k:=rk m (iF os) (λ_=>a9) i) nofun
   rwa [Xz]at this
  have ix:ixW (a8 (.v (.e (s (a.map D.int))))) (a8 (.v (.e (.int ((rk m (iF os) (λ_=>a9) i:Nat):Int)))))=Fg (a8 (.int (a.getD (rk m (iF os) (λ_=>a9) i) 0))):=by
   rcases hs with e|e<;>rw[e]
   .rw[jad,gi]
   .rw[j4l,gi]
  simp only[za];ext;erw[rs,fi,ix];refine⟨_,rfl,.val (.int (i:Int)),.val (jd (j7 2 m (i:Int))),.val (.int ((rk m (iF os) (λ_=>a9) i:Nat):Int)),s7',s8',?_⟩;unfold caL;rw[gf,Xi,Xi];rfl
 .rintro⟨s4,s5,s6,s7,s8,rfl⟩;rw[jf];ext
def jfc:T "_law_part" = a8 KL.fL_part:=by rfl
theorem j1l:∀(l:zo)(x:Int),jy (l++[x])=3*jy l+x
 |[],x=>by simp[jy]
 |y::l,x=>by rw[Tw,jy,j1l l x,jy,Xh,sr,cS,<-fJ,cT _ (3:Int)];omega
def j20  {p:zo} (hl:p.length<=6):evP 1000 G T (n+1) "_law_number" [jd p]=.val (.int (jy p)):=by
 rw[jb (F:=Bo) (by rfl) rfl];simp only[Bo,Wr,enter,jd];ext;refine Jv (λi ρ=>∃s2,ρ=[.val (.tup (p.map D.int)),.val (.int (jy (p.take i))),s2]) ⟨.un,rfl⟩ ?_ ?_
 .rintro i d ρ hi ⟨s2,rfl⟩;obtain⟨v,hv,rfl⟩:=Mq hi;simp only[za];ext;refine⟨_,rfl,.val (.int v),?_⟩;rw[Te,hv,Option.toList_some,j1l]
 .rintro ρ' ⟨s2,rfl⟩;ext;rw[S7]
def j2h{p:zo}(hs:s=D.tup\/s=D.lst)(hm:1<=m/\m<=6)(hL:L.length=m)(hp:L.Perm P)(hl:p.length=m) :
  evP 1000 G T (n+2) "part_carried" [jd p,.tup (L.map D.str),s (P.map D.str)]=.val (jd (P.map λw=>p.getD (L.idxOf w) 0)):=by
 have hP:P.length=m:=by rw[<-hp.length_eq,hL]
 have e:=Do (n:=n) (r:=p) (l:=P) (f:=λw=>L.idxOf w) hl (λw hw=>by
  rw[<-hL];exact Sy (hp.mem_iff.mpr hw)) nofun
 have rp:=Dn (n:=n) (s:=D.tup) (t:=s) (.inl rfl) hs (A:=L) (B:=P) nofun nofun hp.symm;rw[jb (F:=Vr) (by rfl) rfl];simp only[Vr,Z7,enter];rcases hs with q|q<;>subst q
 all_goals
  ext;rw[rp];ext;rw[jj (l:=P.map λw=>D.int ((L.idxOf w:Nat):Int)) (by rfl) (by rw[xg];omega) ?_ (.inl rfl)]
  .ext;rw[e];ext
  .refine je λw hw=>jx (by ext) ?_;ext;rw[j68 (.inl rfl) (hp.mem_iff.mpr hw)]
def Ww    {d:D} (hk:1<=k/\k<=6) (hw:ws.length=m) (hm:1<=m/\m<=6) (ha:a.length=2^m) (h01:∀x∈a,x=0\/x=1) (hr:pr.length=m) (hq:j1j pr) (hl:w.length=2^m) (h0:w.all (btw 0)=ae) (hs:w.sum≠0) (hp:evP 1000 G T (n+7) "prices_told" [.int m,d]=.fresh (pr.map D.int)) :
  evP 1000 G T (n+10) "_law_tables" [qD ws a,.lst (w.map D.int),d,.int (k:Int)]=.fresh [.tup ((tb (Np (cW pr) a m) m).map D.int),.tup ((tb (Np (cH pr (wsum w m)) a m) m).map D.int),.tup ((tb (Rp k a m) m).map D.int)]:=by
 have h1:=j3e (n:=n) hw hm ha h01 hr hp;have h2:=jbp (n:=n) hw hm ha h01 hr hq hl h0 hs hp;have h3:=j5s (n:=n+1) hk hw hm ha h01;unfold tb;rw[jb (F:=Bl) (by rfl) rfl];simp only[Bl,Wo,enter];ext;erw[h1,h2,h3]
noncomputable def j0n(x:Nat×Nat):D:=.tup [.int (x.1:Int),.int (x.2:Int)]
def swap_perm{i j:Nat}(hi:i<m)(hj:j<m):(((ao m).set i j).set j i).Perm (ao m):=by
 have g:∀k,k<m->(ao m).getD k 0=k:=λk hk=>by rw[xf,Xm hk];rfl
 have:=Mg (i:=i) (j:=j) (d:=0) (l:=ao m) (by simpa using hi) (by simpa using hj);rw[g i hi,g j hj]at this;rw[this];exact j0c (by simpa using hi) (by simpa using hj)
open Classical in
def jb2{c:Int}(hm:1<=m/\m<=6)(hL:L.length=m)(hn:L.Nodup)(ha:a.length=2^m) :
  ∃os:List Nat,os.Perm (ao m)/\evP 1000 G T (n+6) "_law_chosen" [qD L a,.int c]=.fresh (os.map oD):=by
 obtain⟨os,hos,eo⟩:=jcm (n:=n+4) (c:=c) hm;have at0':atI [D.tup (L.map D.str),D.tup (a.map D.int)] 0=a8 (.tup (L.map D.str)):=rfl;have gs:∀k,k<m->atI (L.map D.str) (0+(k:Int))=a8 (.str (L.getD k "")):=λk hk=>by rw[Xz];exact Jt (by rw[xm,xf,kh nofun];rfl)
 rw[jb (F:=Bp) (by rfl) rfl];simp only[Bp,Ws,enter,qD];ext;rw[at0'];ext;rw[hL];rw[jj (l:=(ao m).map oD) (by rfl) (by rw[jf,X5];omega) ?_ (.inl rfl)];rotate_left
 .rw[X5,zm];refine je λk hk'=>jx (by ext) ?_;ext;rw[Xz];rfl
 ext;rw[X5,zm];refine V5 (Q:=λr=>∃os:List Nat,os.Perm (ao m)/\r=.fresh (os.map oD)) (λi ρ=>∃(ps:List (Nat×Nat)) (s4:Sv),ρ=[.val (.tup [.tup (L.map D.str),.tup (a.map D.int)]),.val (.int c),.val (.int (m:Int)),.own ((ao m).map oD),s4,.own (ps.map j0n),.un,.un,.un]/\ps.length<=6*i/\∀x∈ps,x.1<m/\x.2<m) ⟨[],_,rfl,by simp,λx hx=>nomatch hx⟩ ?_ ?_
 .rintro i d ρ hi ⟨ps,s4,rfl,hl,hps⟩;rw[xm]at hi;obtain⟨k,hk,rfl⟩:=Pb.mp hi;obtain⟨h1,h2⟩:=Xe.mp hk;rw[jZ]at h2;subst h2;rw[Xg]at h1;simp only[za];ext;rw[jj (l:=((ao i).filter λj=>decide (May a m i j)).map λj=>j0n (i,j)) (by rfl) (by rw[jf];omega) ?_ (.inl rfl)]
  .have fl:=Pu (λj=>decide (May a m i j)) (ao i);rw[Xg]at fl;ext;refine⟨_,rfl,ps++((ao i).filter λj=>decide (May a m i j)).map (λj=>(i,j)),.val (.int (0+(i:Int))),?_,?_,?_⟩
   .rw[Xi,Xf];rfl
   .rw[Xh,xg];omega
   .intro x hx;rcases P0.mp hx with z|z
    .exact hps x z
    .obtain⟨j,hj,rfl⟩:=xr.mp z;have:=Xa.mp (Xk.mp hj).1;exact⟨h1,by show j<m;omega⟩
  .rw[show(0+(i:Int)).toNat=i by omega,zm];refine Z2 λj hj'=>?_;have hj:=Xa.mp hj';have ms:evP 1000 G T (n+5) "may_exchange" [.tup [.tup (L.map D.str),.tup (a.map D.int)],.str (L.getD i ""),.str (L.getD j "")]=_:=jcv (n:=n) hm hL hn ha h1 nofun
   refine M7 ?_ λ_=>?_
   .ext;rw[at0'];ext;rw[gs i h1,gs j nofun];ext;rw[ms];ext
   .ext;unfold j0n;rw[Xz,Xz]
 .rintro ρ' ⟨ps,s4,rfl,hl,hps⟩;rw[xg,Xg]at hl;by_cases h3:c%3=0
  .by_cases hz:ps.length=0
   .have:ps=[]:=d9 hz;subst this;ext;rw[eo];ext;exact⟨os,hos,rfl⟩
   .obtain⟨k,hk,ek⟩:=j0t (c:=c/3) (l:=ps.length) nofun
    obtain⟨b1,b2⟩:=hps ps[k] (Xx hk);have gp:atI (ps.map j0n) (k:Int)=a8 (j0n ps[k]):=Jt (by rw[xm,kh hk];rfl);ext;rw[ek,gp];unfold j0n;ext;erw[Yx (n:=ps[k].1) (by rw[xg,Xg];exact j0z b1),Yx (n:=ps[k].2) (by rw[Xq,xg,Xg];exact j0z b2)];refine⟨_,swap_perm b1 b2,?_⟩;rw[cO,cO];rfl
  .ext;rw[eo];ext;exact⟨os,hos,rfl⟩
noncomputable def nmL(L:List au)(os:List Nat):List au:=os.map λk=>L.getD k ""
section
variable{m:Nat}{L:List au}{os:List Nat}{p:zo}
def Ik(hp:os.Perm (ao m)):(nmL L os).length=m:=by unfold nmL;rw[xg,hp.length_eq,Xg]
def ja2 (hp:os.Perm (ao m)) {t:Nat} (ht:t<m):(nmL L os).getD t "" = L.getD (oF os t) "":=by
 have hl:os.length=m:=by rw[hp.length_eq,Xg]
 unfold nmL oF;rw[xf,xm,xf (l:=os),kh nofun];rfl
def j0p(hp:os.Perm (ao m))(hL:L.length=m):L.Perm (nmL L os):=by
 have e:(ao m).map (λk=>L.getD k "")=L:=by
  refine Xy λk=>?_;by_cases hk:k<m
  .rw[xm,Xm hk,kh (by omega:k<L.length)];show a8 (L.getD k "")=_;rw[xf,kh (by omega:k<L.length)];rfl
  .rw[Xc (by simp;omega),Xc nofun]
 have:=(hp.map λk=>L.getD k "").symm
 rwa [e]at this
def jct(hp:os.Perm (ao m))(hL:L.length=m)(hn:L.Nodup):(nmL L os).Nodup:=(j0p hp hL).nodup_iff.mp hn
def jaa   {f:au->α} {g:Nat->α} (hP:P.length=m) (h:∀t,t<m->f (P.getD t "")=g t):P.map f=(ao m).map g:=by
 refine Xy λt=>?_;by_cases ht:t<m
 .rw[xm,xm,Xm ht,kh (by omega:t<P.length)];have:=h t ht;rw[xf,kh (by omega:t<P.length)]at this;exact congrArg a8 this
 .rw[Xc (by simp;omega),Xc (by simp;omega)]
def jmh(hp:os.Perm (ao m))(hL:L.length=m)(hn:L.Nodup):((nmL L os).map λw=>p.getD (L.idxOf w) 0)=rl m (oF os) (λ_=>a9) p:=by have h:=Ru hp;refine jaa (Ik hp) λt ht=>?_;rw[ja2 hp ht,(Im hn (by rw[hL];exact h.ol t ht)).2];rfl
def je1(hp:os.Perm (ao m))(hL:L.length=m)(hn:L.Nodup)(hl:p.length=m):(L.map λw=>(rl m (oF os) (λ_=>a9) p).getD ((nmL L os).idxOf w) 0)=p:=by have h:=Ru hp;have e:=Um (t:=λ_=>a9) h hl;refine Eq.trans (jaa (g:=λk=>chi a9 ((rl m (oF os) (λ_=>a9) p).getD (iF os k) 0)) hL λt ht=>?_) e;have i1:=h.il t ht;have g:=ja2 (L:=L) hp i1;rw[h.oi t ht]at g;rw[<-g,(Im (jct hp hL hn) (by rw[Ik hp];exact i1)).2];rfl
end
def j7q(x y:D):atI [x,y] ((k:Int)%2)=a8 (if k%2=0 then x else y):=by
 rcases ij k with e|e
 .rw[show(k:Int)%2=0 by omega,e];rfl
 .rw[show(k:Int)%2=1 by omega,e];rfl
def j0u{a:D}{l:List D}:Vm (a8 (.a [.e a,.o l]))=a8 (.v (.o [a,.lst l])):=Io rfl (by simp)
def j47(hm:1<=m/\m<=6)(hL:L.length=m)(hn:L.Nodup)(hp:os.Perm (ao m)) :
  evP 1000 G T (n+3) "_law_numbers" [.tup (L.map D.str),.tup ((nmL L os).map D.str),.int ((3^m:Nat):Int)]=.fresh (((ao (3^m)).map (nt m (oF os) (λ_=>a9))).map D.int):=by
 have p3:=j41 hm.2;rw[jb (F:=Mu) (by rfl) rfl];simp only[Mu,Ul,enter];ext;rw[X5];refine Jv (λi ρ=>∃s4 s5 s6:Sv,ρ=[.val (.tup (L.map D.str)),.val (.tup ((nmL L os).map D.str)),.val (.int ((3^m:Nat):Int)),.own (((ao i).map (nt m (oF os) (λ_=>a9))).map D.int),s4,s5,s6]) ⟨_,_,_,rfl⟩ (λi d ρ hi=>?_) λρ'=>?_
 .rintro⟨s4,s5,s6,rfl⟩;obtain⟨hi2,rfl⟩:=Qh hi;rw[Xz];obtain⟨d1,d2⟩:=dg3 hi2;have ps:evP 1000 G T (n+2) "_law_part" [.int (m:Int),.int (i:Int)]=.val (.tup ((j7 3 m (i:Int)).map D.int)):=KL.part_spec jfc hm.2;have ln:evP 1000 G T (n+2) "_law_number" [.tup ((rl m (oF os) (λ_=>a9) (j7 3 m (i:Int))).map D.int)]=_:=j20 (n:=n+1) (by rw[qi];exact hm.2);have c1:∀s:List D->D,(s=D.tup\/s=D.lst)->evP 1000 G T (n+2) "part_carried" [.tup ((j7 3 m (i:Int)).map D.int),.tup (L.map D.str),s ((nmL L os).map D.str)]=.val (jd (rl m (oF os) (λ_=>a9) (j7 3 m (i:Int)))):=λs hs=>by
   have:=j2h (n:=n) hs hm hL (j0p hp hL) d1
   rwa [jmh hp hL hn]at this
  have c2:∀s:List D->D,(s=D.tup\/s=D.lst)->evP 1000 G T (n+2) "part_carried" [.tup ((rl m (oF os) (λ_=>a9) (j7 3 m (i:Int))).map D.int),.tup ((nmL L os).map D.str),s (L.map D.str)]=.val (jd (j7 3 m (i:Int))):=λs hs=>by
   have:=j2h (n:=n) (p:=rl m (oF os) (λ_=>a9) (j7 3 m (i:Int))) hs hm (Ik hp) (j0p hp hL).symm qi
   rwa [je1 hp hL hn d1]at this
  have tl:(ao i).length<=1000:=by rw[Xg];omega
  have same:Qe .ne (.tup ((j7 3 m (i:Int)).map D.int)) (.tup ((j7 3 m (i:Int)).map D.int))=a8 a9:=by have:=Yk (j7 3 m (i:Int));rw[jdz nofun nofun,U0];simp
  simp only[za];ext;rw[hL,ps];ext;rw[j0u];ext;rw[j7q];rcases ij i with e|e
  .erw[if_pos e,c1 D.tup (.inl rfl),j0u];rw[j7q,if_pos e];ext;erw[c2 D.tup (.inl rfl),same,ln];refine⟨_,rfl,.val (.int (i:Int)),.val (.tup ((j7 3 m (i:Int)).map D.int)),.val (.tup ((rl m (oF os) (λ_=>a9) (j7 3 m (i:Int))).map D.int)),?_⟩;rw[gf,Xi,Xi];rfl
  .erw[if_neg nofun,c1 D.lst (.inr rfl),j0u];rw[j7q,if_neg nofun];ext;erw[c2 D.lst (.inr rfl),same,ln];refine⟨_,rfl,.val (.int (i:Int)),.val (.tup ((j7 3 m (i:Int)).map D.int)),.val (.tup ((rl m (oF os) (λ_=>a9) (j7 3 m (i:Int))).map D.int)),?_⟩;rw[gf,Xi,Xi];rfl
 .rintro⟨s4,s5,s6,rfl⟩;rw[jf];ext
variable{a:zo}
section
variable{m at':Nat}{p:zo}
def Ba:Ord m id id:=⟨λ_ h=>h,λ_ h=>h,λ_ _=>rfl,λ_ _=>rfl⟩
def jew(hp:p.length=m)(ha:at'<m):rl m id (λs=>s==at') p=p.set at' (chi ae (p.getD at' 0)):=by
 refine Xy λk=>?_;by_cases hk:k<m
 .have e:(rl m id (λs=>s==at') p)[k]?=a8 ((rl m id (λs=>s==at') p).getD k 0):=by rw[xf,kh (by rw[qi];exact hk)];rfl
  rw[e,Q5 hk];show a8 (chi (k==at') (p.getD k 0))=_;by_cases z:k=at'
  .subst z;rw[beq_self_eq_true,Pk nofun]
  .rw[T4 (bu z),kh (by omega:k<p.length),xf,kh (by omega:k<p.length),show(k==at')=a9 by simpa using z];rfl
 .rw[Xc (by rw[qi];omega),Xc (by rw[Xq];omega)]
def jnt(hm:m<=6)(ha:at'<m)(hk:k<2^m):rk m id (λs=>s==at') k=xk m k at':=by
 obtain⟨e1,_,e3⟩:=Mv hm hk ha;have r:=Jd (m:=m) (o:=id) (t:=λs=>s==at') (k:=k);refine Mx r.1 e3 ?_;rw[r.2,jew (jt ..) ha,<-e1];have hb:(j7 2 m (k:Int)).getD at' 0=0\/(j7 2 m (k:Int)).getD at' 0=1:=by have hl:(j7 2 m (k:Int)).length=m:=jt ..;rw[xf,kh nofun];exact jfi _ (Xx _)
 congr 1;rcases hb with z|z<;>rw[z]<;>rfl
noncomputable def tuL(a:zo)(m at':Nat):zo:=(ao (2^m)).map λk=>a.getD (xk m k at') 0
def Og(hm:m<=6)(ha:at'<m):Car m id (λs=>s==at') a (tuL a m at'):=λk hk=>by have r:=(Jd (m:=m) (o:=id) (t:=λs=>s==at') (k:=k)).1;have b:=Uo (t:=λs=>s==at') Ba hk;have b:rk m id (λs=>s==at') (rk m id (λs=>s==at') k)=k:=b;rw[jnt hm ha r]at b;unfold tuL;rw[xf,xm,Xm r];show a.getD _ 0=_;rw[b]
end
variable{P:Int->Prop}
def mem_getD(h:∀x∈a,P x)(hk:k<a.length):P (a.getD k 0):=by rw[xf,kh hk];exact h _ (Xx _)
def Et(ha:a.length=2^m)(h:∀x∈a,P x):∀x∈caL a os m (2^m),P x:=λx hx=>by obtain⟨k,_,rfl⟩:=xr.mp hx;exact mem_getD h (by rw[ha];exact(Jd ..).1)
def Kc{at':Nat}(hm:m<=6)(hat:at'<m)(ha:a.length=2^m)(h:∀x∈a,P x):∀x∈tuL a m at',P x:=λx hx=>by obtain⟨k,hk,rfl⟩:=xr.mp hx;exact mem_getD h (by rw[ha];exact(Mv hm (Xa.mp hk) hat).2.2)
variable{t:Nat->Bool}{o:Nat->Nat}
def j74{i:Nat->Nat}{b:zo}(h:Ord m o i)(c:Car m o t a b)(ha:a.length=2^m)(hb:b.length=2^m):b.sum=a.sum:=by
 have full:∀l:zo,l.length=2^m->(ao (2^m)).map (λk=>l.getD k 0)=l:=λl hl=>by
  refine Xy λk=>?_;by_cases hk:k<2^m
  .rw[xm,Xm hk,kh (by omega:k<l.length)];show a8 (l.getD k 0)=_;rw[xf,kh (by omega:k<l.length)];rfl
  .rw[Xc (by simp;omega),Xc nofun]
 have pm:(ao (2^m)).Perm ((ao (2^m)).map (rk m o t)):=by
  have n2:((ao (2^m)).map (rk m o t)).Nodup:=Il (λx hx y hy e=>by rw[<-Uo (t:=t) h (Xa.mp hx),e,Uo h (Xa.mp hy)]) Tz;have sub:∀x∈(ao (2^m)).map (rk m o t),x∈ao (2^m):=λx hx=>by obtain⟨k,_,rfl⟩:=xr.mp hx;exact Xa.mpr Jd.1
  refine(i6 Tz n2).mpr λx=>⟨λhx=>?_,sub x⟩
  have q:=Jd (m:=m) (o:=i) (t:=λk=>t (o k)) (k:=x);refine xr.mpr ⟨_,Xa.mpr q.1,?_⟩;refine Mx Jd.1 (Xa.mp hx) ?_;rw[Jd.2,q.2,Lb h (jt ..)]
 rw[<-full a ha,<-full b hb,Ck (pm.map λk=>b.getD k 0),Xf];congr 1;exact Xu λk hk=>c k (Xa.mp hk)
def jh2{d:Option zo}(h:∀l,d=a8 l->l.length=m/\l.all (btw 1)=ae):j1j (prD d m):=λs hs=>by
 cases d with
 |none =>have hs:s<(ak m (1:Int)).length:=hs;rw[Pg]at hs;show 0<=(ak m (1:Int)).getD s 0/\_;rw[xf,S5,if_pos hs];show(0:Int)<=1/\(ak m (1:Int)).getD s 0<=1000000;rw[xf,S5,if_pos hs];decide
 |some l =>have hs:s<l.length:=hs;have:=ph.mp (h l rfl).2 (l.getD s 0) (by rw[xf,kh hs];exact Xx _);unfold btw at this;rw[Xl]at this;have h1:=of_decide_eq_true this.1;have h2:=of_decide_eq_true this.2;show 0<=l.getD s 0/\l.getD s 0<=1000000;omega
variable{Γ:au->List D->Rc}
def jq5{d:Option zo}{i:Nat}{r:Sx}(hi:i<ρ.length):Oq (Om i (rcW (rcO d)) ρ) (run 1000 Γ G (.seq (.keep i) r))=run 1000 Γ G r (ρ.set i (.val (feD d))):=by
 cases d with
 |none =>simp only[rcO,j7n,j94,Oo,j0f,Cz,Pk hi,j24];rfl
 |some l =>simp only[rcO,j7o,j93,Oo,j0f,Cz,Pk hi,j25,lT];rfl
def j9d  {d:Option zo} (hm:m<=6) (hd:∀l,d=a8 l->l.length=m/\l.all (btw 1)=ae):evP 1000 G T (n+2) "prices_told" [.int m,feD d]=.fresh ((prD d m).map D.int):=by
 cases d with
 |none=>exact j1t (n:=n+1) hm
 |some l=>exact j3z (hd l rfl).1 hm (hd l rfl).2
noncomputable def prL(pr:zo)(os:List Nat):zo:=os.map λs=>pr.getD s 0
def j9f(hp:os.Perm (ao m)):(prL pr os).length=m:=by unfold prL;rw[xg,hp.length_eq,Xg]
def j9g(hp:os.Perm (ao m)):∀s,s<m->(prL pr os).getD (iF os s) 0=pr.getD s 0:=λs hs=>by
 have h:=Ru hp;have hl:os.length=m:=by rw[hp.length_eq,Xg]
 have i1:=h.il s hs;have o1:os.getD (iF os s) 0=s:=h.oi s hs;unfold prL;rw[xf,xm,kh (by omega:iF os s<os.length)];rw[xf,kh (by omega:iF os s<os.length)]at o1;show pr.getD os[iF os s] 0=_;rw[show os[iF os s]=s from o1]
def j9h(hp:os.Perm (ao m))(hr:pr.length=m)(h:pr.all (btw 1)=ae):(prL pr os).all (btw 1)=ae:=by refine ph.mpr λx hx=>?_;obtain⟨s,hs,rfl⟩:=xr.mp hx;exact mem_getD (P:=λx=>btw 1 x=ae) (λx hx=>ph.mp h x hx) (by rw[hr];exact Xa.mp (hp.mem_iff.mp hs))
def j9i{d:Option zo}(hd:∀l,d=a8 l->l.length=m/\l.all (btw 1)=ae):(prD d m).length=m/\(prD d m).all (btw 1)=ae:=by
 cases d with
 |none=>exact⟨Pg ..,by unfold prD;rw[g9,ph];intro x hx;rw[(Ss.mp hx).2];decide⟩
 |some l=>exact hd l rfl
def jdx {s:Nat} {d:Option zo} (hm:m<=6) (hd:∀l,d=a8 l->l.length=m/\l.all (btw 1)=ae) (hs:s<m):ixW (rcW (evP 1000 G T (n+1) "_law_costs" [feD d,.int m])) (a8 (.v (.e (.int (s:Int)))))=a8 (.v (.e (.int ((prD d m).getD s 0)))):=by
 rw[j88 hm];have hl:=(j9i hd).1;have g:=U4 (p:=prD d m) (k:=s) nofun
 cases d with
 |none =>have g:atI ((ak m (1:Int)).map D.int) (s:Int)=_:=g;simp only[j7o,jfb,g,Ff]
 |some l =>have g:atI (l.map D.int) (s:Int)=_:=g;simp only[j7n,j4l,g,Ff]
def j0j{f:D->Option (Option D)}(st:∀p:zo,p.length=m->(∀x∈p,0<=x/\x<3)->N' (rl m o t p)=N p)
  (hf:∀(j:Nat)(x:Int),(tb N' m)[j]?=a8 x->f (.int (j:Int))=a8 (a8 (.int x))):Je f (((ao (3^m)).map (nt m o t)).map D.int)=a8 ((tb N m).map D.int):=by
 have e:tb N m=(ao (3^m)).map λ(k:Nat)=>N (j7 3 m (k:Int)):=by unfold tb;rw[j42,Jb,Xf];rfl
 rw[e,Xf,Xf];refine je λk hk=>?_;obtain⟨j,e1,e2⟩:=jg1 (t:=t) st (Xa.mp hk);show f (.int (nt m o t k))=_;rw[e1,hf j _ e2];rfl
def je6{f:au}{a b c d:D}:Jq Γ f (a8 (.a [.e a,.e b,.e c,.e d]))=rcW (Γ f [a,b,c,d]):=Yl rfl
def j5c{f:au}{a c d:D}{l:List D}:Jq Γ f (a8 (.a [.e a,.o l,.e c,.e d]))=rcW (Γ f [a,.lst l,c,d]):=Yl rfl
def jbc:(caL a os m (2^m)).length=2^m:=by simp[caL]
def j3h{at':Nat}:(tuL a m at').length=2^m:=by simp[tuL]
def j77{l:zo}{f:zo}(h:l.all (btw 0)=ae)(g:(∀x∈l,btw 0 x=ae)->∀x∈f,btw 0 x=ae):f.all (btw 0)=ae:=ph.mpr (g (ph.mp h))
def jmk(x y z:D):atI [x,y,z] 0=a8 x:=rfl
def St(m:Nat)(o:Nat->Nat)(t:Nat->Bool)(x:(zo->Int)×(zo->Int)):Prop:=∀p:zo,p.length=m->(∀y∈p,0<=y/\y<3)->x.2 (rl m o t p)=x.1 p
noncomputable def pD2(m:Nat)(x:(zo->Int)×(zo->Int)):D:=.tup [.tup ((tb x.1 m).map D.int),.tup ((tb x.2 m).map D.int)]
def j0q(l:zo):Qe .ne (.lst (l.map D.int)) (.lst (l.map D.int))=a8 a9:=by have:=Yk l;rw[j55 nofun nofun,U0];simp
def j48:(((ao (3^m)).map (nt m o t)).map D.int).length=3^m:=by simp
def j8w{m q:Nat}:(tuL a m q).map D.int=(ao (2^m)).map λk=>D.int (a.getD (xk m k q) 0):=by unfold tuL;rw[Xf];rfl
noncomputable def jd1:Sx:=match j1d with
 |.seq _ (.seq _ (.seq _ r))=>r
 |x=>x
def rest(hm:1<=m/\m<=4)(hw:ws.length=m)(hn:ws.Nodup)(ha:a.length=2^m)(h01:∀x∈a,x=0\/x=1) :
  fin (run 1000 (evP 1000 G T 12) G jd1 [.val (.lst (ns.map D.int)),.val (.tup (ws.map D.str)),.val (.tup (a.map D.int)),.val (.int (m:Int)),.un,.un,.un,.un,.un,.un,.un,.un,.un,.un,.un,.un,.un,.un,.un,.un,.un,.un,.un,.un,.un,.un,.un])=.val (.bl ae):=by
 have hm6:1<=m/\m<=6:=by omega
 have c4:evP 1000 G T 12 "_law_cell" [.lst (ns.map D.int),.int 4]=.val (.int (q9 ns 4)):=KL.cell_spec Uh (by decide);have c5:evP 1000 G T 12 "_law_cell" [.lst (ns.map D.int),.int 5]=.val (.int (q9 ns 5)):=KL.cell_spec Uh (by decide);have c6:evP 1000 G T 12 "_law_cell" [.lst (ns.map D.int),.int 6]=.val (.int (q9 ns 6)):=KL.cell_spec Uh (by decide);have c7:evP 1000 G T 12 "_law_cell" [.lst (ns.map D.int),.int 7]=.val (.int (q9 ns 7)):=KL.cell_spec Uh (by decide);have c8:evP 1000 G T 12 "_law_cell" [.lst (ns.map D.int),.int 8]=.val (.int (q9 ns 8)):=KL.cell_spec Uh (by decide);obtain⟨d,ed,hd⟩:=j5v (n:=11) (c:=q9 ns 4) (m:=m) nofun
 obtain⟨w,ew,wl,w0,ws0⟩:=j2x (n:=10) (c:=q9 ns 5) (m:=m) nofun
 obtain⟨k,ek,hk⟩:∃k:Nat,1+q9 ns 6%4=(k:Int)/\(1<=k/\k<=6):=⟨(1+q9 ns 6%4).toNat,by omega,by omega⟩
 obtain⟨os,hp,eo⟩:=jb2 (n:=6) (a:=a) (c:=q9 ns 7) hm6 hw hn ha;have hpr:=j9i hd;have ok:=jh2 hd;have pt:=j9d (n:=7) (m:=m) nofun hd;have t1:=Ww (n:=2) hk hw hm6 ha h01 hpr.1 ok wl w0 ws0 pt;have r1:1<=3^m/\3^m<=729:=j41 hm6.2;have or:=Ru hp;have ok2:j1j (prL (prD d m) os):=λs hs=>by have:=mem_getD (P:=λx=>btw 1 x=ae) (λx hx=>ph.mp (j9h hp hpr.1 hpr.2) x hx) hs;unfold btw at this;rw[Xl,decide_eq_true_eq,decide_eq_true_eq]at this;omega
 have wl2:(caL w os m (2^m)).length=2^m:=jbc;have t2:=Ww (n:=2) (ws:=nmL ws os) (a:=caL a os m (2^m)) (w:=caL w os m (2^m)) hk (Ik hp) hm6 jbc (Et ha h01) (j9f hp) ok2 wl2 (j77 w0 λg=>Et wl g) (by rw[j74 or (Ry hp) wl wl2];exact ws0) (j3z (n:=7) (j9f hp) nofun (j9h hp hpr.1 hpr.2));have pw:=j3e (n:=3) (a:=a) hw hm6 ha h01 (Pg ..) (j1t (n:=9) (m:=m) nofun);have ol:os.length=m:=by rw[hp.length_eq,Xg]
 simp only[qD]at t1 t2 eo pw;simp only[jd1,j1d];ext;rw[c4];ext;rw[ed,jq5 (by simp)];ext;erw[c5,ew,c6];rw[ek,je6,t1];ext;erw[c7,eo];rw[jj (l:=(nmL ws os).map D.str) (by rfl) (by rw[xg];omega) ?_ (.inl rfl)];rotate_left
 .unfold nmL;rw[Xf];refine je λs hs=>jx (by ext) ?_;have hs':=Xa.mp (hp.mem_iff.mp hs);unfold oD;ext;rw[Jt (x:=D.str (ws.getD s "")) (by rw[xm,xf,kh nofun];rfl)];ext;rfl
 ext;rw[jj (l:=(prL (prD d m) os).map D.int) (by rfl) (by rw[xg];omega) ?_ (.inl rfl)];rotate_left
 .unfold prL;rw[Xf];refine je λs hs=>jx (by ext) ?_;have hs':=Xa.mp (hp.mem_iff.mp hs);have ci:=jdx (n:=11) (m:=m) nofun hd hs';unfold oD;ext;rw[ci];rfl
 ext;erw[El (n:=10) (s:=D.tup) (.inl rfl) hm6 ha hp,El (n:=10) (s:=D.lst) (.inr rfl) hm6 wl hp];rw[j5c,t2];ext;erw[jmk,at0];rw[Rj,j47 (n:=9) hm6 hw hn hp];ext;refine Jv (λ_ ρ=>∃s16 s17:Sv,ρ=[.val (.lst (ns.map D.int)),.val (.tup (ws.map D.str)),.val (.tup (a.map D.int)),.val (.int (m:Int)),.val (.tup [.tup (ws.map D.str),.tup (a.map D.int)]),.val (feD d),.val (.lst (w.map D.int)),.val (.int (k:Int)),
   .val (.lst [.tup ((tb (Np (cW (prD d m)) a m) m).map D.int),.tup ((tb (Np (cH (prD d m) (wsum w m)) a m) m).map D.int),.tup ((tb (Rp k a m) m).map D.int)]),.val (.lst (os.map oD)),.own ((nmL ws os).map D.str),.un,.val (.lst ((prL (prD d m) os).map D.int)),.val (.tup [.tup ((nmL ws os).map D.str),.tup ((caL a os m (2^m)).map D.int)]),
   .val (.lst [.tup ((tb (Np (cW (prL (prD d m) os)) (caL a os m (2^m)) m) m).map D.int),.tup ((tb (Np (cH (prL (prD d m) os) (wsum (caL w os m (2^m)) m)) (caL a os m (2^m)) m) m).map D.int),.tup ((tb (Rp k (caL a os m (2^m)) m) m).map D.int)]),
   .val (.lst (((ao (3^m)).map (nt m (oF os) (λ_=>a9))).map D.int)),s16,s17,.un,.un,.un,.un,.un,.un,.un,.un,.un]) ⟨_,_,rfl⟩ (λi d' ρ hi=>?_) λρ'=>?_
 .rintro⟨s16,s17,rfl⟩;obtain⟨x,hx,rfl⟩:∃x,St m (oF os) (λ_=>a9) x/\d'=pD2 m x:=by
   match i,hi with
   |0,hi=>exact⟨(Np (cW (prD d m)) a m,Np (cW (prL (prD d m) os)) (caL a os m (2^m)) m),λp q1 q2=>M5 or h01 (Et ha h01) (Ry hp) (j9g hp) q1 q2,(ax hi).symm⟩
   |1,hi=>exact⟨(Np (cH (prD d m) (wsum w m)) a m,Np (cH (prL (prD d m) os) (wsum (caL w os m (2^m)) m)) (caL a os m (2^m)) m),λp q1 q2=>K9 or h01 (Et ha h01) (Ry hp) (Ry hp) (j9g hp) q1 q2,(ax hi).symm⟩
   |2,hi=>exact⟨(Rp k a m,Rp k (caL a os m (2^m)) m),λp q1 q2=>Kz hk.1 or h01 (Ry hp) q1 q2,(ax hi).symm⟩
   |i+3,hi=>exact nomatch hi
  simp only[Rz,pD2];ext;rw[Rj,Rj];ext;erw[jj (l:=(tb x.1 m).map D.int) (by rfl) (by rw[j48];omega) (j0j hx λj y hy=>jx (by ext) (by ext;rw[Jt (x:=D.int y) (by rw[xm,hy];rfl)];ext)) (.inr (qt _)),j0q];exact⟨_,rfl,_,_,rfl⟩
 .rintro⟨s16,s17,rfl⟩;ext;erw[pw,at1];rw[j56 (by rw[D.dep];exact Yk _) (by rw[D.dep];exact Yk _),U0];ext;refine Eq.trans (congrArg (λb=>fin (Oq (ifS b _ _ _) _)) (?_:_=a8 a9)) ?_
  .by_cases ec:caL a os m (2^m)=a
   .rw[decide_eq_true ec];have hx:St m (oF os) (λ_=>a9) (Np (cW (ak m 1)) a m,Np (cW (ak m 1)) a m):=λp q1 q2=>by have c:=Ry (a:=a) hp;rw[ec]at c;refine M5 or h01 h01 c (λs hs=>?_) q1 q2;have i1:=or.il s hs;rw[xf,xf,S5,S5,if_pos hs,if_pos i1]
    ext;rw[jj (l:=(tb (Np (cW (ak m 1)) a m) m).map D.int) (by rfl) (by rw[j48];omega) (j0j hx λj y hy=>jx (by ext) (by ext;rw[Jt (x:=D.int y) (by unfold tb at hy;rw[xm,hy];rfl)];ext)) (.inr (qt _))];ext;rw[<-tb,j0q];ext
   .rw[decide_eq_false ec];ext
  ext;rw[c8];obtain⟨q,hq,eq⟩:=j0t (c:=q9 ns 8) (l:=m) nofun
  ext;rw[eq];ext;have e22:(1*2^((m:Nat):Int).toNat:Int)=((2^m:Nat):Int):=by rw[X5,Sh];simp
  have e21:(1*2^((m:Int)-(q:Int)-1).toNat:Int)=2^(m-q-1):=by rw[Sh,show((m:Int)-(q:Int)-1).toNat=m-q-1 by omega]
  have p64:=p64 hm6.2;have tsum:(tuL w m q).sum≠0:=by rw[j74 Ba (Og hm6.2 hq) wl j3h];exact ws0
  have t3:=Ww (n:=2) (ws:=ws) (a:=tuL a m q) (w:=tuL w m q) hk hw hm6 j3h (Kc hm6.2 hq ha h01) hpr.1 ok j3h (j77 w0 λg=>Kc hm6.2 hq wl g) tsum pt;simp only[qD]at t3;rw[e22,e21];ext;rw[jj (l:=(tuL a m q).map D.int) (by rfl) (by rw[jf];omega) ?_ (.inl rfl)];rotate_left
  .rw[X5,zm];rw[j8w];refine je λj hj=>jx (by ext) ?_;have hj':=Xa.mp hj;obtain⟨_,x2,x3⟩:=Mv hm6.2 hj' hq;ext;rw[jfj];ext;rw[Xz,x2,U4 (by rw[ha];exact x3)];ext
   try rfl
  ext;rw[jj (l:=(tuL w m q).map D.int) (by rfl) (by rw[jf];omega) ?_ (.inl rfl)];rotate_left
  .rw[X5,zm];rw[j8w (a:=w)];refine je λj hj=>jx (by ext) ?_;have hj':=Xa.mp hj;obtain⟨_,x2,x3⟩:=Mv hm6.2 hj' hq;ext;rw[jfj];ext;rw[Xz,x2,U4 (by rw[wl];exact x3)];ext
   try rfl
  ext;rw[j5c,t3];ext;erw[jmk,Rj];rw[X5];refine Jv (λi ρ=>∃s24 s26:Sv,ρ=[.val (.lst (ns.map D.int)),.val (.tup (ws.map D.str)),.val (.tup (a.map D.int)),.val (.int (m:Int)),.val (.tup [.tup (ws.map D.str),.tup (a.map D.int)]),.val (feD d),.val (.lst (w.map D.int)),.val (.int (k:Int)),.val (.lst [.tup ((tb (Np (cW (prD d m)) a m) m).map D.int),.tup ((tb (Np (cH (prD d m) (wsum w m)) a m) m).map D.int),.tup ((tb (Rp k a m) m).map D.int)]),.val (.lst (os.map oD)),.own ((nmL ws os).map D.str),.un,.val (.lst ((prL (prD d m) os).map D.int)),.val (.tup [.tup ((nmL ws os).map D.str),.tup ((caL a os m (2^m)).map D.int)]),.val (.lst [.tup ((tb (Np (cW (prD d m)) (tuL a m q) m) m).map D.int),.tup ((tb (Np (cH (prD d m) (wsum (tuL w m q) m)) (tuL a m q) m) m).map D.int),.tup ((tb (Rp k (tuL a m q) m) m).map D.int)]),.val (.lst (((ao (3^m)).map (nt m (oF os) (λ_=>a9))).map D.int)),s16,s17,.un,.val (.tup (((PK (ak m 2)).map (Np (cW (ak m 1)) a m)).map D.int)),.val (.int (q:Int)),.val (.int (2^(m-q-1))),.val (.int ((2^m:Nat):Int)),.val (.tup [.tup (ws.map D.str),.tup ((tuL a m q).map D.int)]),s24,.own (((ao i).map (nt m id (λs=>s==q))).map D.int),s26]) ⟨_,_,rfl⟩ (λi d' ρ hi=>?_) λρ'=>?_
  .rintro⟨s24,s26,rfl⟩;obtain⟨hi2,rfl⟩:=Qh hi;rw[Xz];obtain⟨d1,d2⟩:=dg3 hi2;have ps:evP 1000 G T 12 "_law_part" [.int (m:Int),.int (i:Int)]=.val (.tup ((j7 3 m (i:Int)).map D.int)):=KL.part_spec jfc hm6.2;have ln:evP 1000 G T 12 "_law_number" [.tup (((j7 3 m (i:Int)).set q (chi ae ((j7 3 m (i:Int)).getD q 0))).map D.int)]=_:=j20 (n:=11) (by rw[Xq,d1];exact hm6.2);have en:nt m id (λs=>s==q) i=jy ((j7 3 m (i:Int)).set q (chi ae ((j7 3 m (i:Int)).getD q 0))):=by unfold nt;rw[jew d1 hq]
   rw[<-en]at ln;have tl:(ao i).length<=1000:=by rw[Xg];omega
   generalize j7 3 m (i:Int)=p at *;have lp:(p.map D.int).length=p.length:=xg ..;have w1:¬(HT.sIx (p.map D.int).length 0 af=0/\HT.sIx (p.map D.int).length (p.map D.int).length (a8 (q:Int))=(p.map D.int).length):=by rw[HT.sIx_nat,lp];omega
   have e1:(q:Int)+1=((q+1:Nat):Int):=by omega
   have w2:¬(HT.sIx (p.map D.int).length 0 (a8 ((q+1:Nat):Int))=0/\HT.sIx (p.map D.int).length (p.map D.int).length af=(p.map D.int).length):=by rw[HT.sIx_nat,lp];omega
   have gq:=U4 (p:=p) (k:=q) nofun
   have pick:atI [D.int 1,.int 0,.int 2] (p.getD q 0)=a8 (.int (chi ae (p.getD q 0))):=by
    have:=mem_getD d2 (k:=q) nofun
    rcases(by omega:p.getD q 0=0\/p.getD q 0=1\/p.getD q 0=2)with z|z|z<;>rw[z]<;>rfl
   have ap:(p.map D.int).take q++[D.int (chi ae (p.getD q 0))]++(p.map D.int).drop (q+1)=(p.set q (chi ae (p.getD q 0))).map D.int:=by rw[fY,if_pos nofun];simp
   simp only[za];ext;erw[ps,gq,pick];rw[Kv w1,e1,Kv w2,jap nofun,j52 nofun];ext;rw[ap,ln];ext;refine⟨_,rfl,.val (.int (i:Int)),.val (.tup (p.map D.int)),?_⟩;rw[gf,Xi (f:=nt m id (λs=>s==q)),Xi (f:=D.int)];rfl
  .rintro⟨s24,s26,rfl⟩;rw[jf];ext;refine Jv (λ_ ρ=>∃s16 s17:Sv,ρ=[.val (.lst (ns.map D.int)),.val (.tup (ws.map D.str)),.val (.tup (a.map D.int)),.val (.int (m:Int)),.val (.tup [.tup (ws.map D.str),.tup (a.map D.int)]),.val (feD d),.val (.lst (w.map D.int)),.val (.int (k:Int)),.val (.lst [.tup ((tb (Np (cW (prD d m)) a m) m).map D.int),.tup ((tb (Np (cH (prD d m) (wsum w m)) a m) m).map D.int),.tup ((tb (Rp k a m) m).map D.int)]),.val (.lst (os.map oD)),.own ((nmL ws os).map D.str),.un,.val (.lst ((prL (prD d m) os).map D.int)),.val (.tup [.tup ((nmL ws os).map D.str),.tup ((caL a os m (2^m)).map D.int)]),.val (.lst [.tup ((tb (Np (cW (prD d m)) (tuL a m q) m) m).map D.int),.tup ((tb (Np (cH (prD d m) (wsum (tuL w m q) m)) (tuL a m q) m) m).map D.int),.tup ((tb (Rp k (tuL a m q) m) m).map D.int)]),.val (.lst (((ao (3^m)).map (nt m (oF os) (λ_=>a9))).map D.int)),s16,s17,.un,.val (.tup (((PK (ak m 2)).map (Np (cW (ak m 1)) a m)).map D.int)),.val (.int (q:Int)),.val (.int (2^(m-q-1))),.val (.int ((2^m:Nat):Int)),.val (.tup [.tup (ws.map D.str),.tup ((tuL a m q).map D.int)]),s24,.own (((ao (3^m)).map (nt m id (λs=>s==q))).map D.int),s26]) ⟨_,_,rfl⟩ (λi d' ρ hi=>?_) λρ'=>?_
   .rintro⟨s16,s17,rfl⟩;obtain⟨x,hx,rfl⟩:∃x,St m id (λs=>s==q) x/\d'=pD2 m x:=by
     match i,hi with
     |0,hi=>exact⟨(Np (cW (prD d m)) a m,Np (cW (prD d m)) (tuL a m q) m),λp q1 q2=>M5 Ba h01 (Kc hm6.2 hq ha h01) (Og hm6.2 hq) (λ_ _=>rfl) q1 q2,(ax hi).symm⟩
     |1,hi=>exact⟨(Np (cH (prD d m) (wsum w m)) a m,Np (cH (prD d m) (wsum (tuL w m q) m)) (tuL a m q) m),λp q1 q2=>K9 Ba h01 (Kc hm6.2 hq ha h01) (Og hm6.2 hq) (Og hm6.2 hq) (λ_ _=>rfl) q1 q2,(ax hi).symm⟩
     |2,hi=>exact⟨(Rp k a m,Rp k (tuL a m q) m),λp q1 q2=>Kz hk.1 Ba h01 (Og hm6.2 hq) q1 q2,(ax hi).symm⟩
     |i+3,hi=>exact nomatch hi
    simp only[Rz,pD2];ext;rw[Rj,Rj];ext;erw[jj (l:=(tb x.1 m).map D.int) (by rfl) (by rw[j48];omega) (j0j hx λj y hy=>jx (by ext) (by ext;rw[Jt (x:=D.int y) (by rw[xm,hy];rfl)];ext)) (.inr (qt _)),j0q];exact⟨_,rfl,_,_,rfl⟩
   .rintro⟨s16,s17,rfl⟩;ext
noncomputable def depth:Nat:=12
def jkw:j1d=.seq (.unp 1 2 (.call "_law_question" (.cons (.var 0) (.cons (.lit (.int 0)) (.cons (.lit (.int 4)) .nil))))) (.seq (.set 3 (.blt .len (.cons (.var 1) .nil))) (.seq (.ife (.cmp .eq (.bin .mod (.call "_law_cell" (.cons (.var 0) (.cons (.lit (.int 3)) .nil))) (.lit (.int 3))) (.lit (.int 0))) (.seq (.set 2 (.call "_law_alike_for" (.cons (.var 2) (.cons (.var 3) (.cons (.bin .mod (.bin .fdiv (.call "_law_cell" (.cons (.var 0) (.cons (.lit (.int 3)) .nil))) (.lit (.int 3))) (.lit (.int 16))) .nil))))) .nop) .nop) jd1)):=rfl
def lawTrue:∀ns:zo,ns.length<=63->evP 1000 G T (depth+1) "law" [.lst (ns.map D.int)]=.val (.bl ae):=by
 intro ns _;have hmz:1<=Qm ns 0 4/\Qm ns 0 4<=4:=by unfold Qm;omega
 obtain⟨ws,⟨hn,hw⟩,eq⟩:=j5u (n:=10) (ns:=ns) (a:=0) (most:=4) nofun nofun
 have c3:evP 1000 G T 12 "_law_cell" [.lst (ns.map D.int),.int 3]=.val (.int (q9 ns 3)):=KL.cell_spec Uh (by decide);have al:(W8 10 ns 0 4).length=2^Qm ns 0 4:=by simp[W8]
 have a01:=jio (n:=10) (ns:=ns) (a:=0) (most:=4) nofun
 generalize W8 10 ns 0 4=a at *;generalize Qm ns 0 4=m at *;have eq:evP 1000 G T 12 "_law_question" [.lst (ns.map D.int),.int 0,.int 4]=.val (.tup [.tup (ws.map D.str),.tup (a.map D.int)]):=eq;obtain⟨a',⟨al',a01'⟩,ea⟩:=jem (n:=10) (mask:=q9 ns 3/3%16) (by omega:1<=m/\m<=6) al a01;show evP 1000 G T (12+1) "law" _=_;rw[jb (F:=j82) (by rfl) rfl];simp only[j82,jkw,enter];ext;erw[eq,hw];rw[c3];by_cases h3:q9 ns 3%3=0
 .ext;erw[c3,ea];exact rest hmz hw hn al' a01'
 .ext;exact rest hmz hw hn al a01
end K51
end
open PySem PySem.W PyProof.Rows
local macro_rules | `(tactic| walk_at "lf") => `(tactic| (refine' L2.lf_mk ?a ?l ?c ?k; (case a => k_is); (case l => k_is); (case c => k_is); (case k => k_is)))
local macro_rules | `(tactic| walk_at "ld") => `(tactic| (refine' L2.lfd_mk ?a ?l ?c ?k ?t; (case a => k_is); (case l => k_is); (case c => k_is); (case k => k_is); (case t => k_is)))
set_option Elab.async false
namespace PySem.W.Fast
def tw4959240420790966083:=0
def tw8115284827674216937:=0
def tw17157013009888192442:=0
def tw10249195464516393715:=0
def tw729406942887380096:=0
def tw61322709610447747:=0
def tw4540761160209803392:=0
def tw4942592675844464727:=0
def tw9269259943416622727:=0
def tw16740784306083109634:=0
def tw916505416166856686:=0
def tw11124405951912534010:=0
def tw13421818064886994361:=0
def tw15852982462003387325:=0
def tw15522254702374040356:=0
def tw9902614101822285444:=0
def tw14640744841987645707:=0
def tw16942126435062939278:=0
def tw7810390387755886482:=0
def tw16517519429075910551:=0
def tw9382299956817469340:=0
def tw17245392812086836670:=0
def tw4865843000172189641:=0
def tw8822214346735684914:=0
def tw4847800658764530681:=0
def tw3596304383010189978:=0
def tw9142848015653817649:=0
def tw7900318484328212176:=0
def tw7232223046787670178:=0
def tw9333691048854914679:=0
def tw15696850738830082591:=0
def tw9284332511509044917:=0
def tw7870933674997012714:=0
def tw10828734681894225047:=0
def tw15498784920458244767:=0
def tw11424585785761220917:=0
def tw6177332290780448449:=0
def tw663460942944280315:=0
def tw7693820684429265698:=0
def tw7355314406846230697:=0
def tw2204213795965857408:=0
def tw10862799885452577713:=0
def tw4311980726156082021:=0
def tw14984262251583844923:=0
def tw10961628283987108182:=0
def tw14969329544741456253:=0
def tw16382635443985028671:=0
def tw6456539241243300711:=0
def tw16255788193887265780:=0
def tw14624086150918001329:=0
def tw7722008532505247436:=0
def tw5291798108404254226:=0
def tw2001527994562898826:=0
def tw4053825239959757191:=0
def tw7610762419697614821:=0
def tw13483877666330124471:=0
def tw18401922685028938027:=0
def tw7303623426884049586:=0
def tw18096824690398676209:=0
def tw10676901088440913574:=0
def tw8073477208535505136:=0
def tw12580112553411019756:=0
def tw6190585999488945018:=0
def tw2712316751451772168:=0
def tw16872491002186479242:=0
def tw6997959256233266762:=0
def tw6907024747197227880:=0
def tw14258150189924156855:=0
def tw12540267129034487831:=0
def tw14406467506625763474:=0
def tw9934362346921991985:=0
def tw11384297199915059143:=0
def tw14209044404805732476:=0
def tw8276034265697384367:=0
def tw16723207466474038920:=0
def tw10849112421516882624:=0
def tw4853490944577736003:=0
def tw10622294167547056624:=0
def tw7246288658419215838:=0
def tw11327678142523584726:=0
def tw10116962235009695290:=0
def tw17903363310217496987:=0
def tw2487950631160226600:=0
def tw12065986722655221227:=0
def tw4962976368363140643:=0
def tw3011798350933800528:=0
def tw12444433702650846348:=0
def tw4723996919381859702:=0
def tw3280626366332652607:=0
def tw16751404355832717798:=0
def tw3092971702689568509:=0
def tw14884950370809807404:=0
def tw10868035572166784989:=0
def tw310146500803813490:=0
def tw9501760780475297271:=0
def tw11245820410781647292:=0
def tw8849372657989318055:=0
def tw11934226676783317826:=0
def tw17151684149290628486:=0
def tw8615510163900481219:=0
def tw2353955413962176338:=0
def tw3403893442132105899:=0
def tw14699031592561051768:=0
def tw1395486291722334612:=0
def tw3370547441049984910:=0
def tw15585923598785935925:=0
def tw13596784340321921234:=0
def tw13056204488167897244:=0
def tw13282693655684375280:=0
def tw10311492539885225460:=0
def tw13135958241089812261:=0
def tw5276594014779895169:=0
def tw10242957039393796939:=0
def tw9084988748038319897:=0
def tw15451842443088656446:=0
def tw18337083737126728196:=0
def tw15174825313180240621:=0
def tw325698186153317717:=0
def tw12662115552982346067:=0
def tw2165402793475994813:=0
def tw17116600097462187724:=0
def tw1656493459389478062:=0
def tw1519832406709501166:=0
def tw2712115487810622800:=0
def tw8337088572821496652:=0
def tw7052093506858112729:=0
def tw8071024907597267826:=0
def tw5345963276684726117:=0
def tw3325956360575020359:=0
def tw3531686133980730941:=0
def tw14252459203644441540:=0
def tw10497399711381915821:=0
def tw11811161456577947094:=0
def tw14190621983474545672:=0
def tw11680040580286643691:=0
def tw978199775768272461:=0
def tw14204699999020094612:=0
def tw15773795487562111837:=0
def tw15368926174790380821:=0
def tw11539750420386827947:=0
def tw1272582331350989922:=0
def tw2664233201208674234:=0
def tw5951893903505563291:=0
def tw17419457957974083486:=0
def tw8214601153228368518:=0
def tw10892378623964627501:=0
def tw18288099688884363992:=0
def tw17203620438267153775:=0
def tw2198760409057276025:=0
def tw16223939934555204367:=0
def tw12522110341875457919:=0
def tw3630794458038396718:=0
def tw11442865510258332934:=0
def tw3023160314550421318:=0
def tw7076933725782122118:=0
def tw14905394248780290113:=0
def tw11158700136842019626:=0
def tw17092614830185764235:=0
def tw16952933544337687391:=0
def tw11520217632660230530:=0
def tw211107738556683942:=0
def tw17716214565581594309:=0
def tw15880051861381308273:=0
def tw10295702136866482121:=0
def tw16830363052766610803:=0
def tw4119503280281176222:=0
def tw13678051278998897775:=0
def tw3515668067202568124:=0
def tw17970747500093019430:=0
def tw4851927029727354674:=0
def tw10449105786118270855:=0
def tw18423934935922946607:=0
def tw1267410483166663846:=0
def tw12839098673779574951:=0
def tw15042945271255447279:=0
def tw13031909302320523600:=0
def tw6725153807440932384:=0
def tw4312896433495260627:=0
def tw4288969427290688490:=0
def tw17414804420550858558:=0
def tw1372983877249562442:=0
def tw520005135623593792:=0
def tw17320915527356652998:=0
def tw559654668839915393:=0
def tw8015020217171733480:=0
def tw5004981209417343903:=0
def tw16079123905606802478:=0
def tw3283765576638268925:=0
def tw3822592900214969221:=0
def tw1864525554522794127:=0
def tw18316214820949020446:=0
def tw12590427552674004139:=0
def tw17676835762503365186:=0
def tw11895482033139061659:=0
def tw3381704965321937826:=0
def tw9188453293829118435:=0
def tw12163907667553681623:=0
def tw11998557332061112745:=0
def tw1948678565357101271:=0
def tw10044501649666153790:=0
def tw787639381486601665:=0
def tw4955283687525916127:=0
def tw18113942280340643185:=0
def tw13157360957753823017:=0
def tw18443791221994899251:=0
def tw10496404996275805760:=0
def tw2482961639297209691:=0
def tw13255510868518328551:=0
def tw16349953651721476855:=0
def tw7575433992136469814:=0
def tw9952081900892437694:=0
def tw752526207418191716:=0
def tw13087801835289753934:=0
def tw196935537201669075:=0
def tw12466345780018786987:=0
def tw1552912959851015112:=0
def tw15491275434915270597:=0
def tw9162055658413278149:=0
def tw8862083601037022051:=0
def tw12829241701088696743:=0
def tw1960753896923767712:=0
def tw579706428281050002:=0
def tw14970959635314512051:=0
def tw14977208304827635627:=0
def tw14552811872380587505:=0
def tw17268342642712719190:=0
def tw9467138458645956887:=0
def tw17207143652932977856:=0
def tw14947833113124625295:=0
def tw13774775847545851012:=0
def tw4229928148875596567:=0
def tw4394720221799430970:=0
def tw4266265106720255898:=0
def tw14524290411357028891:=0
def tw17442418589261284116:=0
def tw8250487183564616316:=0
def tw18433247233436343753:=0
def tw3874528835479555352:=0
def tw16018201204165265668:=0
def tw6959698858383977325:=0
def tw15287796976113244279:=0
def tw4507199620011683180:=0
def tw5316951105769349679:=0
def tw10670362116666838274:=0
def tw15364028841687287550:=0
def tw2837210607797470446:=0
def tw18156762236383125954:=0
def tw1286317843400657175:=0
def tw1723441566677956759:=0
def tw13017303704373637032:=0
def tw10932856387620371117:=0
def tw12281548461191496114:=0
def tw9873629065428536814:=0
def tw6928318681072979151:=0
def tw15721754195251922128:=0
def tw10061396577525239468:=0
def tw4454975779243956199:=0
def tw14138736259736819298:=0
def tw11274123747508706873:=0
def tw10783228100769902601:=0
def tw16087403916323746393:=0
def tw13785503314029050765:=0
def tw15999126781327059468:=0
def tw14922559768779005583:=0
def tw1247099598321914791:=0
def tw3533758543670729035:=0
def tw5588418656632425274:=0
def tw9006276051252178890:=0
def tw7352284896998060322:=0
def tw2142889859170249809:=0
def tw6373451246306150938:=0
def tw12186743687379194834:=0
def tw11129849939485382997:=0
def tw2249987366339818923:=0
def tw12613966244461821924:=0
def tw2754613611987421301:=0
def tw6022824417109337446:=0
def tw806942495293459713:=0
def tw13431792912469130024:=0
def tw8971015760792605736:=0
def tw5985535929476447928:=0
def tw5281883276829813788:=0
def tw14447371501263492565:=0
def tw10774335293121827864:=0
def tw10620768353704204381:=0
def tw2392322768973027284:=0
def tw631857234645931638:=0
def tw10462560828286889022:=0
def tw2481079749215241515:=0
def tw7606534597216081136:=0
def tw6812967656871801109:=0
def tw8351932853665170529:=0
def tw14355389468135678359:=0
def tw8309756435457167633:=0
def tw4695644014110409953:=0
def tw12632943339626546028:=0
def tw3133233791507439442:=0
def tw16536654138914206138:=0
def tw9169014221298210887:=0
def tw4201111019152186417:=0
def tw3508177120682927287:=0
def tw1015894647053147250:=0
def tw40758568123068744:=0
end PySem.W.Fast
set_option maxRecDepth 100000 in
set_option maxHeartbeats 0 in
theorem PySem.Challenge.cw_leastasks_k51_whole_numbers_stay_holds : PySem.Challenge.rw_leastasks_k51_whole_numbers_stay.Holds := by
  w_on; o_law; k_head; (case hw => w_witness2)
  k_fill
  refine L2.walkL (l := PySem.Challenge.rw_leastasks_k51_whole_numbers_stay) (k := L2.lv (K51.depth + 1)) (x := "_law_script") (by decide) rfl rfl (fun w h Y => ⟨PySem.W.km_in_of Y, PySem.W.km_tabs_of Y⟩) ?tz ?F
  case tz => intro w; kernel_rfl
  case F =>
    intro w mg fa h KX Gn hmg tz
    refine' K51.head KX Gn hmg ?h0 ?h1 ?h2 ?h3 ?h4 ?h5 ?h6 ?h7 ?h8 ?h9 ?h10 ?h11 ?h12 ?h13 ?h14 ?h15 ?h16 ?h17 ?h18 ?h19 ?h20 ?h21 ?h22 ?h23 ?h24 ?h25 ?h26 ?h27 ?h28 ?h29 ?h30 ?h31 ?h32 ?h33 ?h34 ?h35 ?h36 ?h37 ?h38 ?h39 ?h40 ?h41 ?h42 ?h43 ?h44 ?h45 ?h46 ?h47 ?h48 ?h49 ?h50 ?h51 ?h52 ?h53 ?h54 ?h55 ?bz tz ?gn0 ?gn1 ?ga2l ?gn2 ?gn3 ?ga6l ?gn4 ?gn5 ?gn6 ?gn7 ?gn8 ?gn9 K51.lawTrue
    (case h0 => walk_at "lf")
    (case h1 => walk_at "lf")
    (case h2 => walk_at "lf")
    (case h3 => walk_at "lf")
    (case h4 => walk_at "lf")
    (case h5 => walk_at "lf")
    (case h6 => walk_at "lf")
    (case h7 => walk_at "lf")
    (case h8 => walk_at "lf")
    (case h9 => walk_at "lf")
    (case h10 => walk_at "lf")
    (case h11 => walk_at "lf")
    (case h12 => walk_at "lf")
    (case h13 => walk_at "lf")
    (case h14 => walk_at "lf")
    (case h15 => walk_at "lf")
    (case h16 => walk_at "lf")
    (case h17 => walk_at "lf")
    (case h18 => walk_at "lf")
    (case h19 => walk_at "lf")
    (case h20 => walk_at "lf")
    (case h21 => walk_at "lf")
    (case h22 => walk_at "lf")
    (case h23 => walk_at "ld")
    (case h24 => walk_at "lf")
    (case h25 => walk_at "lf")
    (case h26 => walk_at "lf")
    (case h27 => walk_at "lf")
    (case h28 => walk_at "lf")
    (case h29 => walk_at "lf")
    (case h30 => walk_at "lf")
    (case h31 => walk_at "lf")
    (case h32 => walk_at "lf")
    (case h33 => walk_at "lf")
    (case h34 => walk_at "lf")
    (case h35 => walk_at "lf")
    (case h36 => walk_at "ld")
    (case h37 => walk_at "lf")
    (case h38 => walk_at "lf")
    (case h39 => walk_at "lf")
    (case h40 => walk_at "lf")
    (case h41 => walk_at "lf")
    (case h42 => walk_at "lf")
    (case h43 => walk_at "lf")
    (case h44 => walk_at "lf")
    (case h45 => walk_at "lf")
    (case h46 => walk_at "lf")
    (case h47 => walk_at "lf")
    (case h48 => walk_at "lf")
    (case h49 => walk_at "lf")
    (case h50 => walk_at "lf")
    (case h51 => walk_at "lf")
    (case h52 => walk_at "lf")
    (case h53 => walk_at "lf")
    (case h54 => walk_at "lf")
    (case h55 => walk_at "lf")
    (case gn0 => k_is)
    (case gn1 => k_is)
    (case gn2 => k_is)
    (case gn3 => k_is)
    (case gn4 => k_is)
    (case gn5 => k_is)
    (case gn6 => k_is)
    (case gn7 => k_is)
    (case gn8 => k_is)
    (case gn9 => k_is)
    (case ga6l => k_is)
    (case ga2l => k_is)
    (case bz => kernel_rfl)
#print axioms PySem.Challenge.cw_leastasks_k51_whole_numbers_stay_holds