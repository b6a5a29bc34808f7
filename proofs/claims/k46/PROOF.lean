import PyProof.Rows.All
import Wide.All
import OpenK.AllK
import Wide.FinOn
import Lean
import PyProof.EqAt
import PyProof.EqKinds
import PyProof.TupleCall
import PyProof.Rows.SetFrom
import KE.KDictList
import KE.KMinKey
import PyProof.ListRange
import KE.KIntText
import PyProof.ReprRoads
import PyProof.Rows.TupTab
import PyProof.TupleOfSeq
import PyProof.Rows.SortStr
import PyProof.Rows.SortWalk
import KE.KRevIter
import PyProof.TupleOfGen
import PyProof.StrBlockL
import PySem.Challenge.RW_leastasks_k46_lie_table_cells
set_option Elab.async false
set_option linter.all false
set_option maxRecDepth 100000
set_option maxHeartbeats 4000000
set_option genSizeOf false
set_option genInjectivity false
abbrev zo:=List Int
open Option renaming some→a8,none→af,isSome_some→fN,join_some→jV,getD_none→jW,map_some→kg,bind→lD
open PySem renaming wpAny_bind→a9,starEach→ah,Addr→ai,Value→aj,wpAny_pure→ak,Shared→aq,Str→ar,Expr→au,wpAny→av,sizeLine→aw,Program→az,mainGlobals→aB,model→aC,eval→aD,World→aE,Around→aF,behindInMarks→aG,Heap→aH,foldedSetIterable→aI,swapsWith→aJ,FuncData→aM,Pos→aO,Stmt→aP,attributeBase→aR,wpAny_seqItems→aS,cellsFrom→aT,backTo→aU,wpAny_dictEntries→aW,compareOp→aX,wpAny_Call_Name_kw→aY,cLine→aZ,wpAny_call_entry→b7,wpAny_callSpecial?_slot→b9,tupleKind→ba,argBest→be,wpAny_newObj_type→bf,wpAny_holding→bj,wpAny_field→bo,Keyword→bq,wpAny_truthy_bool→br,wpAny_pyIter_list→bu,intKind→bx,bootBuiltins→bA,binaryOp→bB,keywordEach→bF,codeAny_builtin→bG,Scope→bH,wpAny_letGo→bJ,plainId_quiet→bM,wpAny_tryCatch→bN,sysModules→bO,NameKind→bP,wpAny_mono→bV,codeAny→bY,wpAny_typeNameOfWhole_keyiter→c9,wpAny_setField_rec→cf,wpAny_pyNext_list_item→cg,call_meets→cj,assignEach→cn,wpAny_passesOwn→cB,backToKw→cC,pyNext→cD,IsPair→cE,codeAny_mono→cR,Builtin→cS,wpAny_typeNameOf_keyiter→cZ,boot_len→d4,wpAny_updateSeq→d6,wpAny_pyNext_list_end→dB,wpAny_notOrdered_dict→dC,seqItems?→dD,entryOfKey→dE,Obj→dF,DictEntry→dG,sliceBounds→dJ,Env→dO,wpAny_dictEpoch→dS,sizeLine_eq→dX,strKind→dZ,tupleKind_room_in1→eJ,newFunctionEnv→eK,builtinsNs→eM,standAt→eS,wpAny_standAt→eX,wpAny_comprehension_free→eY,rawInt→eZ,Result→f6,wpAny_isInstance→fm,wpAny_forIn_list→fq,PassesOwn→fv,IsZip→fw,wpAny_execs_nil→fJ,letOwnedTupleGo→fK,wpAny_updateSeq_pair→gb,wpAny_setField→gc,wpAny_of_eq→gf,richCompare→gh,recursionLimit→gi,intItems→gj,firstArgMember→gk,bindArgs→gn,assign→gp,JoinOk→gq,IsPart→gr,GenState→gu,holding→gw,wpAny_onRaise→gR,wpAny_attempt→gT,wpAny_pyIter_tuple→hJ,typeIs_int→hZ,isTrue→i4,intText?→ie,draw→ig,concat_meets→ij,callerA→ik,call→il,BindsTo→ip,scanBound→iz,pyIter→iA,noFill_tuple_add→iB,numAt→iH,CmpOp→iI,wpAny_loadPart'→iN,Tok→iR,wpAny_rule→iX,typeIs_str→iY,ZipApart→iZ,wpAny_binaryOp_repeat_ref→jv,evalArgs_none→jA,wpAny_newList→jH,seq_tuple_add→jI,wpAny_Call_method0_late→jM,updateSeq→jN,pushCells→jO,field→jP,bindL→jQ,bindC→jR,again→jS,Model→jT,Arguments→jU,wpAny_updateDictKeysTo→k7,spliced→k8,seqSlot_of→k9,relabel→ka,getItem→kc,wpAny_isTrue_Compare1→kn,wpAny_isOneOf_keyiter→ko,lookup_relabel_local→kE,intItems_at→kF,compEnvC→kH,atKey→kI,Operator→kJ,Meets→kK,wpAny_call→lq,wpAny_Name→ly,rule→lz,hashInt→lB,wpAny_pyIter_slot→lN,wpAny_pyIter_enum→lO,wpAny_assign_Name→lP,newList→lQ,call_sum_walkAnyS→lR,wpAny_pyIter_zip→mj,wpAny_execs_cons→mn,wpAny_eqBool_int→mq,reduceHash→mr,wpAny_specialOf→nE,pushCells_keeps→nF,Sem→nG,Fin→nI,wpAny_fieldsOf→nQ,wpAny_Compare1→nR,newExc→nU,isSubtype_stop→nV,compPost→nX,Params→nY,wpAny_handled→o6,intBits_le_64→o7,eval_ListComp→o8,evalPart_none→o9,call_list_seq→og
open Bool renaming false→aa,true→ae,eq_iff_iff→cT,and_false→fF,not_eq_true'→gC,or_false→iL,not_false→l8,false_and→l9,true_and→lE,not_true→lF,false_or→lG,and_true→lH
open Option.some renaming inj→ax
open List renaming replicate→ay,range→aA,length→bL,map_nil→cG,filterMap_cons→cN,map_singleton→cU,map_replicate→cV,filter_cons_of_neg→cX,take_add_one→d7,nodup_nil→d8,getElem?_set_self→d9,ext_getElem?→de,length_replicate→dr,getElem_of_mem→dH,getElem?_append_right→dP,foldl→dQ,sum_cons→eD,any_cons→eE,length_drop→eN,getElem?_cons_succ→eO,filter_cons_of_pos→eP,take_of_length_le→eV,range_succ_eq_map→eW,of_mem_zip→f9,forIn_cons→ff,forIn_nil→fE,length_zipIdx→fV,filter_append→fW,contains_cons→fX,reverse_cons→gx,getElem?_set→gy,foldl_append→gz,prefix_refl→gW,not_mem_nil→gX,drop_length→gY,cons_append→gZ,nil_append→i5,filter_nil→i6,dropLast_concat_getLast→i7,getElem?_zip_eq_some→iC,exists_mem_of_ne_nil→iD,drop_eq_getElem_cons→iE,all_cons→iK,getElem?_replicate→iO,set_set→iS,take_append_drop→j3,getElem?_set_ne→jB,getElem?_mapIdx→jC,dropLast_concat→jD,zip_cons_cons→jX,zipIdx_cons→kq,range'_succ→kr,getElem_inj→kv,flatMap_def→kz,any_toArray→kA,zipIdx_nil→kO,range_succ→kP,mem_zipIdx→kQ,length_zip→kR,foldr_cons→kS,find?_cons→kT,take_succ→l6,drop_zero→l7,any_map→lS,all_map→lT,range'→mE
open PySem.Value renaming ref→aK,none→b8,int→bC,bool→bW,str→bZ,type→dk,notImplemented→iT,builtin→kW,isInt→lJ
open PySem.Builtin.SmallTypes renaming nextOf→aL,ownedTupleIsFree→bD,ownedTupleHandOut→dN
open PySem.Builtin.Str renaming strSliceIndices→aN,tooLong→di,occurrences→gO,glued→nO
open PySem.Str renaming ofString→aQ,cps→ki,length→nN
open Or renaming inl→aV,inr→cA,imp→oi
open PySem.Builtin.Builtins renaming bindParams→bc
open False renaming elim→bp
open Ne renaming symm→bE
open PySem.NameKind renaming free→bI,cell→bX
open PyProof.Rows renaming envOfC→bQ,seqObj→bT,IntsAre→dz,AllBare→eT,get?_update_seq→fM,IsTup→iJ,subscriptTail_builtinR→ke,boot_min→kM,slot_tuple_getitem→lC,boot_isinstance→nJ,tail_any→o1,slicePart_none→o3,boot_max→o4,subscriptTail→oh
open PySem.Obj renaming mapSeq→bR,mapDictKeys→ia,data_mapDictKeys→jG,data_mapFields→jZ,mapFields→lK
open PySem.Builtin renaming bitXor→bS,bitAnd→k6
open PySem.PassesOwn renaming never→bU,leaving→iQ
open PySem.Builtin.Slice renaming slicePlaces→c7,sliceAdjust→du,sliceApplied→fU,slicePartIndex→mh,sliceFields→mi
open PyProof.Rows.F renaming plain_set_update_loop→c8,entry_set_update_loop→eC
open PySem.Builtin.Tuple renaming tupleExact→cb,tupleHashOf→fi,tupleTooMany→fR,tupleItemsOf→md,tupleCompareSizes→mf
open PySem.Txt renaming slice→cq,join→fG,mul→jY,split→o5
open PySem.Builtin.List renaming listTooLong→cz
open PySem.AutoSeq1 renaming wpAny_loadPart'→cF
open Function renaming comp→cH
open ForInStep renaming yield→cJ
open PySem.F renaming slot_tuple_iterator_next→cK,plainAttrs_list→cO,args_tuple_add_2→dR,entry_tuple_add→dY,slot_tuple_add→eG,slot_zip_next→fC,slot_int_rmul→fD,plain_min→fO,entry_min→fP,kind_min→fZ,args_dict_keyiterator_next_1→ib,slot_dict_clear→ir,entry_dict_keyiterator_next→iu,slot_dict_keyiterator_iter→iv,args_tuple_iterator_next_1→iw,entry_tuple_iterator_next→iG,slot_dict_eq→iM,slot_tuple_index→iU,slot_list_extend→iV,slot_list_append→iW,slot_list_index→ja,slot_str_join→jK,slot_list_pop→jL,args_tuple_mul_2→kD,entry_tuple_mul→kX,args_zip_next_1→kY,args_int_rmul_2→kZ,slot_tuple_mul→lb,slot_dict_iter→lh,entry_zip_next→lj,entry_int_rmul→lp,slot_dict_len→lL,fills_int_mul→lM
open Array renaming toList_append→cL,length_toList→cM,getElem?_toList→dj,getElem?_eq_getElem→dW,append_inj_right→eQ,getElem_mem→gv,toList→lI
open PySem.W renaming nsIn→cP,OpenLaw→eA,WalkO→jF,Frag→nL
open PySem.Builtin.Dict renaming showsAll→cQ,entriesForEmpty→fH,dictSlotArgs→g9,updateFrom→gJ,samePairs→gP,mergeDict→gQ,selfAndRest→ni,readDirectly→nj,quietEq→nq,pendingCount→nr,noArgs→nu,merge→nv,dictSlotNone→nC,addKeywords→nD
open Nat renaming lt_of_le_of_lt→cW,zero_add→df,le_of_lt→f7,pow_succ→gK,mul_comm→gL,lt_or_ge→gN,le_add_right→kN,not_lt_zero→l5,succ_mul→mw,sub_zero→my,min_self→mz,le_of_eq→mC,add_zero→mD
open Int renaming emod_lt_of_pos→cY,zero_add→dh,one_mul→eF,ediv_eq_zero_of_lt→fh,le_refl→i8,fdiv_eq_ediv_of_nonneg→iF,add_mul_ediv_left→jE,pow_pos→jJ,mul_assoc→lU,pow_succ→mF,ne_of_gt→mG,mul_comm→mI,mul_one→nK
open PySem.Heap renaming SameBut→d5,get?_update_self→dn,get?_update_other→eR,ExtBut→fB
open PySem.SeqAt renaming EqAt→dm,RcAt→i9
open Std.Legacy.Range renaming forIn_eq_forIn_range'→dM,size→fY
open Classical renaming propDecidable→dU
open PySem.Calls renaming evalArgs_plain→fj,spliced_cons→fQ,spliced_nil→g6,Name_function_global→ic
open Sum renaming inr→gD,inl→gE
open PySem.Shared renaming TypeIs→iq,heap→iP
open PySem.EqMixed renaming ne_str_int→lV,ne_str_bool→lW,ne_int_str→lX,ne_bool_str→lY,eq_str_int→lZ,eq_str_bool→m8,eq_int_str→m9,eq_bool_str→ma
open PySem.EqNone renaming ne_str_none→mJ,ne_none_str→mK,ne_none_none→mN,ne_none_int→mO,ne_none_bool→mQ,ne_int_none→mR,ne_bool_none→mU,eq_str_none→mV,eq_none_str→mX,eq_none_none→mY,eq_none_int→n5,eq_none_bool→n6,eq_int_none→n9,eq_bool_none→nh
def kh:=@List.getElem?_eq_getElem
def kj:=@PySem.Heap.get?_push_of_some
def km:=@List.getD_eq_getElem?_getD
def xf:=@List.length_map
def xg:=@List.mem_singleton
def xj:=@Bool.false_ne_true
def xm:=@List.mem_cons_of_mem
def xn:=@List.getElem?_map
def xq:=@List.mem_cons
def xr:=@List.mem_cons_self
def xu:=@Nat.le_refl
def xx:=@PySem.Heap.lt_size
def X3:=@PySem.Heap.get?_push_size
def X4:=@List.getElem?_eq_some_iff
def X5:=@List.size_toArray
def X6:=@List.map_cons
def X7:=@List.length_cons
def X8:=@Int.toNat_natCast
def Xa:=@Nat.ne_of_lt
def Xb:=@List.mem_append_right
def Xc:=@List.mem_range
def Xd:=@Nat.le_trans
def Xe:=@List.length_range
def Xf:=@List.map_map
def Xg:=@Bool.and_eq_true
def Xh:=@List.length_append
def Xi:=@PySem.F.plain_min_loop
def Xj:=@List.mem_map
def Xk:=@List.mem_append_left
def Xl:=@List.mem_of_getElem?
def Xm:=@List.lookup_cons
def Xn:=@List.nodup_cons
def Xo:=@List.getElem_mem
def Xp:=@List.mem_append
def Xq:=@Nat.lt_of_lt_of_le
def Xr:=@Bool.false_eq_true
def Xu:=@List.map_append
def Xv:=@Option.map_eq_some_iff
def Xw:=@Nat.zero_le
def Xx:=@List.contains_iff_mem
def Xy:=@List.append_nil
def Xz:=@Option.isSome_iff_exists
def ph:=@Nat.lt_trans
def P0:=@Nat.ne_of_gt
def Pa:=@PySem.Heap.size_push
def Pb:=@List.length_nil
def Pg:=@List.getElem?_range
def Ph:=@PySem.Heap.SameBut.update
def Pj:=@List.getElem?_eq_none
def Pk:=@Nat.le_succ
def Pn:=@List.mem_filter
def Pq:=@List.foldl_cons
def Pr:=@PySem.Around.under_plainId
def Pu:=@Nat.pow_le_pow_right
def Py:=@List.length_take
def Pz:=@PySem.mem_of_lookup
def t6:=@List.replicate_succ
def tu:=@Nat.lt_irrefl
def T3:=@PySem.F.slot_dict_keyiterator_next
def T4:=@List.set_cons_zero
def T5:=@List.set_cons_succ
def T6:=@List.all_eq_true
def T7:=@List.mem_iff_getElem
def T8:=@PySem.F.entry_min_loop
def T9:=@List.append_assoc
def Tc:=@List.getElem?_append_left
def Td:=@List.length_filter_le
def Te:=@Option.getD_some
def Tf:=@Int.emod_nonneg
def Tg:=@List.mem_map_of_mem
def Th:=@Array.getElem?_eq_some_iff
def Ti:=@Nat.lt_succ_self
def Tj:=@List.take_length
def Tn:=@List.mem_filterMap
def Tp:=@List.eq_nil_iff_forall_not_mem
def Tq:=@List.flatten_cons
def Tt:=@List.map_congr_left
def Tu:=@PySem.Calls.callWith_builtin
def Tw:=@Bool.or_eq_true
def su:=@PySem.W.mg_of
def S5:=@Nat.lt_succ_of_lt
def S6:=@Nat.lt_of_succ_le
def k8u:=@And.intro
abbrev k8v:=nL
abbrev k8w:=aj→aq→Prop
abbrev k8x:=List (ai×dF)
abbrev k8y:=ar→Option aj
abbrev k8z:=("__debug__":ar)
abbrev k90:=("__classdict__":ar)
local macro_rules | `(tactic| omega)=>`(tactic| first | with_reducible assumption | with_reducible exact Nat.le_of_lt (by assumption) | with_reducible exact Nat.le_refl _ | lia)
section
namespace L2
open PySem PySem.Spec PyProof.Rows
noncomputable abbrev Key:=Sum Int ar
noncomputable def j9n:Key->aj->Bool
 |.inl k,v=>lJ k v
 |.inr x,v=>Value.isStrOf x v
noncomputable def jky(w:aE):Key->Int
 |.inl k=>lB k
 |.inr x=>hashStr w x
def vf:∀{k:Key}{v:aj},j9n k v=ae->(∃i t,k=gE i/\v=bC i t)\/(∃x t,k=gD x/\v=bZ x t)
 |.inl i,v,h=>by obtain⟨t,e⟩:=Value.isInt_shape (k:=i) (v:=v) h;exact .inl ⟨i,t,rfl,e⟩
 |.inr x,v,h=>by obtain⟨t,e⟩:=Value.isStrOf_shape (x:=x) (v:=v) h;exact .inr ⟨x,t,rfl,e⟩
def jfg(a b:Int):decide ((gE a:Key)=gE b)=(a==b):=by
 by_cases e:a=b
 .subst e;simp
 .have h:¬(gE a:Key)=gE b:=λq=>e (Sum.inl.inj q);rw[decide_eq_false h];exact(beq_eq_false_iff_ne.mpr e).symm
def jfd(a b:ar):decide ((gD a:Key)=gD b)=decide (a=b):=by
 by_cases e:a=b
 .subst e;simp
 .have h:¬(gD a:Key)=gD b:=λq=>e (Sum.inr.inj q);rw[decide_eq_false h,decide_eq_false e]
def jff(a:Int)(b:ar):decide ((gE a:Key)=gD b)=aa:=decide_eq_false (λq=>nomatch q)
def jfe(a:ar)(b:Int):decide ((gD a:Key)=gE b)=aa:=decide_eq_false (λq=>nomatch q)
noncomputable def j1o(prog:az)(w:aE):PySem.KeyKind prog w Key where
 is:=j9n
 hash:=jky w
 inj:=λv a b ha hb=>by
  rcases vf ha with ⟨i,t,rfl,rfl⟩|⟨x,t,rfl,rfl⟩
  .rcases vf hb with ⟨j,u,rfl,e⟩|⟨y,u,rfl,e⟩
   .injection e with e1 _;rw[e1]
   .exact nomatch e
  .rcases vf hb with ⟨j,u,rfl,e⟩|⟨y,u,rfl,e⟩
   .exact nomatch e
   .injection e with e1 _;rw[e1]
 byValue:=λk v h=>by rcases vf h with ⟨i,t,rfl,rfl⟩|⟨x,t,rfl,rfl⟩<;>rfl
 pyHash:=λhv h=>by
  rcases vf hv with ⟨i,t,rfl,rfl⟩|⟨x,t,rfl,rfl⟩
  .exact wpAny_pyHash_int h
  .exact wpAny_pyHash_str h
 eqBool:=λhu hv h=>by
  rcases vf hu with ⟨i,t,rfl,rfl⟩|⟨x,t,rfl,rfl⟩
  .rcases vf hv with ⟨j,u,rfl,rfl⟩|⟨y,u,rfl,rfl⟩
   .rw[jfg]at h;exact mq h
   .rw[jff]at h;exact SeqAt.EqAt.int_str i t y u _ _ _ _ h
  .rcases vf hv with ⟨j,u,rfl,rfl⟩|⟨y,u,rfl,rfl⟩
   .rw[jfe]at h;exact SeqAt.EqAt.str_int x t j u _ _ _ _ h
   .rw[jfd]at h;exact wpAny_eqBool_str h
 «strs»:=λk x t v h=>by
  rcases vf h with ⟨i,u,rfl,e⟩|⟨y,u,rfl,e⟩
  .exact nomatch e
  .injection e with e1 _;subst e1;cases v<;>rfl
set_option genInjectivity true in
inductive V where
 |non|bl (b:Bool)|int (i:Int)|str (x:ar)|byt (b:Array UInt8)|flt (b:UInt64)|ref (a:ai)|ty (n:String)
 deriving DecidableEq
def RelV:V->aj->Prop
 |.non,u=>u=b8
 |.bl b,u=>u=bW b
 |.int i,u=>∃t,u=bC i t
 |.str x,u=>∃t,u=bZ x t
 |.byt b,u=>∃t,u=Value.bytes b t
 |.flt b,u=>∃t,u=Value.float b t
 |.ref a,u=>u=aK a
 |.ty n,u=>u=dk n
abbrev Vals:List V->List aj->Prop:=Paired RelV
theorem Vals.length{xs:List V}{us:List aj}(r:Vals xs us):xs.length=us.length:=Paired.length r
theorem Vals.get:∀{xs:List V}{us:List aj}{i:Nat}{x:V},Vals xs us->xs[i]?=a8 x->∃u,us[i]?=a8 u/\RelV x u
 |_,_,_,_,.nil,e=>by simp at e
 |_,_,0,_,.cons r _,e=>by simp at e;subst e;exact⟨_,rfl,r⟩
 |_,_,i+1,x,.cons _ t,e=>by obtain⟨u,h1,h2⟩:=Vals.get (i:=i) (x:=x) t (by simpa using e);exact⟨u,by simpa using h1,h2⟩
theorem Vals.append:∀{xs ys:List V}{us ws:List aj},Vals xs us->Vals ys ws->Vals (xs++ys) (us++ws)
 |_,_,_,_,.nil,s=>s
 |_,_,_,_,.cons r t,s=>.cons r (Vals.append t s)
theorem Vals.take:∀{xs:List V}{us:List aj}(n:Nat),Vals xs us->Vals (xs.take n) (us.take n)
 |_,_,0,_=>.nil
 |_,_,_+1,.nil=>.nil
 |_,_,n+1,.cons r t=>.cons r (Vals.take n t)
theorem Vals.drop:∀{xs:List V}{us:List aj}(n:Nat),Vals xs us->Vals (xs.drop n) (us.drop n)
 |_,_,0,r=>r
 |_,_,_+1,.nil=>.nil
 |_,_,n+1,.cons _ t=>Vals.drop n t
def jh3:Option V->Option aj->Prop
 |some v,a8 u=>RelV v u
 |none,af=>True
 |_,_=>False
def KV{κ:Type}:List (κ×V)->List (κ×aj)->Prop:=Paired λ(p:κ×V) (q:κ×aj)=>p.1=q.1/\RelV p.2 q.2
noncomputable def kV:Key->V
 |.inl i=>.int i
 |.inr x=>.str x
inductive HO where
 |lst (xs:List V)
 |tup (xs:List V)
 |dK (kvs:List (Key×V))|dT (kvs:List (List Key×V))
 |dI (xs:List (zo×ai×aj)) (ep:Nat)
 |set (S:Int->Bool) (n:Nat)
 |ins (C dx:ai) (fs:List (ar×V))
 |own (x:ai)
 |xd (fs:List (ar×V))
 |met (f x:ai)
 |rng (lo hi:Int)
 |frz (o:dF) (u:HO)
 |tbl (ps:Array aj)
 |cod (q:ar)
 |ext (φ:aH->Prop)
noncomputable abbrev Hp:=ai->Option HO
noncomputable def upd(H:Hp)(a:ai)(o:HO):Hp:=λb=>if b=a then a8 o else H b
def jb{H:Hp}{a:ai}{o:HO}:upd H a o a=a8 o:=by unfold upd;rw[if_pos rfl]
def jd{H:Hp}{a b:ai}{o:HO}(h:b≠a):upd H a o b=H b:=by unfold upd;rw[if_neg h]
def Nt{H:Hp}{a:ai}{o u:HO}:upd (upd H a o) a u=upd H a u:=by funext b;unfold upd;split<;>rfl
def Jj{H:Hp}{a b:ai}{o:HO}(h:H a=a8 o)(h':H b=af):a≠b:=by intro e;subst e;rw[h]at h';cases h'
def Zz(h:aH)(a:ai):Prop:=∀o,h.get? a=a8 o->o.dict=af
def Zz.new(h:aH)(xs:Array aj):Zz (h.push { cls:=.type "tuple",data:=.seq xs }) h.objs.size:=λo e=>by have z:(h.push { cls:=.type "tuple",data:=.seq xs }).get? h.objs.size=a8 { cls:=.type "tuple",data:=.seq xs }:=X3 _ rfl;rw[z]at e;cases e;rfl
def Zz.of{h:aH}{a:ai}{d:Data}{c:aj}(e:h.get? a=a8 { cls:=c,data:=d }):Zz h a:=λo e'=>by rw[e]at e';cases e';rfl
def j3q(o:dF)(q:ar):Prop:=∃(vs:Array aj)(t:iR),o.data=.fields vs/\vs[1]?=a8 (.str q t)
section
variable(P:az)(w:aE)
def jh(H:Hp)(h:aH)(a:ai):HO->Prop
 |.lst xs=>xs.length<=aw/\∃(its:List aj)(n:Nat),Vals xs its/\h.get? a=a8 { cls:=.type "list",data:=.seq its.toArray n }
 |.tup xs=>xs.length<=aw/\∃its:List aj,Vals xs its/\iJ h a its.toArray/\Zz h a
 |.dK kvs=>kvs.length<=aw/\(a==bO)=aa/\∃vs,KV kvs vs/\h.DictOf (j1o P w) a vs
 |.dT kvs=>kvs.length<=aw/\(a==bO)=aa/\∃xs:List (List Key×ai×aj),
   Paired (λ(p:List Key×V) (q:List Key×ai×aj)=>p.1=q.1/\H q.2.1=a8 (.tup (p.1.map kV))/\RelV p.2 q.2.2) kvs xs /\
   ∃o es ep,h.get? a=a8 o/\o.ExactDict/\o.data=.dict es ep/\es.toList=xs.map (dE (ba (j1o P w)))/\(xs.map (·.1)).Nodup
 |.dI xs ep=>xs.length<=aw/\(a==bO)=aa/\(xs.map λx=>x.1).Nodup/\∃(o:dF)(es:Array dG),h.get? a=a8 o/\o.ExactDict/\o.data=.dict es ep/\es.toList=xs.map (dE (ba (bx P w)))
 |.set S n=>h.SetOf (bx P w) a S n
 |.ins C dx fs=>H dx=a8 (.own a)/\fs.length<=1000/\dx≠a/\h.get? a=a8 (W.instObj C dx) /\
   ∃mA,h.Ns1 dx mA/\(∀f,jh3 (fs.lookup f) (mA f))/\PySem.Within mA (fs.map (·.1))
 |.own _=>∃o,h.get? a=a8 o
 |.xd fs=>∃mA,h.Ns1 a mA/\∀f,jh3 (fs.lookup f) (mA f)
 |.rng lo hi=>∃t u v,h.get? a=a8 { cls:=.type "range",data:=.fields #[.int lo t,.int hi u,.int 1 v] }
 |.frz o u=>h.get? a=a8 o/\jh H h a u
 |.tbl ps=>h.get? a=a8 { cls:=.none,data:=.fields ps }
 |.cod q=>∃ps:Array aj,h.get? a=a8 (W.tabObj ps)/\TriplesOk ps.toList/\∀pos cv,codeAmong pos ps.toList=a8 cv->∃(c:ai)(oc:dF),cv=.ref c/\H c=a8 (.frz oc (.own 0))/\j3q oc q
 |.met f x=>h.get? a=a8 (W.methodObj (.ref f) (.ref x))
 |.ext φ=>φ h/\(∃o,h.get? a=a8 o)/\∀h1 h2:aH,φ h1->(∀o,h1.get? a=a8 o->h2.get? a=a8 o)->φ h2
def HOk(H:Hp)(h:aH):Prop:=∀a o,H a=a8 o->jh P w H h a o
end
section
variable{P:az}{w:aE}{H H':Hp}{h h':aH}{a:ai}{o:HO}
theorem jh.lt(x:jh P w H h a o):a<h.objs.size:=by
 cases o with
 |lst xs=>obtain⟨_,_,_,_,e⟩:=x;exact xx e
 |tup xs=>obtain⟨_,_,_,p,_⟩:=x;exact p.lt
 |dK kvs=>obtain⟨_,_,_,_,o,_,_,e,_⟩:=x;exact xx e
 |dT kvs=>obtain⟨_,_,_,_,o,_,_,e,_⟩:=x;exact xx e
 |dI xs ep=>obtain⟨_,_,_,o,_,e,_⟩:=x;exact xx e
 |set S n=>obtain⟨o,_,_,_,e,_⟩:=x;exact xx e
 |ins C dx fs=>obtain⟨_,_,_,e,_⟩:=x;exact xx e
 |own y=>obtain⟨_,e⟩:=x;exact xx e
 |xd fs=>obtain⟨_,⟨_,_,_,e,_⟩,_⟩:=x;exact xx e
 |rng lo hi=>obtain⟨_,_,_,e⟩:=x;exact xx e
 |frz ob u=>obtain⟨e,_⟩:=x;exact xx e
 |tbl ps=>exact xx (show h.get? a=a8 _ from x)
 |cod q=>obtain⟨_,e,_⟩:=x;exact xx e
 |met f y=>exact xx (show h.get? a=a8 _ from x)
 |ext φ=>obtain⟨_,⟨_,e⟩,_⟩:=x;exact xx e
theorem Paired.mapP{α β:Type}{F G:α->β->Prop}:∀{l₁:List α}{l₂:List β},Paired F l₁ l₂->(∀a b,F a b->G a b)->Paired G l₁ l₂
 |_,_,.nil,_=>.nil
 |_,_,.cons r t,f=>.cons (f _ _ r) (Paired.mapP t f)
def jh.stay(x:jh P w H h a o)(k:∀b u,(b=a\/H b=a8 (.own a))->h.get? b=a8 u->h'.get? b=a8 u)
  (ho:∀b,H b=a8 (.own a)->H' b=a8 (.own a)) (ht:∀b xs,H b=a8 (.tup xs)->H' b=a8 (.tup xs)) (hz:∀b o,(∃vs,o.data=.fields vs)->H b=a8 (.frz o (.own 0))->H' b=a8 (.frz o (.own 0))):jh P w H' h' a o:=by
 induction o with
 |lst xs=>obtain⟨z,its,n,r,e⟩:=x;exact⟨z,its,n,r,k _ _ (.inl rfl) e⟩
 |tup xs =>obtain⟨z,its,r,⟨ob,e,c⟩,nd⟩:=x;refine⟨z,its,r,⟨ob,k _ _ (.inl rfl) e,c⟩,λo q=>?_⟩;rw[k _ _ (.inl rfl) e]at q;cases q;exact nd _ e
 |dK kvs=>obtain⟨z,y,vs,r,ob,es,ep,e,c⟩:=x;exact⟨z,y,vs,r,ob,es,ep,k _ _ (.inl rfl) e,c⟩
 |dT kvs =>obtain⟨z,y,xs,r,ob,es,ep,e,c⟩:=x;exact⟨z,y,xs,Paired.mapP r λp q z=>⟨z.1,ht _ _ z.2.1,z.2.2⟩,ob,es,ep,k _ _ (.inl rfl) e,c⟩
 |dI xs ep=>obtain⟨z,y,nd,ob,es,e,c⟩:=x;exact⟨z,y,nd,ob,es,k _ _ (.inl rfl) e,c⟩
 |set S n=>obtain⟨ob,es,ep,t,e,c⟩:=x;exact⟨ob,es,ep,t,k _ _ (.inl rfl) e,c⟩
 |ins C dx fs =>obtain⟨d,z,ne,e,mA,⟨od,es,ep,e2,c⟩,r⟩:=x;exact⟨ho _ d,z,ne,k _ _ (.inl rfl) e,mA,⟨od,es,ep,k _ _ (.inr d) e2,c⟩,r⟩
 |own y=>obtain⟨ob,e⟩:=x;exact⟨ob,k _ _ (.inl rfl) e⟩
 |xd fs=>obtain⟨mA,⟨od,es,ep,e,c⟩,r⟩:=x;exact⟨mA,⟨od,es,ep,k _ _ (.inl rfl) e,c⟩,r⟩
 |rng lo hi=>obtain⟨t,u,v,e⟩:=x;exact⟨t,u,v,k _ _ (.inl rfl) e⟩
 |frz ob u ih=>obtain⟨e,q⟩:=x;exact⟨k _ _ (.inl rfl) e,ih q⟩
 |tbl ps =>have e:h.get? a=a8 { cls:=.none,data:=.fields ps }:=x;show h'.get? a=a8 { cls:=.none,data:=.fields ps };exact k a _ (.inl rfl) e
 |cod q=>obtain⟨ps,e,t,c⟩:=x;exact⟨ps,k _ _ (.inl rfl) e,t,λpos cv z=>let ⟨c,oc,e1,e2,e3⟩:=c pos cv z;⟨c,oc,e1,hz _ _ (let ⟨vs,_,z,_⟩:=e3;⟨vs,z⟩) e2,e3⟩⟩
 |met f y =>have e:h.get? a=a8 (W.methodObj (.ref f) (.ref y)):=x;show h'.get? a=a8 (W.methodObj (.ref f) (.ref y));exact k a _ (.inl rfl) e
 |ext φ=>obtain⟨p,⟨o,e⟩,st⟩:=x;exact⟨st _ _ p λo q=>k _ _ (.inl rfl) q,⟨o,k _ _ (.inl rfl) e⟩,st⟩
theorem HOk.lt(x:HOk P w H h)(e:H a=a8 o):a<h.objs.size:=(x a o e).lt
def HOk.fresh(x:HOk P w H h)(e:h.objs.size<=a):H a=af:=by
 cases q:H a with
 |none=>rfl
 |some u=>exact absurd (Xq (x.lt q) e) (tu _)
def HOk.kept(x:HOk P w H h)(k:∀b u,h.get? b=a8 u->h'.get? b=a8 u):HOk P w H h':=λa o e =>(x a o e).stay (λb u _ q=>k b u q) (λ_ q=>q) (λ_ _ q=>q) λ_ _ _ q=>q
def HOk.laid(x:HOk P w H h)(k:∀b u,h.get? b=a8 u->h'.get? b=a8 u)(hp:h.objs.size<=a)(new:jh P w (upd H a o) h' a o):HOk P w (upd H a o) h':=λb u e=>by
 have hn:=x.fresh hp;by_cases hb:b=a
 .subst hb;rw[jb]at e;cases e;exact new
 .rw[jd hb]at e;exact(x b u e).stay (λc v _ q=>k c v q) (λc q=>by rw[jd (Jj q hn)];exact q) (λc xs q=>by rw[jd (Jj q hn)];exact q) λc _ _ q=>by rw[jd (Jj q hn)];exact q
end
def Rd(H:Hp)(a:ai)(u:HO):Prop:=H a=a8 u\/∃o,H a=a8 (.frz o u)
def Rd.ok{P:az}{w:aE}{H:Hp}{h:aH}{a:ai}{u:HO}(r:Rd H a u)(x:HOk P w H h):jh P w H h a u:=by
 rcases r with r|⟨o,r⟩
 .exact x a u r
 .obtain⟨_,q⟩:=x a _ r;exact q
def Mut:Option HO->Prop
 |some (.lst _)=>True
 |some (.dK _)=>True
 |some (.dT _)=>True
 |some (.dI _ _)=>True
 |some (.set _ _)=>True
 |some (.ins _ _ _)=>True
 |some (.ext _)=>True
 |some (.cod _)=>True
 |_=>False
section
variable{P:az}{w:aE}{H:Hp}{h h':aH}{x e:ai}{o':HO}
def HOk.write(ok:HOk P w H h)(mu:Mut (H x))(he:e=x\/H e=a8 (.own x))(k:∀b u,b≠e->h.get? b=a8 u->h'.get? b=a8 u)(heo:∃u,h'.get? e=a8 u)
  (new:jh P w (upd H x o') h' x o'):HOk P w (upd H x o') h':=λb u q=>by
 have nown:∀c y,H c=a8 (.own y)->c≠x:=λc y r z=>by subst z;rw[r]at mu;exact mu
 have ntup:∀c xs,H c=a8 (.tup xs)->c≠x:=λc xs r z=>by subst z;rw[r]at mu;exact mu
 have nfrz:∀c o u,H c=a8 (.frz o u)->c≠x:=λc o u r z=>by subst z;rw[r]at mu;exact mu
 by_cases hb:b=x
 .subst hb;rw[jb]at q;cases q;exact new
 .rw[jd hb]at q;by_cases hbe:b=e
  .have q':H b=a8 (.own x):=by
    rcases he with z|z
    .exact absurd (hbe.trans z) hb
    .rw[hbe];exact z
   rw[q]at q';cases q';obtain⟨v,hv⟩:=heo;exact⟨v,by rw[hbe];exact hv⟩
  .refine(ok b u q).stay (λc v hc r=>k c v ?_ r) (λc r=>by rw[jd (nown c b r)];exact r) (λc xs r=>by rw[jd (ntup c xs r)];exact r) λc o _ r=>by rw[jd (nfrz c o _ r)];exact r
   rcases hc with rfl|hc
   .exact hbe
   .rintro rfl;rcases he with z|z
    .exact nown c b hc z
    .rw[hc]at z;cases z;exact hb rfl
end
structure Un(fs ex:List ai)(H H':Hp)(h h':aH):Prop where
 keep:∀b o,h.get? b=a8 o->H b=af->b∉fs->b∉ex->h'.get? b=a8 o
 slot:∀b o,h.get? b=a8 o->H b=af->b∈fs->b∉ex->∃sl,h'.get? b=a8 { o with slots:=sl }
 free:∀b o,h.get? b=a8 o->H b=af->b∉ex->H' b=af
 there:∀b o,h.get? b=a8 o->b∉ex->∃o',h'.get? b=a8 o'
 tups:∀b xs,H b=a8 (.tup xs)->H' b=a8 (.tup xs)
 frzs:∀b o u,H b=a8 (.frz o u)->H' b=a8 (.frz o u)
 tbls:∀b ps,H b=a8 (.tbl ps)->∃more,H' b=a8 (.tbl (ps++more))
section
variable{fs fs' ex ex':List ai}{H H1 H2:Hp}{h h1 h2 h':aH}{a x e:ai}{o:HO}
def Un.any(u:Un fs ex H H1 h h1){b:ai}{ob:dF}(q:h.get? b=a8 ob)(n:H b=af)(hx:b∉ex):∃sl,h1.get? b=a8 { ob with slots:=sl }:=by
 by_cases hb:b∈fs
 .exact u.slot b ob q n hb hx
 .exact⟨ob.slots,u.keep b ob q n hb hx⟩
def Un.kept(k:∀b u,h.get? b=a8 u->h'.get? b=a8 u):Un fs ex H H h h' :=
 ⟨λb ob q _ _ _=>k b ob q,λb ob q _ _ _=>⟨ob.slots,k b ob q⟩,λ_ _ _ n _=>n,λb ob q _=>⟨ob,k b ob q⟩,λ_ _ q=>q,λ_ _ _ q=>q,λ_ ps q=>⟨#[],by rw[q];simp⟩⟩
def Un.refl:Un fs ex H H h h:=Un.kept λ_ _ q=>q
def Un.laid(k:∀b u,h.get? b=a8 u->h'.get? b=a8 u)(hp:h.objs.size<=a)(hn:H a=af):Un fs ex H (upd H a o) h h' where
 keep:=λb u q _ _ _=>k b u q
 slot:=λb u q _ _ _=>⟨u.slots,k b u q⟩
 free:=λb u q n _=>by rw[jd (Xa (Xq (xx q) hp))];exact n
 there:=λb u q _=>⟨u,k b u q⟩
 tups:=λb xs q=>by rw[jd (Jj q hn)];exact q
 frzs:=λb u xs q=>by rw[jd (Jj q hn)];exact q
 tbls:=λb ps q=>⟨#[],by rw[jd (Jj q hn),q];simp⟩
def Un.write(mu:Mut (H x))(he:e=x\/H e=a8 (.own x))(k:∀b u,b≠e->h.get? b=a8 u->h'.get? b=a8 u)(heo:∃u,h'.get? e=a8 u):Un fs ex H (upd H x o) h h':=by
 have hx:∀b,H b=af->b≠x:=λb n z=>by subst z;rw[n]at mu;exact mu
 have hb:∀b,H b=af->b≠e:=λb n z=>by
  subst z;rcases he with r|r
  .exact hx b n r
  .rw[n]at r;cases r
 have hm:∀b u,H b=a8 u->¬Mut (a8 u)->b≠x:=λb u q nm z=>by subst z;rw[q]at mu;exact nm mu
 refine⟨λb u q n _ _=>k b u (hb b n) q,λb u q n _ _=>⟨u.slots,k b u (hb b n) q⟩,λb u q n _=>by rw[jd (hx b n)];exact n,λb u q _=>?_,
  λb xs q=>by rw[jd (hm b _ q λz=>z)];exact q,λb u xs q=>by rw[jd (hm b _ q λz=>z)];exact q,λb ps q=>⟨#[],by rw[jd (hm b _ q λz=>z),q];simp⟩⟩
 by_cases hbe:b=e
 .subst hbe;exact heo
 .exact⟨u,k b u hbe q⟩
end
noncomputable def trk(h:aH)(H:Hp):List ai:=(aA h.objs.size).filter λa=>(H a).isSome
noncomputable def W9(h:aH)(H:Hp):aH:=W.hideAll h (trk h H)
def j58(h:aH)(H:Hp):(W9 h H).objs.size=h.objs.size:=W.hideAll_size _ _
def j84{h:aH}{H:Hp}{b:ai}{o:dF}(e:h.get? b=a8 o)(n:H b=af):(W9 h H).get? b=a8 o :=
 W.hideAll_get _ e λhm=>by have q:(H b).isSome=ae:=(Pn.mp hm).2;rw[n]at q;simp at q
def jbg{h:aH}{H:Hp}{b:ai}{o:dF}(e:(W9 h H).get? b=a8 o):h.get? b=a8 o/\H b=af:=by
 have e':h.get? b=a8 o:=W.of_hideAll (trk h H) e;refine⟨e',?_⟩;cases q:H b with
 |none=>rfl
 |some x =>have hm:b∈trk h H:=Pn.mpr ⟨Xc.mpr (xx e'),by simp[q]⟩;have z:(W9 h H).get? b=af:=W.hideAll_none (trk h H) hm;rw[z]at e;cases e
noncomputable def jd6(g h:aH)(L:ai):List (ai×dF):=(aA h.objs.size).filterMap λa=>if a=L\/(g.get? a).isSome=ae then af else(h.get? a).map λo=>(a,o)
noncomputable def rest(g h:aH)(L d:ai):List (ai×dF):=(jd6 g h L).filter λp=>decide (p.1≠d)
structure Mod(K:k8v)(mg:k8y)(base:aH):Prop where
 kin:K.In base
 glob:base.Ns aB mg
 blt:∃mb,base.Ns eM mb/\∀x:ar,x ≠ "__name__"->mb x=bA x
 nolimit:base.NoLimit
 bm:∃bm ob,mg "__builtins__" = a8 (.ref bm)/\bm≠eM/\base.get? bm=a8 ob/\ob.cls=.type "module"/\ob.dict=a8 eM/\ob.data=.plain
structure Cx where
 prog:az
 w:aE
 K:k8v
 mg:ar->Option aj
 base:aH
 A:aF
 N:List ar
 s₀:aq
 H₀:Hp
 env:dO
 outer:List dO
 stack:List dO
 ex:List ai
 fn:ar->Bool
 calm:Bool
 pn:List (ai×dF)
 xe:aj->aq->Prop
noncomputable def frs(l:List dO):List ai:=l.filterMap (·.frame)
noncomputable abbrev Cx.fs(X:Cx):List ai:=frs X.outer
def Vis(sc:bH)(x:ar):Prop:=sc.names.lookup x=a8 .local\/sc.names.lookup x=a8 .cell\/sc.names.lookup x=a8 .free
def Loc(sc:bH)(x:ar):Prop:=sc.names.lookup x=a8 .local\/sc.names.lookup x=a8 .cell
def Look(env:dO)(h:aH)(m:k8y)(x:ar)(u:aj):Prop :=
 (env.kindOf x=a8 .local/\m x=a8 u)\/((env.kindOf x=a8 .cell\/env.kindOf x=a8 .free)/\∃c,env.cells.lookup x=a8 c/\h.IsCell c (a8 u))
structure Cx.Ok(X:Cx):Prop where
 mod:Mod X.K X.mg X.base
 kind:X.env.scope.kind=.function
 glob:X.env.globals=aB
 blt:X.env.builtins=eM
 above:X.s₀.heap.objs.size<=X.env.locals
 inj:∀x y c,X.env.cells.lookup x=a8 c->X.env.cells.lookup y=a8 c->x=y
 has:∀x,(X.env.kindOf x=a8 .cell\/X.env.kindOf x=a8 .free)->∃c,X.env.cells.lookup x=a8 c
 cab:∀x c,X.fn x=ae->X.env.cells.lookup x=a8 c->X.s₀.heap.objs.size<=c
 hd:X.calm=ae->X.A.handled=af
 frames:X.A.frames=a8 X.stack
 stk:X.stack=X.outer\/(X.stack=X.env::X.outer/\X.env.frame=a8 X.env.locals)
 exf:∀b∈X.ex,b≠X.env.locals/\∀x c,X.env.cells.lookup x=a8 c->c≠b
 bs:∀b o,X.base.get? b=a8 o->X.s₀.heap.get? b=a8 o/\X.H₀ b=af
 bsz:X.base.objs.size<=X.s₀.heap.objs.size
 noex:∀b o,X.base.get? b=a8 o->b∉X.ex
 exfs:∀b∈X.ex,b∉X.fs
 funs:X.s₀.heap.FunFrames X.base X.outer
 frf:∀b∈X.fs,X.H₀ b=af
structure Inv(X:Cx)(pins:k8x)(σ:List (Option V))(H:Hp)(s:aq):Prop where
 ok:X.Ok
 os:s.os=X.s₀.os
 bare:eT s.gens
 base:Un X.fs X.ex X.H₀ H X.s₀.heap s.heap
 loc:∃m,s.heap.Ns X.env.locals m/\∀(i:Nat)(x:ar)(v:V),X.N[i]?=a8 x->σ[i]?=a8 (a8 v)->Vis X.env.scope x->∃u,RelV v u/\Look X.env s.heap m x u
 cell:∀x c,X.env.cells.lookup x=a8 c->∃v,s.heap.IsCell c v
 free:H X.env.locals=af
 freeC:∀x c,X.env.cells.lookup x=a8 c->H c=af
 pin:∀p∈X.pn++pins,s.heap.get? p.1=a8 p.2/\H p.1=af/\p.1≠X.env.locals/\p.1∉X.fs/\∀v,p.2.data≠.cell v
 hok:HOk X.prog X.w H s.heap
 len:σ.length=X.N.length
section
variable{X:Cx}{pins:k8x}{σ:List (Option V)}{H H':Hp}{s:aq}{h':aH}
def Cx.Ok.nofr(ok:X.Ok){b:ai}{o:dF}(e:X.base.get? b=a8 o):b∉X.fs:=λhb=>by have:=(ok.funs.mem hb).1;rw[e]at this;cases this
theorem Inv.bs(I:Inv X pins σ H s):∀b o,X.base.get? b=a8 o->s.heap.get? b=a8 o/\H b=af:=λb o e =>⟨I.base.keep b o (I.ok.bs b o e).1 (I.ok.bs b o e).2 (I.ok.nofr e) (I.ok.noex b o e),I.base.free b o (I.ok.bs b o e).1 (I.ok.bs b o e).2 (I.ok.noex b o e)⟩
def Inv.bk(I:Inv X pins σ H s):∀b o,X.base.get? b=a8 o->s.heap.get? b=a8 o:=λb o e=>(I.bs b o e).1
theorem Inv.mod(I:Inv X pins σ H s):Mod X.K X.mg X.base:=I.ok.mod
def Inv.kIn(I:Inv X pins σ H s):X.K.In s.heap:=I.ok.mod.kin.keeps I.bk
theorem Inv.lt(I:Inv X pins σ H s):X.env.locals<s.heap.objs.size:=let ⟨_,hn,_⟩:=I.loc;hn.lt
def Inv.sz(I:Inv X pins σ H s):X.s₀.heap.objs.size<=s.heap.objs.size:=Xd I.ok.above (f7 I.lt)
def Inv.nofs(I:Inv X pins σ H s){a:ai}(h:s.heap.objs.size<=a):a∉X.fs:=λhb=>by obtain⟨_,o,ho,_⟩:=I.ok.funs.mem hb;exact absurd (Xq (xx ho) (Xd I.sz h)) (tu _)
def Inv.cne(I:Inv X pins σ H s):∀x c,X.env.cells.lookup x=a8 c->c≠X.env.locals:=λx c e z=>by obtain⟨v,o,ho,hd⟩:=I.cell x c e;obtain⟨m,⟨o',es,ep,ho',hd',_⟩,_⟩:=I.loc;rw[z,ho']at ho;cases ho;rw[hd']at hd;cases hd
theorem Inv.funs(I:Inv X pins σ H s):s.heap.FunFrames X.base X.outer:=by
 have all:∀(l:List dO),(∀b∈frs l,b∈X.fs)->X.s₀.heap.FunFrames X.base l->s.heap.FunFrames X.base l:=by
  intro l;induction l with
  |nil=>intro _ _;trivial
  |cons env r ih =>intro hs hl;obtain⟨hk,⟨L,o,hf,hn,ho,hd⟩,hr⟩:=hl;have hL:L∈X.fs:=hs L (by unfold frs;rw[cN,hf];exact xr);obtain⟨sl,e⟩:=I.base.slot L o ho (I.ok.frf L hL) hL λz=>I.ok.exfs L z hL;exact⟨hk,⟨L,_,hf,hn,e,hd⟩,ih (λb hb=>hs b (by unfold frs;rw[cN,hf];exact xm _ hb)) hr⟩
 exact all X.outer (λ_ hb=>hb) I.ok.funs
theorem Inv.stack(I:Inv X pins σ H s):s.heap.FunFrames X.base X.stack:=by
 rcases I.ok.stk with e|⟨e,hf⟩
 .rw[e];exact I.funs
 .rw[e];obtain⟨m,hn,_⟩:=I.loc;refine .cons (by rw[I.ok.kind];decide) hf hn ?_ I.funs;exact Heap.get?_none_of_le (Xd I.ok.bsz I.ok.above)
def Inv.stkSub(I:Inv X pins σ H s):∀b∈frs X.stack,b∈X.env.locals::X.fs:=λb hb=>by
 rcases I.ok.stk with e|⟨e,hf⟩
 .rw[e]at hb;exact xm _ hb
 .rw[e]at hb;unfold frs at hb;rw[cN,hf]at hb;exact hb
def Inv.stkFree(I:Inv X pins σ H s):∀b∈frs X.stack,H b=af:=λb hb=>by
 rcases xq.mp (I.stkSub b hb)with e|hb
 .rw[e];exact I.free
 .obtain⟨_,o,ho,_⟩:=I.ok.funs.mem hb;exact I.base.free b o ho (I.ok.frf b hb) λz=>I.ok.exfs b z hb
def Inv.step{g':Array gu}{t':Nat}{d':Drawn}{ch:List ai}(I:Inv X pins σ H s)
  (hch:∀b∈ch,(b∈X.ex\/X.s₀.heap.objs.size<=b)/\b≠X.env.locals/\(∀x c,X.env.cells.lookup x=a8 c->c≠b)/\∀p∈X.pn++pins,p.1≠b)
  (keep:∀b o,b≠X.env.locals->b∉X.fs->b∉ch->s.heap.get? b=a8 o->H b=af->h'.get? b=a8 o)
  (slot:∀b o,b≠X.env.locals->b∈X.fs->b∉ch->s.heap.get? b=a8 o->H b=af->∃sl,h'.get? b=a8 { o with slots:=sl }) (free:∀b o,b∉ch->s.heap.get? b=a8 o->H b=af->H' b=af)
  (there:∀b o,b∉ch->s.heap.get? b=a8 o->∃o',h'.get? b=a8 o')
  (tups:∀b xs,H b=a8 (.tup xs)->H' b=a8 (.tup xs)) (frzs:∀b o u,H b=a8 (.frz o u)->H' b=a8 (.frz o u)) (tbls:∀b ps,H b=a8 (.tbl ps)->∃more,H' b=a8 (.tbl (ps++more)))
  (ns:∀m,s.heap.Ns X.env.locals m->h'.Ns X.env.locals m) (hok:HOk X.prog X.w H' h') (hg:eT g') :
  Inv X pins σ H' { s with heap:=h',gens:=g',drawn:=d',toks:=t' }:=by
 have neL:∀b o,X.s₀.heap.get? b=a8 o->b≠X.env.locals:=λb o e=>Xa (Xq (xx e) I.ok.above);have neC:∀b o,X.s₀.heap.get? b=a8 o->b∉X.ex->b∉ch:=λb o e hx hb=>by
  rcases(hch b hb).1 with z|z
  .exact hx z
  .exact absurd (Xq (xx e) z) (tu _)
 have cellK:∀x c,X.env.cells.lookup x=a8 c->∀v,s.heap.IsCell c v->h'.IsCell c v:=λx c e v ⟨o,ho,hd⟩=>by
  have nch:c∉ch:=λz=>(hch c z).2.2.1 x c e rfl;by_cases hc:c∈X.fs
  .obtain⟨sl,q⟩:=slot c o (I.cne x c e) hc nch ho (I.freeC x c e);exact⟨_,q,hd⟩
  .exact⟨o,keep c o (I.cne x c e) hc nch ho (I.freeC x c e),hd⟩
 refine⟨I.ok,I.os,hg,⟨λb o e n hb hx=>?_,λb o e n hb hx=>?_,λb o e n hx=>?_,λb o e hx=>?_,λb xs e=>tups b xs (I.base.tups b xs e),λb o xs e=>frzs b o xs (I.base.frzs b o xs e),λb ps e=>?_⟩,?_,λx c e=>?_,?_,λx c e=>?_,λp hp=>?_,hok,I.len⟩
 .exact keep b o (neL b o e) hb (neC b o e hx) (I.base.keep b o e n hb hx) (I.base.free b o e n hx)
 .obtain⟨sl,e1⟩:=I.base.slot b o e n hb hx;obtain⟨sl',e2⟩:=slot b _ (neL b o e) hb (neC b o e hx) e1 (I.base.free b o e n hx);exact⟨sl',e2⟩
 .obtain⟨o',e1⟩:=I.base.there b o e hx;exact free b o' (neC b o e hx) e1 (I.base.free b o e n hx)
 .obtain⟨o',e1⟩:=I.base.there b o e hx;exact there b o' (neC b o e hx) e1
 .obtain⟨m1,e1⟩:=I.base.tbls b ps e;obtain⟨m2,e2⟩:=tbls b _ e1;exact⟨m1++m2,by rw[e2,Array.append_assoc]⟩
 .obtain⟨m,hn,hl⟩:=I.loc;refine⟨m,ns m hn,λi x v e1 e2 e3=>?_⟩;obtain⟨u,r,l⟩:=hl i x v e1 e2 e3;refine⟨u,r,?_⟩;rcases l with l|⟨k,c,e,z⟩
  .exact .inl l
  .exact .inr ⟨k,c,e,cellK x c e _ z⟩
 .obtain⟨v,z⟩:=I.cell x c e;exact⟨v,cellK x c e v z⟩
 .obtain⟨m,⟨o,_,_,ho,_⟩,_⟩:=I.loc;exact free _ o (λz=>(hch _ z).2.1 rfl) ho I.free
 .obtain⟨v,o,ho,hd⟩:=I.cell x c e;exact free c o (λz=>(hch c z).2.2.1 x c e rfl) ho (I.freeC x c e)
 .obtain⟨e,n,ne,nf,d⟩:=I.pin p hp;have nch:p.1∉ch:=λz=>(hch p.1 z).2.2.2 p hp rfl;exact⟨keep p.1 p.2 ne nf nch e n,free p.1 p.2 nch e n,ne,nf,d⟩
def Inv.un{t':Nat}(I:Inv X pins σ H s)(u:Un X.fs [] H H' s.heap h')(hok:HOk X.prog X.w H' h'):Inv X pins σ H' { s with heap:=h',toks:=t' }:=by
 obtain⟨m,⟨o,es,ep,ho,r⟩,_⟩:=id I.loc;obtain⟨sl,hL⟩:=u.any ho I.free (by simp);exact I.step (g':=s.gens) (d':=s.drawn) (ch:=[]) (λ_ z=>nomatch z) (λb o _ hb _ e n=>u.keep b o e n hb (by simp)) (λb o _ hb _ e n=>u.slot b o e n hb (by simp)) (λb o _ e n=>u.free b o e n (by simp)) (λb o _ e=>u.there b o e (by simp)) u.tups u.frzs u.tbls (λm' hm=>by
  obtain⟨o',es',ep',ho',r'⟩:=hm
  rw[ho]at ho';cases ho'
  exact⟨_,es',ep',hL,r'⟩) hok I.bare
def Inv.call{g':Array gu}{t':Nat}{d':Drawn}{ch:List ai}(I:Inv X pins σ H s)(u:Un (frs X.stack) ch H H' s.heap h')(hok:HOk X.prog X.w H' h')(hg:eT g')
  (hch:∀b∈ch,(b∈X.ex\/X.s₀.heap.objs.size<=b)/\b≠X.env.locals/\(∀x c,X.env.cells.lookup x=a8 c->c≠b)/\∀p∈X.pn++pins,p.1≠b) :
  Inv X pins σ H' { s with heap:=h',gens:=g',drawn:=d',toks:=t' }:=by
 obtain⟨m,⟨o,es,ep,ho,r⟩,_⟩:=id I.loc;obtain⟨sl,hL⟩:=u.any ho I.free λz=>(hch _ z).2.1 rfl;exact I.step (ch:=ch) hch (λb o hL hb hc e n=>u.keep b o e n (λz=>(xq.mp (I.stkSub b z)).elim hL hb) hc) (λb o _ _ hc e n=>u.any e n hc) (λb o hc e n=>u.free b o e n hc) (λb o hc e=>u.there b o e hc) u.tups u.frzs u.tbls (λm' hm=>by
  obtain⟨o',es',ep',ho',r'⟩:=hm
  rw[ho]at ho';cases ho'
  exact⟨_,es',ep',hL,r'⟩) hok hg
def Inv.turned{t':Nat}{it:ai}(I:Inv X pins σ H s)(k:∀b o,b≠it->s.heap.get? b=a8 o->h'.get? b=a8 o)(hn:H it=af)(hL:it≠X.env.locals)
  (h1:it∈X.ex\/X.s₀.heap.objs.size<=it) (h2:∀x c,X.env.cells.lookup x=a8 c->c≠it) (h3:∀p∈X.pn++pins,p.1≠it):Inv X pins σ H { s with heap:=h',toks:=t' }:=by
 have nit:∀b u,H b=a8 u->b≠it:=λb u e z=>by rw[z,hn]at e;cases e
 refine I.step (g':=s.gens) (d':=s.drawn) (ch:=[it]) (λb hb=>?_) (λb o _ _ hc e _=>k b o (λz=>hc (by simp[z])) e) (λb o _ _ hc e _=>⟨o.slots,k b o (λz=>hc (by simp[z])) e⟩) (λ_ _ _ _ n=>n)
  (λb o hc e=>⟨o,k b o (λz=>hc (by simp[z])) e⟩) (λ_ _ e=>e) (λ_ _ _ e=>e) (λb ps e=>⟨#[],by rw[e];simp⟩) (λm hm=>?_) (λb u e=>?_) I.bare
 .have e:b=it:=by simpa using hb
  subst e;exact⟨h1,hL,h2,h3⟩
 .obtain⟨o,es,ep,ho,r⟩:=hm;exact⟨o,es,ep,k _ o (bE hL) ho,r⟩
 .refine(I.hok b u e).stay (λc v hc q=>k c v ?_ q) (λ_ q=>q) (λ_ _ q=>q) λ_ _ _ q=>q;rcases hc with z|z
  .rw[z];exact nit b u e
  .exact nit c _ z
def Inv.tok(I:Inv X pins σ H s)(t:Nat):Inv X pins σ H { s with toks:=t }:=I.un (h':=s.heap) (t':=t) Un.refl I.hok
theorem Inv.kept{t':Nat}(I:Inv X pins σ H s)(k:∀b u,s.heap.get? b=a8 u->h'.get? b=a8 u):Inv X pins σ H { s with heap:=h',toks:=t' }:=I.un (Un.kept k) (I.hok.kept k)
theorem Inv.laid{a:ai}{o:HO}{t':Nat}(I:Inv X pins σ H s)(k:∀b u,s.heap.get? b=a8 u->h'.get? b=a8 u)(hp:s.heap.objs.size<=a)(new:jh X.prog X.w (upd H a o) h' a o) :
  Inv X pins σ (upd H a o) { s with heap:=h',toks:=t' }:=I.un (Un.laid k hp (I.hok.fresh hp)) (I.hok.laid k hp new)
theorem Inv.write{x e:ai}{o:HO}{t':Nat}(I:Inv X pins σ H s)(mu:Mut (H x))(he:e=x\/H e=a8 (.own x))(k:∀b u,b≠e->s.heap.get? b=a8 u->h'.get? b=a8 u)(heo:∃u,h'.get? e=a8 u)
  (new:jh X.prog X.w (upd H x o) h' x o):Inv X pins σ (upd H x o) { s with heap:=h',toks:=t' }:=I.un (Un.write mu he k heo) (I.hok.write mu he k heo new)
def Inv.pins_of{pins':k8x}(I:Inv X pins σ H s)(h:∀p∈pins',s.heap.get? p.1=a8 p.2/\H p.1=af/\p.1≠X.env.locals/\p.1∉X.fs/\∀v,p.2.data≠.cell v):Inv X pins' σ H s :=
 ⟨I.ok,I.os,I.bare,I.base,I.loc,I.cell,I.free,I.freeC,λp hp=>(Xp.mp hp).elim (λz=>I.pin p (Xk _ z)) (h p),I.hok,I.len⟩
def Eg{N:List ar}(hN:N.Nodup){i j:Nat}{x:ar}(a:N[i]?=a8 x)(b:N[j]?=a8 x):i=j:=by obtain⟨h1,e1⟩:=X4.mp a;obtain⟨h2,e2⟩:=X4.mp b;exact(kv hN).mp (e1.trans e2.symm)
def Ca{M:jT}{A:aF}{E:k8w}{i:Nat}{x:ar}{v:V}{u:aj}{Q:Unit->aq->Prop}(I:Inv X pins σ H s)(hN:X.N.Nodup)(hi:X.N[i]?=a8 x)(hx:Loc X.env.scope x)(r:RelV v u)
  (h:∀s',Inv X pins (σ.set i (a8 v)) H s'->(∃a,d5 a s.heap s'.heap/\(a=X.env.locals\/X.env.cells.lookup x=a8 a))->Q () s') (hf:X.fn x=ae\/X.env.scope.names.lookup x=a8 .local:=by first|exact .inl rfl|exact .inr rfl|assumption):av M A (storeName X.env x u) Q E s:=by
 obtain⟨m,hn,hl⟩:=id I.loc;have hcls:(X.env.scope.kind==.class || (X.env.scope.kind==.module&&X.env.locals != X.env.globals))=aa:=by rw[I.ok.kind];rfl
 have hiσ:i<σ.length:=by rw[I.len];exact(X4.mp hi).1
 have cne:=I.cne;have tracked:∀{a:ai}{h':aH},(∃o,s.heap.get? a=a8 o/\H a=af)->d5 a s.heap h'->HOk X.prog X.w H h':=λ{a h'} ha hs b ob e=>by
  obtain⟨_,_,hfree⟩:=ha;refine(I.hok b ob e).stay (λc w' hc q=>(hs.2 c ?_).trans q) (λ_ q=>q) (λ_ _ q=>q) λ_ _ _ q=>q;rintro rfl;rcases hc with rfl|hc
  .rw[hfree]at e;cases e
  .rw[hfree]at hc;cases hc
 rcases hx with hk|hk
 .refine wpAny_storeName_local hk hn (λh' hn' hs=>?_) hcls;obtain⟨oL,_,_,hoL,_⟩:=id hn;refine h _ ⟨I.ok,I.os,I.bare,⟨λb o e n hb hx=>?_,λb o e n hb hx=>?_,I.base.free,λb o e hx=>?_,I.base.tups,I.base.frzs,I.base.tbls⟩,⟨_,hn',λj y v' e1 e2 e3=>?_⟩,λy c e=>?_,I.free,I.freeC,λp hp=>?_,tracked ⟨oL,hoL,I.free⟩ hs,by simpa using I.len⟩ ⟨_,hs,.inl rfl⟩
  .exact(hs.2 b (Xa (Xq (xx e) I.ok.above))).trans (I.base.keep b o e n hb hx)
  .obtain⟨sl,e1⟩:=I.base.slot b o e n hb hx;exact⟨sl,(hs.2 b (Xa (Xq (xx e) I.ok.above))).trans e1⟩
  .obtain⟨o',e1⟩:=I.base.there b o e hx;exact⟨o',(hs.2 b (Xa (Xq (xx e) I.ok.above))).trans e1⟩
  .by_cases hj:j=i
   .subst hj;rw[hi]at e1;cases e1;rw[d9 hiσ]at e2;cases e2;exact⟨u,r,.inl ⟨hk,by simp⟩⟩
   .rw[jB (bE hj)]at e2;obtain⟨u',r',q⟩:=hl j y v' e1 e2 e3;refine⟨u',r',?_⟩;rcases q with ⟨k,e⟩|⟨k,c,e,z⟩
    .refine .inl ⟨k,?_⟩;have:y≠x:=λe=>hj (Eg hN e1 (e▸hi));simp[this,e]
    .exact .inr ⟨k,c,e,z.sameBut hs (cne y c e)⟩
  .obtain⟨w',z⟩:=I.cell y c e;exact⟨w',z.sameBut hs (cne y c e)⟩
  .obtain⟨e,n,ne,nf,d⟩:=I.pin p hp;exact⟨(hs.2 p.1 ne).trans e,n,ne,nf,d⟩
 .have hfn:X.fn x=ae:=by
   rcases hf with z|z
   .exact z
   .rw[z]at hk;cases hk
  obtain⟨c,hc⟩:=I.ok.has x (.inl hk);obtain⟨w',z⟩:=I.cell x c hc;refine wpAny_storeName_cell I.ok.kind hk hc z (λh' hc' hs=>?_);obtain⟨oc,hoc,hocd⟩:=id z;refine h { s with heap:=h' } ⟨I.ok,I.os,I.bare,⟨λb o e n hb hx=>?_,λb o e n hb hx=>?_,I.base.free,λb o e hx=>?_,I.base.tups,I.base.frzs,I.base.tbls⟩,⟨m,hn.sameBut hs (bE (cne x c hc)),λj y v' e1 e2 e3=>?_⟩,λy c' e=>?_,I.free,I.freeC,λp hp=>?_,tracked ⟨oc,hoc,I.freeC x c hc⟩ hs,by simpa using I.len⟩ ⟨c,hs,.inr hc⟩
  .exact(hs.2 b (Xa (Xq (xx e) (I.ok.cab x c hfn hc)))).trans (I.base.keep b o e n hb hx)
  .obtain⟨sl,e1⟩:=I.base.slot b o e n hb hx;exact⟨sl,(hs.2 b (Xa (Xq (xx e) (I.ok.cab x c hfn hc)))).trans e1⟩
  .obtain⟨o',e1⟩:=I.base.there b o e hx;exact⟨o',(hs.2 b (Xa (Xq (xx e) (I.ok.cab x c hfn hc)))).trans e1⟩
  .by_cases hj:j=i
   .subst hj;rw[hi]at e1;cases e1;rw[d9 hiσ]at e2;cases e2;exact⟨u,r,.inr ⟨.inl hk,c,hc,hc'⟩⟩
   .rw[jB (bE hj)]at e2;obtain⟨u',r',q⟩:=hl j y v' e1 e2 e3;refine⟨u',r',?_⟩;rcases q with q|⟨k,c',e,z'⟩
    .exact .inl q
    .refine .inr ⟨k,c',e,z'.sameBut hs ?_⟩;rintro rfl;exact hj (Eg hN e1 (I.ok.inj _ _ _ e hc▸hi))
  .by_cases hcc:c'=c
   .subst hcc;exact⟨_,hc'⟩
   .obtain⟨w2,z2⟩:=I.cell y c' e;exact⟨w2,z2.sameBut hs hcc⟩
  .obtain⟨e,n,ne,nf,d⟩:=I.pin p hp;refine⟨(hs.2 p.1 ?_).trans e,n,ne,nf,d⟩;intro q;rw[q,hoc]at e;have q':oc=p.2:=ax e;exact d w' (by rw[<-q'];exact hocd)
def Ia{M:jT}{A:aF}{E:k8w}{i:Nat}{x:ar}{v:V}{u:aj}{Q:Unit->aq->Prop}(I:Inv X pins σ H s)(hN:X.N.Nodup)(hi:X.N[i]?=a8 x)(hx:Loc X.env.scope x)(r:RelV v u)
  (h:∀s',Inv X pins (σ.set i (a8 v)) H s'->Q () s') (hf:X.fn x=ae\/X.env.scope.names.lookup x=a8 .local:=by first|exact .inl rfl|exact .inr rfl|assumption):av M A (storeName X.env x u) Q E s :=
 Ca I hN hi hx r (λs' I' _=>h s' I') hf
def Inv.call'{s':aq}{ch:List ai}(I:Inv X pins σ H s)(ho:s'.os=s.os)(u:Un (frs X.stack) ch H H' s.heap s'.heap)(hok:HOk X.prog X.w H' s'.heap)(hg:eT s'.gens)
  (hch:∀b∈ch,(b∈X.ex\/X.s₀.heap.objs.size<=b)/\b≠X.env.locals/\(∀x c,X.env.cells.lookup x=a8 c->c≠b)/\∀p∈X.pn++pins,p.1≠b):Inv X pins σ H' s':=by
 obtain⟨h',g',d',t',o'⟩:=s';have e:o'=s.os:=ho;subst e;exact I.call (g':=g') (t':=t') (d':=d') u hok hg hch
end
abbrev XK:=aj->Option ai->Hp->Prop
noncomputable abbrev St:=List (Option V)
abbrev VK:=V->Hp->Prop
abbrev TE:=St->Hp->VK->Prop
abbrev TT:=St->Hp->(Bool->Hp->Prop)->Prop
abbrev TA:=St->Hp->(List V->Hp->Prop)->Prop
structure Ends where
 nx:St->Hp->Prop
 rt:VK
 bk:St->Hp->Prop:=λ_ _=>False
 ct:St->Hp->Prop:=λ_ _=>False
abbrev TS:=Ends->St->Hp->Prop
def EP(X:Cx)(pins:k8x)(σ:St)(Q:VK)(u:aj)(s':aq):Prop:=∃v H',Inv X pins σ H' s'/\RelV v u/\Q v H'
def TP(X:Cx)(pins:k8x)(σ:St)(Q:Bool->Hp->Prop)(b:Bool)(s':aq):Prop:=∃H',Inv X pins σ H' s'/\Q b H'
def AP(X:Cx)(pins:k8x)(σ:St)(Q:List V->Hp->Prop)(us:List aj)(s':aq):Prop:=∃vs H',Inv X pins σ H' s'/\Vals vs us/\Q vs H'
def Ext(X:Cx)(H1 H2:Hp)(s':aq):Prop:=∀b,H2 b=H1 b\/∃x o v,X.env.cells.lookup x=a8 b/\X.fn x=ae/\H2 b=a8 (.frz o (.own 0))/\s'.heap.get? b=a8 o/\o.data=.cell v
def Ext.refl{X:Cx}{H:Hp}{s':aq}:Ext X H H s':=λ_=>.inl rfl
def SP(X:Cx)(pins:k8x)(D:Ends)(f:Flow)(s':aq):Prop :=
 match f with
 |.next=>∃σ' H',Inv X pins σ' H' s'/\D.nx σ' H'
 |.brk=>∃σ' H',Inv X pins σ' H' s'/\D.bk σ' H'
 |.cont=>∃σ' H',Inv X pins σ' H' s'/\D.ct σ' H'
 |.ret u=>∃v σ' H' H2,Inv X pins σ' H' s'/\RelV v u/\Ext X H' H2 s'/\D.rt v H2
def PE(X:Cx)(e:au)(t:TE):Prop :=
 ∀(pins:k8x) (s:aq) (σ:St) (H:Hp) (Q:VK),Inv X pins σ H s->t σ H Q->av (aC X.prog X.w) X.A (aD e X.env) (EP X pins σ Q) X.xe s
def PT(X:Cx)(e:au)(t:TT):Prop :=
 ∀(pins:k8x) (s:aq) (σ:St) (H:Hp) (Q:Bool->Hp->Prop),Inv X pins σ H s->t σ H Q->av (aC X.prog X.w) X.A (i4 e X.env (aD e X.env)) (TP X pins σ Q) X.xe s
def PW(X:Cx)(e:au)(t:TT):Prop :=
 ∀(whole:nG aj)(pins:k8x) (s:aq) (σ:St) (H:Hp) (Q:Bool->Hp->Prop),Inv X pins σ H s->t σ H Q->av (aC X.prog X.w) X.A (i4 e X.env whole) (TP X pins σ Q) X.xe s
def PA(X:Cx)(es:List au)(t:TA):Prop :=
 ∀(pos:aO)(pins:k8x) (s:aq) (σ:St) (H:Hp) (Q:List V->Hp->Prop),Inv X pins σ H s->t σ H Q->av (aC X.prog X.w) X.A (k8 (aU pos (ah es X.env))) (AP X pins σ Q) X.xe s
def PS(X:Cx)(st:aP)(t:TS):Prop :=
 ∀(pins:k8x) (s:aq) (σ:St) (H:Hp) (D:Ends),Inv X pins σ H s->t D σ H->av (aC X.prog X.w) X.A (exec st X.env) (SP X pins D) X.xe s
def PSs(X:Cx)(st:List aP)(t:TS):Prop :=
 ∀(pins:k8x) (s:aq) (σ:St) (H:Hp) (D:Ends),Inv X pins σ H s->t D σ H->av (aC X.prog X.w) X.A (execs st X.env) (SP X pins D) X.xe s
def thn{α:Type}{t:nG α}{Q Q':α->aq->Prop}{M:jT}{A:aF}{E:k8w}{s:aq}(h:av M A t Q E s)(hQ:∀a s,Q a s->Q' a s):av M A t Q' E s:=bV h hQ λ_ _ x=>x
section
variable{X:Cx}
def bin{a b:au}{ta tb:TE}(ha:PE X a ta)(hb:PE X b tb){pins:k8x}{s:aq}{σ:St}{H:Hp}{R:V->V->Hp->Prop}(I:Inv X pins σ H s)(h:ta σ H λx H1=>tb σ H1 λy H2=>R x y H2)
  {α:Type} {Q:α->aq->Prop} {f:aj->aj->nG α}
  (hf:∀v u s2 x y H2,Inv X pins σ H2 s2->RelV x v->RelV y u->R x y H2->av (aC X.prog X.w) X.A (f v u) Q X.xe s2) :
  av (aC X.prog X.w) X.A (aD a X.env) (λv s₁=>av (aC X.prog X.w) X.A (aD b X.env) (λu s₂=>av (aC X.prog X.w) X.A (f v u) Q X.xe s₂) X.xe s₁) X.xe s:=by
 refine thn (ha pins s σ H _ I h) λv s1 ⟨x,H1,I1,r1,q1⟩=>?_;refine thn (hb pins s1 σ H1 _ I1 q1) λu s2 ⟨y,H2,I2,r2,q2⟩=>?_;exact hf v u s2 x y H2 I2 r1 r2 q2
def jk0(i:Nat):TE:=λσ H Q=>∃v,σ[i]?=a8 (a8 v)/\Q v H
def tC(v:V):TE:=λ_ H Q=>Q v H
def v4 {i:Nat} {x:ar} {pos:aO} (hN:X.N[i]?=a8 x) (hv:Vis X.env.scope x) (hd:(x==k8z)=aa:=by decide) (hcd:(x==k90)=aa:=by decide):PE X (.Name x pos) (jk0 i):=by
 intro pins s σ H Q I h;obtain⟨v,e,h⟩:=h;obtain⟨m,hn,hl⟩:=I.loc;obtain⟨u,r,l⟩:=hl i x v hN e hv;have fin:EP X pins σ Q u s:=⟨v,H,I,r,h⟩
 rcases l with ⟨hk,hm⟩|⟨hk,c,hc,hcell⟩
 .exact ly (wpAny_loadName_local I.ok.kind hk hn hm fin) hd
 .rcases hk with hk|hk
  .exact ly (wpAny_loadName_cell I.ok.kind hk hc hcell fin) hd
  .exact ly (wpAny_loadName_free I.ok.kind hk hc hcell fin hcd) hd
def Bo{i j pos}:PE X (.Constant (.int i) j pos) (tC (.int i)):=λ_ _ _ H _ I h=>wpAny_Constant_int ⟨.int i,H,I.tok _,⟨_,rfl⟩,h⟩
def j2u{b j pos}:PE X (.Constant (.bool b) j pos) (tC (.bl b)):=λ_ _ _ H _ I h=>Constant_bool ⟨.bl b,H,I,rfl,h⟩
def j4g{x j pos}:PE X (.Constant (.str x) j pos) (tC (.str x)):=λ_ _ _ H _ I h=>Calls.Constant_str ⟨.str x,H,I.tok _,⟨_,rfl⟩,h⟩
def Gl(X:Cx)(x:ar):Prop:=X.env.kindOf x=a8 .globalImplicit
def Mg{E:k8w}{pins:k8x}{s:aq}{σ:St}{H:Hp}{x:ar}{u:aj}{pos:aO}{Q:k8w}(I:Inv X pins σ H s)(hg:Gl X x)(hm:X.mg x=a8 u)(h:Q u s)
  (hd:(x==k8z)=aa:=by decide):av (aC X.prog X.w) X.A (aD (.Name x pos) X.env) Q E s :=
 ic I.ok.kind hg (Calls.loadGlobal_global (by rw[I.ok.glob];exact I.mod.glob.keeps I.bk) hm h) hd
def Jx{E:k8w}{pins:k8x}{s:aq}{σ:St}{H:Hp}{x:ar}{u:aj}{pos:aO}{Q:k8w}(I:Inv X pins σ H s)(hg:Gl X x)(hm:X.mg x=af)(hv:bA x=a8 u)(h:Q u s)
  (hn:x ≠ "__name__":=by decide) (hd:(x==k8z)=aa:=by decide):av (aC X.prog X.w) X.A (aD (.Name x pos) X.env) Q E s:=by
 obtain⟨mb,h1,h2⟩:=I.mod.blt;exact ic I.ok.kind hg (Calls.loadGlobal_builtin (by rw[I.ok.glob];exact I.mod.glob.keeps I.bk) hm (by rw[I.ok.blt];exact h1.keeps I.bk) ((h2 x hn).trans hv) h) hd
def jb9 {x:ar} {v:V} {u:aj} {pos:aO} (hg:Gl X x) (hm:X.mg x=a8 u) (r:RelV v u) (hd:(x==k8z)=aa:=by decide):PE X (.Name x pos) (tC v) :=
 λ_ _ _ H _ I h=>Mg I hg hm ⟨v,H,I,r,h⟩ hd
def jbb {x:ar} {v:V} {u:aj} {pos:aO} (hg:Gl X x) (hm:X.mg x=af) (hv:bA x=a8 u) (r:RelV v u) (hn:x ≠ "__name__":=by decide) (hd:(x==k8z)=aa:=by decide):PE X (.Name x pos) (tC v) :=
 λ_ _ _ H _ I h=>Jx I hg hm hv ⟨v,H,I,r,h⟩ hn hd
def t2I(ta tb:TE)(k:Int->Int->Hp->Prop):St->Hp->Prop:=λσ H=>ta σ H λx H1=>tb σ H1 λy H2=>∃i j,x=.int i/\y=.int j/\k i j H2
def jkd(ta tb:TE):TE:=λσ H Q=>t2I ta tb (λi j H2=>Q (.int (i+j)) H2) σ H
variable{a b:au}{ta tb:TE}{pos:aO}
def jej(ha:PE X a ta)(hb:PE X b tb):PE X (.BinOp a .Add b pos) (jkd ta tb):=by intro pins s σ H Q I h;refine wpAny_BinOp (bin ha hb I h λv u s2 x y H2 I2 rx ry q=>?_);obtain⟨i,j,rfl,rfl,q⟩:=q;obtain⟨t,rfl⟩:=rx;obtain⟨t',rfl⟩:=ry;exact add_int ⟨.int _,H2,I2.tok _,⟨_,rfl⟩,q⟩
def PC(X:Cx)(op:iI)(a b:au)(t:TE):Prop :=
 ∀(pins:k8x) (s:aq) (σ:St) (H:Hp) (Q:VK),Inv X pins σ H s->t σ H Q ->
  av (aC X.prog X.w) X.A (aD a X.env) (λv s₁=>av (aC X.prog X.w) X.A (aD b X.env) (λu s₂=>av (aC X.prog X.w) X.A (aX op v u) (EP X pins σ Q) X.xe s₂) X.xe s₁) X.xe s
def Eh(b:au){op:iI}(h:op≠.In)(h2:op≠.NotIn):aG op b=aa:=by
 have e1:(op==CmpOp.In)=aa:=by cases op<;>first|rfl|exact absurd rfl h
 have e2:(op==CmpOp.NotIn)=aa:=by cases op<;>first|rfl|exact absurd rfl h2
 cases b<;>simp[aG,e1,e2]
def jk7(ta:TE):TE:=λσ H Q=>ta σ H λx H1=>Q (.bl (decide (x=.non))) H1
def RelV.none_iff{x:V}{v:aj}(r:RelV x v):(v==b8)=decide (x=.non):=by
 cases x with
 |non=>cases r;rfl
 |bl _=>cases r;rfl
 |int _=>obtain⟨t,rfl⟩:=r;rfl
 |str _=>obtain⟨t,rfl⟩:=r;rfl
 |byt _=>obtain⟨t,rfl⟩:=r;rfl
 |flt _=>obtain⟨t,rfl⟩:=r;rfl
 |ref _=>cases r;rfl
 |ty _=>cases r;rfl
def j4j{j pos'}(ha:PE X a ta):PC X .Is a (.Constant .none j pos') (jk7 ta):=by intro pins s σ H Q I h;refine thn (ha pins s σ H _ I h) λv s1 ⟨x,H1,I1,r1,q1⟩=>?_;exact Constant_none (is_none_gen ⟨.bl _,H1,I1,by rw[r1.none_iff];rfl,q1⟩)
def tB(t:TE):TT:=λσ H Q=>t σ H λx H1=>∃c,x=.bl c/\Q c H1
def jeg{op:iI}{t:TE}(h:PC X op a b t)(h1:aG op b=aa:=by first|exact Eh _ (by decide) (by decide)|rfl):PE X (.Compare a [op] [b] pos) t:=λpins s σ H Q I hw=>nR (h pins s σ H Q I hw) h1
def je9{op:iI}{t:TE}(h:PC X op a b t)(h1:aG op b=aa:=by first|exact Eh _ (by decide) (by decide)|rfl):PT X (.Compare a [op] [b] pos) (tB t):=by intro pins s σ H Q I hw;refine kn (thn (h pins s σ H _ I hw) λv s1 h1=>thn h1 λu s2 h2=>thn h2 λc s3 ⟨x,H1,I1,r1,q1⟩=>?_) h1;obtain⟨d,rfl,q⟩:=q1;cases r1;exact br ⟨H1,I1,q⟩
def je7{e:au}{t:TE}(h:PE X e t)(he:∀whole,i4 e X.env whole=(do let v <-whole;eS e.pos;gw [v] (truthy v)):=by intro _;rfl):PT X e (tB t):=by intro pins s σ H Q I hw;refine isTrue_plain (thn (h pins s σ H _ I hw) λv s1 ⟨x,H1,I1,r1,q1⟩=>?_) (he _);obtain⟨d,rfl,q⟩:=q1;cases r1;exact br ⟨H1,I1,q⟩
variable{tA tB':TT}{rest:List au}
def jkc(t u:TT):TT:=λσ H Q=>t σ H λc H1=>if c=ae then u σ H1 Q else Q aa H1
def tOr(t u:TT):TT:=λσ H Q=>t σ H λc H1=>if c=ae then Q ae H1 else u σ H1 Q
def jk5(t:TT):TT:=λσ H Q=>t σ H λc H1=>Q (!c) H1
def jb3(ha:PT X a tA):PW X (.BoolOp .And [a] pos) tA:=by
 intro wh pins s σ H Q I h;refine isTrue_and (thn (ha pins s σ H Q I h) λc s1 e=>?_);cases c with
 |true=>exact isTrue_and_nil e
 |false=>exact e
def je5(ha:PT X a tA):PW X (.BoolOp .Or [a] pos) tA:=by
 intro wh pins s σ H Q I h;refine isTrue_or (thn (ha pins s σ H Q I h) λc s1 e=>?_);cases c with
 |false=>exact isTrue_or_nil e
 |true=>exact e
def je6(ha:PT X a tA)(hb:PW X (.BoolOp .And (b::rest) pos) tB'):PW X (.BoolOp .And (a::b::rest) pos) (jkc tA tB'):=by
 intro wh pins s σ H Q I h;refine isTrue_and (thn (ha pins s σ H _ I h) λc s1 ⟨H1,I1,q1⟩=>?_);cases c with
 |true=>exact hb wh pins s1 σ H1 Q I1 q1
 |false=>exact⟨H1,I1,q1⟩
def jic(ha:PT X a tA)(hb:PW X (.BoolOp .Or (b::rest) pos) tB'):PW X (.BoolOp .Or (a::b::rest) pos) (tOr tA tB'):=by
 intro wh pins s σ H Q I h;refine isTrue_or (thn (ha pins s σ H _ I h) λc s1 ⟨H1,I1,q1⟩=>?_);cases c with
 |true=>exact⟨H1,I1,q1⟩
 |false=>exact hb wh pins s1 σ H1 Q I1 q1
def je8(ha:PT X a tA):PT X (.UnaryOp .Not a pos) (jk5 tA):=by intro pins s σ H Q I h;exact isTrue_not (ha pins s σ H (λc H1=>Q (!c) H1) I h)
def jhx(ta tb:TE):TE:=λσ H Q=>ta σ H λx H1=>∃c,x=.bl c/\if c=ae then tb σ H1 Q else Q (.bl aa) H1
def jk4(ta tb:TE):TE:=λσ H Q=>ta σ H λx H1=>∃c,x=.bl c/\if c=ae then Q (.bl ae) H1 else tb σ H1 Q
def j4h{op}{t:TE}(h:PE X a t):PE X (.BoolOp op [a] pos) t:=λpins s σ H Q I hw=>BoolOp_one (h pins s σ H Q I hw)
def jei(ha:PE X a ta)(hb:PE X (.BoolOp .And (b::rest) pos) tb):PE X (.BoolOp .And (a::b::rest) pos) (jhx ta tb):=by
 intro pins s σ H Q I h;refine BoolOp_and (thn (ha pins s σ H _ I h) λv s1 ⟨x,H1,I1,r1,q1⟩=>?_);obtain⟨c,rfl,q1⟩:=q1;cases r1;refine br ?_;cases c with
 |true=>exact hb pins s1 σ H1 Q I1 q1
 |false=>exact⟨.bl aa,H1,I1,rfl,q1⟩
def jif(ha:PE X a ta)(hb:PE X (.BoolOp .Or (b::rest) pos) tb):PE X (.BoolOp .Or (a::b::rest) pos) (jk4 ta tb):=by
 intro pins s σ H Q I h;refine BoolOp_or (thn (ha pins s σ H _ I h) λv s1 ⟨x,H1,I1,r1,q1⟩=>?_);obtain⟨c,rfl,q1⟩:=q1;cases r1;refine br ?_;cases c with
 |false=>exact hb pins s1 σ H1 Q I1 q1
 |true=>exact⟨.bl ae,H1,I1,rfl,q1⟩
def tIf(t:TT)(ta tb:TE):TE:=λσ H Q=>t σ H λc H1=>if c=ae then ta σ H1 Q else tb σ H1 Q
def Eb{c:au}(hc:PT X c tA)(ha:PE X a ta)(hb:PE X b tb):PE X (.IfExp c a b pos) (tIf tA ta tb):=by
 intro pins s σ H Q I h;refine wpAny_IfExp (thn (hc pins s σ H _ I h) λd s1 ⟨H1,I1,q1⟩=>?_);cases d with
 |true=>exact ha pins s1 σ H1 Q I1 q1
 |false=>exact hb pins s1 σ H1 Q I1 q1
end
def SqL(K:k8v)(H:Hp)(a:ai)(xs:List V):Prop :=
 Rd H a (.lst xs) \/
  ∃(o:dF)(its:Array aj)(n:Nat),K.lookup a=a8 o/\o.cls=.type "list"/\o.dict=af/\o.data=.seq its n/\its.size<=aw/\Vals xs its.toList
def SqT(K:k8v)(H:Hp)(a:ai)(xs:List V):Prop :=
 Rd H a (.tup xs) \/
  ∃(o:dF)(its:Array aj)(n:Nat),K.lookup a=a8 o/\o.cls=.type "tuple"/\o.dict=af/\o.data=.seq its n/\its.size<=aw/\Vals xs its.toList
noncomputable def jl8:aj->Option V
 |.none=>a8 .non
 |.bool b=>a8 (.bl b)
 |.int i _=>a8 (.int i)
 |.str x _=>a8 (.str x)
 |.bytes b _=>a8 (.byt b)
 |.float b _=>a8 (.flt b)
 |.ref a=>a8 (.ref a)
 |.type n=>a8 (.ty n)
 |_=>af
def RelV.abs{x:V}{u:aj}(r:RelV x u):jl8 u=a8 x:=by
 cases x with
 |non=>cases r;rfl
 |bl _=>cases r;rfl
 |int _=>obtain⟨t,rfl⟩:=r;rfl
 |str _=>obtain⟨t,rfl⟩:=r;rfl
 |byt _=>obtain⟨t,rfl⟩:=r;rfl
 |flt _=>obtain⟨t,rfl⟩:=r;rfl
 |ref _=>cases r;rfl
 |ty _=>cases r;rfl
def RelV.inj{x y:V}{u:aj}(r:RelV x u)(q:RelV y u):x=y:=ax (r.abs.symm.trans q.abs)
theorem Vals.inj:∀{xs ys:List V}{us:List aj},Vals xs us->Vals ys us->xs=ys
 |_,_,_,.nil,.nil=>rfl
 |_,_,_,.cons r t,.cons r' t'=>by rw[r.inj r',Vals.inj t t']
section
variable{X:Cx}{pins:k8x}{σ:St}{H:Hp}{s:aq}{a:ai}{xs ys:List V}
def Inv.list(I:Inv X pins σ H s)(h:SqL X.K H a xs):∃its:List aj,Vals xs its/\PlainL s.heap a its.toArray/\xs.length<=aw:=by
 rcases h with h|⟨o,its,n,hk,hc,hd,hs,hz,r⟩
 .obtain⟨z,its,n,r,e⟩:=h.ok I.hok;exact⟨its,r,⟨_,n,e,rfl,rfl,rfl⟩,z⟩
 .refine⟨its.toList,r,⟨o,n,I.kIn a o hk,hc,hd,by simpa using hs⟩,?_⟩;have e:=r.length;simp only[cM]at e;omega
def Inv.tuple(I:Inv X pins σ H s)(h:SqT X.K H a xs):∃its:List aj,Vals xs its/\iJ s.heap a its.toArray/\xs.length<=aw:=by
 rcases h with h|⟨o,its,n,hk,hc,hnd,hs,hz,r⟩
 .obtain⟨z,its,r,p,_⟩:=h.ok I.hok;exact⟨its,r,p,z⟩
 .refine⟨its.toList,r,⟨o,I.kIn a o hk,hc,n,by simpa using hs⟩,?_⟩;have e:=r.length;simp only[cM]at e;omega
def Inv.tupD(I:Inv X pins σ H s)(h:SqT X.K H a xs):Zz s.heap a:=by
 rcases h with h|⟨o,its,n,hk,hc,hnd,hs,hz,r⟩
 .obtain⟨z,its,r,p,q⟩:=h.ok I.hok;exact q
 .intro o' e;rw[I.kIn a o hk]at e;cases e;exact hnd
def Inv.list_inj(I:Inv X pins σ H s)(h:SqL X.K H a xs)(h':SqL X.K H a ys):xs=ys:=by
 obtain⟨its,r,⟨o,n,e,_,_,d⟩,_⟩:=I.list h;obtain⟨its',r',⟨o',n',e',_,_,d'⟩,_⟩:=I.list h';rw[e]at e';cases e';rw[d]at d';injection d' with d1 _;have:its=its':=by simpa using congrArg lI d1
 subst this;exact r.inj r'
def Inv.tuple_inj(I:Inv X pins σ H s)(h:SqT X.K H a xs)(h':SqT X.K H a ys):xs=ys:=by
 obtain⟨its,r,⟨o,e,_,n,d⟩,_⟩:=I.tuple h;obtain⟨its',r',⟨o',e',_,n',d'⟩,_⟩:=I.tuple h';rw[e]at e';cases e';rw[d]at d';injection d' with d1 _;have:its=its':=by simpa using congrArg lI d1
 subst this;exact r.inj r'
end
noncomputable abbrev Cx.wish(X:Cx)(E:k8w):Cx:={ X with xe:=E }
noncomputable abbrev Cx.nox(X:Cx):Cx:=X.wish λ_ _=>False
theorem Cx.Ok.wish{X:Cx}(ok:X.Ok)(E:k8w):(X.wish E).Ok :=
 ⟨ok.mod,ok.kind,ok.glob,ok.blt,ok.above,ok.inj,ok.has,ok.cab,ok.hd,ok.frames,ok.stk,ok.exf,ok.bs,ok.bsz,ok.noex,ok.exfs,ok.funs,ok.frf⟩
def Cx.Ok.unwish{X:Cx}{E:k8w}(ok:(X.wish E).Ok):X.Ok :=
 ⟨ok.mod,ok.kind,ok.glob,ok.blt,ok.above,ok.inj,ok.has,ok.cab,ok.hd,ok.frames,ok.stk,ok.exf,ok.bs,ok.bsz,ok.noex,ok.exfs,ok.funs,ok.frf⟩
section
variable{X:Cx}{pins:k8x}{σ:St}{H:Hp}{s:aq}{E:k8w}
theorem Inv.wish(I:Inv X pins σ H s)(E:k8w):Inv (X.wish E) pins σ H s:=⟨I.ok.wish E,I.os,I.bare,I.base,I.loc,I.cell,I.free,I.freeC,I.pin,I.hok,I.len⟩
theorem Inv.unwish(I:Inv (X.wish E) pins σ H s):Inv X pins σ H s:=⟨I.ok.unwish,I.os,I.bare,I.base,I.loc,I.cell,I.free,I.freeC,I.pin,I.hok,I.len⟩
theorem SP.unwish{D:Ends}{f:Flow}{s':aq}(h:SP (X.wish E) pins D f s'):SP X pins D f s':=by
 cases f with
 |next=>obtain⟨σ',H',I,q⟩:=h;exact⟨σ',H',I.unwish,q⟩
 |brk=>obtain⟨σ',H',I,q⟩:=h;exact⟨σ',H',I.unwish,q⟩
 |cont=>obtain⟨σ',H',I,q⟩:=h;exact⟨σ',H',I.unwish,q⟩
 |ret u=>obtain⟨v,σ',H',H2,I,r,x,q⟩:=h;exact⟨v,σ',H',H2,I.unwish,r,x,q⟩
theorem PSs.nox{st:List aP}{t:TS}(h:PSs X.nox st t):PSs X st t:=λpins s σ H D I hw =>bV (h pins s σ H D (I.wish _) hw) (λ_ _ q=>q.unwish) λ_ _ z=>bp z
end
section
variable{X:Cx}{st:aP}{rest:List aP}{t u:TS}{e:au}{te:TE}{pos:aO}
def jhs:TS:=λD σ H=>D.nx σ H
def jk2(t u:TS):TS:=λD σ H=>t { D with nx:=u D } σ H
def Uq:PSs X [] jhs:=λ_ _ σ H _ I h=>fJ ⟨σ,H,I,h⟩
def qw(h1:PS X st t)(h2:PSs X rest u):PSs X (st::rest) (jk2 t u):=by
 intro pins s σ H D I h;refine mn (thn (h1 pins s σ H { D with nx:=u D } I h) λf s1 q=>?_);cases f with
 |next =>obtain⟨σ',H',I',q⟩:=q;exact h2 pins s1 σ' H' D I' q
 |ret v=>exact q
 |brk=>exact q
 |cont=>exact q
def Up(h1:PS X st t):PSs X [st] t:=by
 intro pins s σ H D I h;refine mn (thn (h1 pins s σ H D I h) λf s1 q=>?_);cases f with
 |next=>exact fJ q
 |ret v=>exact q
 |brk=>exact q
 |cont=>exact q
def Inv.quiet{pins:k8x}{σ:St}{H:Hp}{s:aq}(I:Inv X pins σ H s):interactive X.env=aa:=by simp[interactive,I.ok.kind]
def jht(te:TE):TS:=λD σ H=>te σ H λ_ H1=>D.nx σ H1
def Y5(he:PE X e te)(hs:aJ e af pos.line X.env=pure aa:=by rfl):PS X (.Expr e pos) (jht te):=by intro pins s σ H D I h;exact wpAny_Expr_any (thn (he pins s σ H _ I h) λv s1 ⟨x,H1,I1,r1,q1⟩=>⟨σ,H1,I1,q1⟩) I.quiet hs
def jk3(te:TE):TS:=λD σ H=>te σ H D.rt
def Zj(he:PE X e te):PS X (.Return (a8 e) pos) (jk3 te):=by intro pins s σ H D I h;exact wpAny_Return_some (thn (he pins s σ H _ I h) λv s1 ⟨x,H1,I1,r1,q1⟩=>⟨x,σ,H1,H1,I1,r1,.refl,q1⟩)
def jk8(c:TT)(t u:TS):TS:=λD σ H=>c σ H λb H1=>if b=ae then t D σ H1 else u D σ H1
def Kf{c:au}{a b:List aP}{tc:TT}(hc:PT X c tc)(ha:PSs X a t)(hb:PSs X b u):PS X (.If c a b pos) (jk8 tc t u):=by
 intro pins s σ H D I h;refine wpAny_If (thn (hc pins s σ H _ I h) λd s1 ⟨H1,I1,q1⟩=>?_);cases d with
 |true=>exact ha pins s1 σ H1 D I1 q1
 |false=>exact hb pins s1 σ H1 D I1 q1
end
abbrev TG:=V->St->Hp->(St->Hp->Prop)->Prop
abbrev TGs:=List V->St->Hp->(St->Hp->Prop)->Prop
def PG(X:Cx)(target:au)(t:TG):Prop :=
 ∀(pins:k8x) (s:aq) (σ:St) (H:Hp) (v:V) (u:aj) (Q:St->Hp->Prop),Inv X pins σ H s->RelV v u->t v σ H Q ->
  av (aC X.prog X.w) X.A (gp target X.env u) (λ_ s'=>∃σ' H',Inv X pins σ' H' s'/\Q σ' H') X.xe s
def PGs(X:Cx)(ts:List au)(t:TGs):Prop :=
 ∀(pins:k8x) (s:aq) (σ:St) (H:Hp) (vs:List V) (us:List aj) (Q:St->Hp->Prop),Inv X pins σ H s->Vals vs us->t vs σ H Q ->
  av (aC X.prog X.w) X.A (assignInOrder ((cn ts X.env).map (·.2)) us) (λ_ s'=>∃σ' H',Inv X pins σ' H' s'/\Q σ' H') X.xe s
section
variable{X:Cx}{pos:aO}
def Kg(i:Nat):TG:=λv σ H Q=>Q (σ.set i (a8 v)) H
def Y6{i:Nat}{x:ar}(hN:X.N.Nodup)(hi:X.N[i]?=a8 x)(hx:Loc X.env.scope x)(hf:X.fn x=ae\/X.env.scope.names.lookup x=a8 .local:=by first|exact .inl rfl|exact .inr rfl|assumption):PG X (.Name x pos) (Kg i):=by intro pins s σ H v u Q I r h;exact lP (Ia I hN hi hx r (λs' I'=>⟨_,H,I',h⟩) hf)
def jl2:TGs:=λvs σ H Q=>vs=[]/\Q σ H
def jj4(t:TG)(u:TGs):TGs:=λvs σ H Q=>∃v r,vs=v::r/\t v σ H λσ' H'=>u r σ' H' Q
def jb8:PGs X [] jl2:=by intro pins s σ H vs us Q I r h;obtain⟨e,h⟩:=h;subst e;cases r;exact assignInOrder_nil ⟨σ,H,I,h⟩
def Iz{e:au}{es:List au}{t:TG}{u:TGs}(h1:PG X e t)(h2:PGs X es u)
  (hs:(cn (e::es) X.env).map (·.2)=gp e X.env::(cn es X.env).map (·.2):=by rfl):PGs X (e::es) (jj4 t u):=by
 intro pins s σ H vs us Q I r h;obtain⟨v,vr,e1,h⟩:=h;subst e1;cases r with
 |cons r rr =>rw[hs];refine assignInOrder_cons (thn (h1 pins s σ H _ _ _ I r h) λ_ s1 ⟨σ1,H1,I1,q1⟩=>?_);exact h2 pins s1 σ1 H1 _ _ Q I1 rr q1
def jl1(K:k8v)(n:Nat)(t:TGs):TG:=λv σ H Q=>∃a xs,v=.ref a/\SqT K H a xs/\xs.length=n/\t xs σ H Q
def jee{es:List au}{k:Nat}{t:TGs}{n:Nat}(hc:X.calm=ae)(h:PGs X es t)
  (hn:(cn es X.env).length=n:=by rfl) (hst:(cn es X.env).findIdx? (·.1)=af:=by rfl):PG X (.Tuple es k pos) (jl1 X.K n t):=by
 intro pins s σ H v u Q I r hw;obtain⟨a,xs,e1,hq,hl,hw⟩:=hw;subst e1;cases r;obtain⟨its,rv,ht,hz⟩:=I.tuple hq;refine assign_Tuple_tuple (I.ok.hd hc) ht (by simp[hn,<-hl,rv.length]) hst λh' hx=>?_;have I1:Inv X pins σ H { s with heap:=h' }:=I.kept (t':=s.toks) λb o e=>hx b o (Xa (xx e)) e;exact h pins _ σ H xs _ Q I1 (by simpa using rv) hw
def jkb(te:TE)(g:TG):TS:=λD σ H=>te σ H λx H1=>g x σ H1 D.nx
def Qx{i:Nat}{x:ar}{e:au}{te:TE}{pos':aO}(hN:X.N.Nodup)(hi:X.N[i]?=a8 x)(hx:Loc X.env.scope x)(he:PE X e te)(hs:aJ e (a8 (.Name x pos')) pos.line X.env=pure aa:=by rfl)(hf:X.fn x=ae\/X.env.scope.names.lookup x=a8 .local:=by first|exact .inl rfl|exact .inr rfl|assumption) :
  PS X (.Assign [.Name x pos'] e pos) (jkb te (Kg i)):=by
 intro pins s σ H D I h;refine wpAny_Assign_Name (thn (he pins s σ H _ I h) λv s1 ⟨y,H1,I1,r1,q1⟩=>?_) hs;exact Ia I1 hN hi hx r1 (λs2 I2=>⟨_,H1,I2,q1⟩) hf
end
section
variable{X:Cx}{pos:aO}
def jdl(c:TT)(tb:TS):TS:=λD σ H=>∃W:Nat->St->Hp->Prop,(∃m,W m σ H)/\∀m σ H,W m σ H ->
 c σ H λb H1=>if b=ae then ∃N:St->Hp->Prop,(∀σ' H',N σ' H'->∃m',m'<m/\W m' σ' H')/\tb { D with nx:=N,ct:=N,bk:=D.nx } σ H1 else D.nx σ H1
def j71{c:au}{body:List aP}{tc:TT}{tb:TS}(hp:fv (aC X.prog X.w) X.A X.env X.xe)(hc:PT X c tc)(hb:PSs X body tb):PS X (.While c body [] pos) (jdl tc tb):=by
 intro pins s σ H D I h;obtain⟨W,⟨m0,w0⟩,turn⟩:=h;refine wpAny_While (codeAny_whileLoop (λn s'=>∃σ' H',Inv X pins σ' H' s'/\W n σ' H') ?_ m0 ⟨σ,H,I,w0⟩);rintro n s1 ⟨σ1,H1,I1,w1⟩;refine cB hp (thn (hc pins s1 σ1 H1 _ I1 (turn n σ1 H1 w1)) λb s2 ⟨H2,I2,q2⟩=>?_);cases b with
 |true =>
  obtain⟨N,hN,q2⟩:=q2;rw[if_pos rfl];refine cB hp (thn (hb pins s2 σ1 H2 _ I2 q2) λf s3 q3=>?_);cases f with
  |next =>obtain⟨σ3,H3,I3,n3⟩:=q3;obtain⟨m',hm,w3⟩:=hN σ3 H3 n3;exact⟨m',hm,σ3,H3,I3,w3⟩
  |cont =>obtain⟨σ3,H3,I3,n3⟩:=q3;obtain⟨m',hm,w3⟩:=hN σ3 H3 n3;exact⟨m',hm,σ3,H3,I3,w3⟩
  |brk=>exact q3
  |ret v=>exact q3
 |false =>rw[if_neg xj];exact fJ ⟨σ1,H2,I2,q2⟩
end
structure It where
 go:Nat->Hp->Prop
 yld:Nat->Hp->V->Hp->Prop
 stop:Nat->Hp->Prop
def v6(X:Cx)(pins:k8x)(H:Hp)(b:ai):Prop :=
 H b=af/\b≠X.env.locals/\b∉X.fs/\(b∈X.ex\/X.s₀.heap.objs.size<=b)/\(∀x c,X.env.cells.lookup x=a8 c->c≠b)/\∀p∈X.pn++pins,p.1≠b
def Inv.fpOk{X:Cx}{pins:k8x}{σ:St}{H H':Hp}{s:aq}{b:ai}(I:Inv X pins σ H s)(hb:s.heap.objs.size<=b)(hn:H' b=af):v6 X pins H' b:=by
 refine⟨hn,P0 (Xq I.lt hb),I.nofs hb,.inr (Xd I.sz hb),λx c e z=>?_,λp hp z=>?_⟩
 .obtain⟨v,q⟩:=I.cell x c e;exact absurd (Xq q.lt (by rw[z];exact hb)) (tu _)
 .exact absurd (Xq (xx (I.pin p hp).1) (by rw[z];exact hb)) (tu _)
structure Turn(P:az)(w:aE)(K:k8v)(tg:au)(J:It)(fp:List ai)(it:ai)(tn:Nat->aH->Prop):Prop where
 mem:it∈fp
 obj:∀i h,tn i h->∀b∈fp,∃o,h.get? b=a8 o/\∀v,o.data≠.cell v
 keep:∀i h h',tn i h->(∀b∈fp,∀o,h.get? b=a8 o->h'.get? b=a8 o)->tn i h'
 item:∀(X:Cx),X.prog=P->X.w=w->X.K=K->X.calm=ae->∀(i:Nat)(pins:k8x) (s:aq) (σ:St) (H:Hp) (E:k8w),Inv X pins σ H s->(∀b∈fp,v6 X pins H b)->tn i s.heap->J.go i H ->
  av (aC P w) X.A (cD (.ref it)) (λr s1=>∃u,r=a8 u /\
   av (aC P w) X.A (fK tg (.ref it) u) (λ_ s2=>∃x H',Inv X pins σ H' s2/\RelV x u/\J.yld i H x H'/\tn (i+1) s2.heap/\∀b∈fp,H' b=af) E s1) E s
 done:∀(X:Cx),X.prog=P->X.w=w->X.K=K->X.calm=ae->∀(i:Nat)(pins:k8x) (s:aq) (σ:St) (H:Hp) (E:k8w),Inv X pins σ H s->(∀b∈fp,v6 X pins H b)->tn i s.heap->J.stop i H ->
  av (aC P w) X.A (cD (.ref it)) (λr s1=>r=af/\Inv X pins σ H s1) E s
 self:∀(A:aF)(i:Nat)(s:aq)(Q:k8w)(E:k8w),tn i s.heap->Q (.ref it) s->av (aC P w) A (iA (.ref it)) Q E s
abbrev TI:=St->Hp->(It->Hp->Prop)->Prop
def PIE(X:Cx)(pins:k8x)(σ:St)(tg:au)(R:It->Hp->Prop)(itv:aj)(s2:aq):Prop :=
 ∃(it:ai)(fp:List ai)(tn:Nat->aH->Prop)(J:It)(H':Hp),itv=.ref it/\Inv X pins σ H' s2/\Turn X.prog X.w X.K tg J fp it tn/\tn 0 s2.heap/\(∀b∈fp,v6 X pins H' b)/\R J H'
def PI(X:Cx)(tg iter:au)(wi:TI):Prop :=
 ∀(pins:k8x) (s:aq) (σ:St) (H:Hp) (R:It->Hp->Prop),Inv X pins σ H s->wi σ H R ->
  av (aC X.prog X.w) X.A (aD iter X.env) (λv s1=>av (aC X.prog X.w) X.A (iA v) (PIE X pins σ tg R) X.xe s1) X.xe s
def N6{M:jT}{A:aF}{E:k8w}{s:aq}{tg:au}{it:ai}{u:aj}{o:dF}{n:String}{vs:Array aj}{Q:Unit->aq->Prop}(ho:s.heap.get? it=a8 o)(hc:o.cls=.type n)(hd:o.data=.fields vs)
  (hn:["enumerate","zip","dict_itemiterator","dict_reverseitemiterator","odict_iterator","itertools.zip_longest","itertools.pairwise"].contains n=aa) (hQ:Q () s):av M A (fK tg (.ref it) u) Q E s:=by
 unfold fK;cases tg<;>first
  |exact ak hQ
  |(cases u<;>first
    |exact ak hQ
    |(refine a9 (wpAny_load ho ?_);rw[hc,hd];show av M A (if (["enumerate","zip","dict_itemiterator","dict_reverseitemiterator","odict_iterator","itertools.zip_longest","itertools.pairwise"].contains n&&vs[0]?==a8 (eZ _))=ae then _ else _) Q E s;rw[if_neg (by intro h;rw[hn,l9]at h;cases h)];exact ak hQ))
noncomputable def Itl(K:k8v)(a:ai):It :=
 ⟨λi H=>∃xs x,SqL K H a xs/\xs[i]?=a8 x,λi H x H'=>H'=H/\∀xs,SqL K H a xs->xs[i]?=a8 x,λi H=>∃xs,SqL K H a xs/\xs.length<=i⟩
noncomputable def Itt(K:k8v)(a:ai):It :=
 ⟨λi H=>∃xs x,SqT K H a xs/\xs[i]?=a8 x,λi H x H'=>H'=H/\∀xs,SqT K H a xs->xs[i]?=a8 x,λi H=>∃xs,SqT K H a xs/\xs.length<=i⟩
noncomputable def Itr(lo:Int)(n:Nat):It:=⟨λi _=>i<n,λi H x H'=>H'=H/\x=.int (lo+i),λi _=>n<=i⟩
def j3x{P:az}{w:aE}{K:k8v}{tg:au}(a it:ai):Turn P w K tg (Itl K a) [it] it (λi h=>h.IsListIter it a i) where
 mem:=by simp
 obj:=λi h st b hb=>by
  have e:b=it:=by simpa using hb
  subst e;obtain⟨o,e,c,d⟩:=st;exact⟨o,e,λv z=>by rw[d]at z;cases z⟩
 keep:=λi h h' st k=>st.at λo e=>k it (by simp) o e
 item:=by intro X hP hw hK hc i pins s σ H E I hf st hg;subst hP hw hK;obtain⟨xs,x,hq,hx⟩:=hg;obtain⟨its,rv,p,hz⟩:=I.list hq;obtain⟨u,hu,ru⟩:=rv.get hx;obtain⟨f0,f1,f2,f3,f4,f5⟩:=hf it (by simp);refine cg st p.isList (x:=u) (by simpa using hu) λh' st' sb=>?_;have I1:Inv X pins σ H { s with heap:=h' }:=I.turned (t':=s.toks) (λb o hb e=>(sb.2 b hb).trans e) f0 f1 f3 f4 f5;obtain⟨o,e,c,d⟩:=id st';exact⟨u,rfl,N6 (s:={ s with heap:=h' }) e c d (by decide) ⟨x,H,I1,ru,⟨rfl,λys hy=>by rw[I.list_inj hy hq];exact hx⟩,st',λb hb=>(hf b hb).1⟩⟩
 done:=by intro X hP hw hK hc i pins s σ H E I hf st hg;subst hP hw hK;obtain⟨xs,hq,hx⟩:=hg;obtain⟨its,rv,p,hz⟩:=I.list hq;obtain⟨f0,f1,f2,f3,f4,f5⟩:=hf it (by simp);have hl:=rv.length;exact dB (I.ok.hd hc) st p.isList (by simp;omega) λh' eb=>⟨rfl,I.turned (t':=s.toks) (λb o hb e=>eb b o hb e) f0 f1 f3 f4 f5⟩
 self:=λ_ _ _ _ _ st h=>wpAny_pyIter_listiter st h
def j2b{P:az}{w:aE}{K:k8v}{tg:au}(a it:ai):Turn P w K tg (Itt K a) [it] it (λi h=>h.IsTupleIter it a i) where
 mem:=by simp
 obj:=λi h st b hb=>by
  have e:b=it:=by simpa using hb
  subst e;obtain⟨o,e,c,d⟩:=st;exact⟨o,e,λv z=>by rw[d]at z;cases z⟩
 keep:=λi h h' st k=>st.at λo e=>k it (by simp) o e
 item:=by intro X hP hw hK hc i pins s σ H E I hf st hg;subst hP hw hK;obtain⟨xs,x,hq,hx⟩:=hg;obtain⟨its,rv,p,hz⟩:=I.tuple hq;obtain⟨u,hu,ru⟩:=rv.get hx;obtain⟨f0,f1,f2,f3,f4,f5⟩:=hf it (by simp);refine wpAny_pyNext_tuple_item st (show s.heap.IsTuple a its.toArray from p) (x:=u) (by simpa using hu) λh' st' sb=>?_;have I1:Inv X pins σ H { s with heap:=h' }:=I.turned (t':=s.toks) (λb o hb e=>(sb.2 b hb).trans e) f0 f1 f3 f4 f5;obtain⟨o,e,c,d⟩:=id st';exact⟨u,rfl,N6 (s:={ s with heap:=h' }) e c d (by decide) ⟨x,H,I1,ru,⟨rfl,λys hy=>by rw[I.tuple_inj hy hq];exact hx⟩,st',λb hb=>(hf b hb).1⟩⟩
 done:=by intro X hP hw hK hc i pins s σ H E I hf st hg;subst hP hw hK;obtain⟨xs,hq,hx⟩:=hg;obtain⟨its,rv,p,hz⟩:=I.tuple hq;obtain⟨f0,f1,f2,f3,f4,f5⟩:=hf it (by simp);have hl:=rv.length;exact wpAny_pyNext_tuple_end (I.ok.hd hc) st (show s.heap.IsTuple a its.toArray from p) (by simp;omega) λh' eb=>⟨rfl,I.turned (t':=s.toks) (λb o hb e=>eb b o hb e) f0 f1 f3 f4 f5⟩
 self:=λ_ _ _ _ _ st h=>wpAny_pyIter_tupleiter st h
def j2c{P:az}{w:aE}{K:k8v}{tg:au}(it:ai)(lo:Int)(n:Nat):Turn P w K tg (Itr lo n) [it] it (λi h=>IsRangeIter h it (lo+(i:Nat)*1) ((n:Int)-(i:Nat)) 1) where
 mem:=by simp
 obj:=λi h st b hb=>by
  have e:b=it:=by simpa using hb
  subst e;exact⟨_,st,λv z=>by
   have z':Data.fields _=Data.cell v:=z
   cases z'⟩
 keep:=λi h h' st k=>k it (by simp) _ st
 item:=by intro X hP hw hK hc i pins s σ H E I hf st hg;subst hP hw hK;obtain⟨f0,f1,f2,f3,f4,f5⟩:=hf it (by simp);have W:=Walks.range (prog:=X.prog) (w:=X.w) (I.ok.hd hc) it lo 1 n;refine W.item i s _ _ hg st λv h' tk hv st' kk=>?_;obtain⟨t,rfl⟩:=hv;have I1:Inv X pins σ H { s with heap:=h',toks:=tk }:=I.turned (λb o hb e=>kk b o (by simpa using hb) e) f0 f1 f3 f4 f5;refine⟨_,rfl,N6 (s:={ s with heap:=h',toks:=tk }) (n:="range_iterator") st' rfl rfl (by decide) ⟨.int (lo+i),H,I1,⟨t,?_⟩,⟨rfl,rfl⟩,st',λb hb=>(hf b hb).1⟩⟩;rw[nK]
 done:=by intro X hP hw hK hc i pins s σ H E I hf st hg;subst hP hw hK;obtain⟨f0,f1,f2,f3,f4,f5⟩:=hf it (by simp);exact wpAny_pyNext_range_end (I.ok.hd hc) st (by have:n<=i:=hg;omega) λh' eb=>⟨rfl,I.turned (t':=s.toks) (λb o hb e=>eb b o hb e) f0 f1 f3 f4 f5⟩
 self:=λ_ _ _ _ _ st h=>wpAny_pyIter_rangeiter st h
section
variable{X:Cx}{tg:au}
def jj1(K:k8v)(tl:TE):TI:=λσ H R=>tl σ H λx H1=>∃a,x=.ref a/\(∃xs,SqL K H1 a xs)/\R (Itl K a) H1
def jl0(K:k8v)(tl:TE):TI:=λσ H R=>tl σ H λx H1=>∃a,x=.ref a/\(∃xs,SqT K H1 a xs)/\R (Itt K a) H1
def jb7{l:au}{tl:TE}(hl:PE X l tl):PI X tg l (jj1 X.K tl):=by
 intro pins s σ H R I h;refine thn (hl pins s σ H _ I h) λv s1 ⟨x,H1,I1,r1,q1⟩=>?_;obtain⟨a,e,⟨xs,hq⟩,q⟩:=q1;subst e;cases r1;obtain⟨its,rv,p,hz⟩:=I1.list hq;refine bu p.isList ?_;refine⟨s1.heap.objs.size,[s1.heap.objs.size],_,_,H1,rfl,I1.kept (t':=s1.toks) λb o e=>kj _ e,j3x a _,⟨_,X3 _ rfl,rfl,rfl⟩,λb hb=>?_,q⟩;have e:b=s1.heap.objs.size:=by simpa using hb
 subst e;exact I1.fpOk (xu _) (I1.hok.fresh (xu _))
def jed{l:au}{tl:TE}(hl:PE X l tl):PI X tg l (jl0 X.K tl):=by
 intro pins s σ H R I h;refine thn (hl pins s σ H _ I h) λv s1 ⟨x,H1,I1,r1,q1⟩=>?_;obtain⟨a,e,⟨xs,hq⟩,q⟩:=q1;subst e;cases r1;obtain⟨its,rv,p,hz⟩:=I1.tuple hq;refine hJ (show s1.heap.IsTuple a its.toArray from p) ?_;refine⟨s1.heap.objs.size,[s1.heap.objs.size],_,_,H1,rfl,I1.kept (t':=s1.toks) λb o e=>kj _ e,j2b a _,⟨_,X3 _ rfl,rfl,rfl⟩,λb hb=>?_,q⟩;have e:b=s1.heap.objs.size:=by simpa using hb
 subst e;exact I1.fpOk (xu _) (I1.hok.fresh (xu _))
def Iw{pins:k8x}{σ:St}{H:Hp}{s:aq}{R:It->Hp->Prop}{E:k8w}{lo hi:Int}{t u v:iR}{tk:Nat}(I:Inv X pins σ H s)(h1:-(2^62)<=lo)(h2:lo<2^62)(h3:-(2^62)<=hi)(h4:hi<2^62)
  (q:R (Itr lo (hi-lo).toNat) H):av (aC X.prog X.w) X.A (iA (.ref s.heap.objs.size)) (PIE X pins σ tg R) E { s with heap:=s.heap.push { cls:=.type "range",data:=.fields #[.int lo t,.int hi u,.int 1 v] },toks:=tk }:=by
 refine wpAny_pyIter_range (IsRange.new ..) (small_one h1 h2 h3 h4) ?_;have I1:Inv X pins σ H { s with heap:=s.heap.push { cls:=.type "range",data:=.fields #[.int lo t,.int hi u,.int 1 v] },toks:=tk }:=I.kept λb o e=>kj _ e;refine⟨(s.heap.push { cls:=.type "range",data:=.fields #[.int lo t,.int hi u,.int 1 v] }).objs.size,[(s.heap.push { cls:=.type "range",data:=.fields #[.int lo t,.int hi u,.int 1 v] }).objs.size],_,_,H,rfl,
  I1.kept (t':=tk) λb o e=>kj _ e,j2c _ lo (hi-lo).toNat,?_,λb hb=>?_,q⟩
 .have e1:lo+((0:Nat):Int)*1=lo:=by simp
  have e2:(((hi-lo).toNat:Nat):Int)-((0:Nat):Int)=Builtin.Range.rangeSize lo hi 1:=by rw[rangeSize_one];split<;>omega
  show IsRangeIter _ _ (lo+((0:Nat):Int)*1) ((((hi-lo).toNat:Nat):Int)-((0:Nat):Int)) 1;rw[e1,e2];exact X3 _ rfl
 .have e:b=(s.heap.push { cls:=.type "range",data:=.fields #[.int lo t,.int hi u,.int 1 v] }).objs.size:=by simpa using hb
  subst e;exact I1.fpOk (xu _) (I1.hok.fresh (xu _))
def jj0(ta:TA):TI:=λσ H R=>ta σ H λvs H1=>∃j:Int,vs=[.int j]/\-(2^62)<=j/\j<2^62/\R (Itr 0 j.toNat) H1
def jiz(ta:TA):TI:=λσ H R=>ta σ H λvs H1=>∃i j:Int,vs=[.int i,.int j]/\(-(2^62)<=i/\i<2^62/\-(2^62)<=j/\j<2^62)/\R (Itr i (j-i).toNat) H1
def j4f {a:au} {ta:TA} {p pos:aO} (hg:Gl X "range") (hm:X.mg "range" = af) (ha:PA X [a] ta) (hs:ah [a] X.env=[(aa,aD a X.env)]:=by rfl):PI X tg (.Call (.Name "range" p) [a] [] pos) (jj0 ta):=by
 intro pins s σ H R I h;refine Call_ (Jx I hg hm boot_range (callWith_type1 (thn (ha pos pins s σ H _ I h) λus s1 ⟨vs,H1,I1,r1,q1⟩=>?_) hs rfl));obtain⟨j,e,q1,q2,q⟩:=q1;subst e;cases r1 with
 |cons r rr =>cases rr;obtain⟨t,rfl⟩:=r;exact call_range_1 (Iw I1 (by omega) (by omega) q1 q2 (by simpa using q))
def j4e {a b:au} {ta:TA} {p pos:aO} (hg:Gl X "range") (hm:X.mg "range" = af) (ha:PA X [a,b] ta) (hs:ah [a,b] X.env=[(aa,aD a X.env),(aa,aD b X.env)]:=by rfl) (hs2:ah [b] X.env=[(aa,aD b X.env)]:=by rfl) :
  PI X tg (.Call (.Name "range" p) [a,b] [] pos) (jiz ta):=by
 intro pins s σ H R I h;refine Call_ (Jx I hg hm boot_range (callWith_type1 (thn (ha pos pins s σ H _ I h) λus s1 ⟨vs,H1,I1,r1,q1⟩=>?_) (by rw[hs,hs2]) (by rw[hs2];rfl)));obtain⟨i,j,e,⟨q1,q2,q3,q4⟩,q⟩:=q1;subst e;cases r1 with
 |cons r rr =>
  cases rr with
  |cons r' rr =>cases rr;obtain⟨t,rfl⟩:=r;obtain⟨t',rfl⟩:=r';exact call_range_2 (Iw I1 q1 q2 q3 q4 q)
def jk9(wi:TI)(g:TG)(tb:TS):TS:=λD σ H=>wi σ H λJ H1=>∃W:Nat->Nat->St->Hp->Prop,(∃m,W 0 m σ H1)/\∀i m σ H,W i m σ H ->
 (J.stop i H/\D.nx σ H)\/(J.go i H/\∃N:St->Hp->Prop,(∀σ' H',N σ' H'->∃m',m'<m/\W (i+1) m' σ' H')/\∀x H',J.yld i H x H'->g x σ H' λσ2 H2=>tb { D with nx:=N,ct:=N,bk:=D.nx } σ2 H2)
noncomputable def Qy(fp:List ai)(h:aH):List (ai×dF):=fp.filterMap λb=>(h.get? b).map λo=>(b,o)
def Jk{fp:List ai}{h:aH}{b:ai}{o:dF}(hb:b∈fp)(e:h.get? b=a8 o):(b,o)∈Qy fp h:=Tn.mpr ⟨b,hb,by rw[e];rfl⟩
def Cm{fp:List ai}{h:aH}{p:ai×dF}(hp:p∈Qy fp h):p.1∈fp/\h.get? p.1=a8 p.2:=by
 obtain⟨b,hb,e⟩:=Tn.mp hp;cases q:h.get? b with
 |none=>rw[q]at e;cases e
 |some o =>rw[q]at e;have e':(b,o)=p:=ax e;subst e';exact⟨hb,q⟩
def Inv.pinned{pins:k8x}{σ:St}{H:Hp}{s:aq}{fp:List ai}(I:Inv X pins σ H s)(hf:∀b∈fp,v6 X pins H b)(ho:∀b∈fp,∃o,s.heap.get? b=a8 o/\∀v,o.data≠.cell v):Inv X (pins++Qy fp s.heap) σ H s :=
 I.pins_of λp hp=>(Xp.mp hp).elim (λz=>I.pin p (Xb _ z)) λz=>by obtain⟨hb,e⟩:=Cm z;obtain⟨f0,f1,f2,_⟩:=hf p.1 hb;obtain⟨o,e',d⟩:=ho p.1 hb;rw[e]at e';cases e';exact⟨e,f0,f1,f2,d⟩
def Inv.unpinned{pins pl:k8x}{σ:St}{H:Hp}{s:aq}(I:Inv X (pins++pl) σ H s):Inv X pins σ H s:=I.pins_of λp hp=>I.pin p (Xb _ (Xk _ hp))
def j4b{iter:au}{body:List aP}{wi:TI}{g:TG}{tb:TS}{pos:aO}(hp:fv (aC X.prog X.w) X.A X.env X.xe)(hc:X.calm=ae)(hi:PI X tg iter wi)(hg:PG X tg g)(hb:PSs X body tb)
  (hs:∀x,aI iter X.env x=pure x:=by intro _;rfl):PS X (.For tg iter body [] pos) (jk9 wi g tb):=by
 intro pins s σ H D I h;refine wpAny_For (thn (hi pins s σ H _ I h) λv s1 h1=>thn h1 λitv s2 h2=>?_) hs;obtain⟨it,fp,tn,J,H2,e,I2,T,st2,f2,W,⟨m0,w0⟩,turn⟩:=h2;subst e;have stat:∀{H':Hp},(∀b∈fp,H' b=af)->∀b∈fp,v6 X pins H' b:=λhn b hb=>⟨hn b hb,(f2 b hb).2⟩
 refine codeAny_forLoop_any (λn s'=>∃i σ' H',Inv X pins σ' H' s'/\tn i s'.heap/\(∀b∈fp,H' b=af)/\W i n σ' H') ?_ m0 ⟨0,σ,H2,I2,st2,λb hb=>(f2 b hb).1,w0⟩;rintro n s3 ⟨i,σ3,H3,I3,st3,fr3,w3⟩;rcases turn i n σ3 H3 w3 with ⟨stop,qn⟩|⟨go,N,hN,step⟩
 .refine cB hp (thn (T.done X rfl rfl rfl hc i pins s3 σ3 H3 X.xe I3 (stat fr3) st3 stop) λr s4 ⟨hr,I4⟩=>?_);subst hr;exact fJ ⟨σ3,H3,I4,qn⟩
 .refine cB hp (thn (T.item X rfl rfl rfl hc i pins s3 σ3 H3 X.xe I3 (stat fr3) st3 go) λr s4 ⟨u,hr,h4⟩=>?_);subst hr;refine cB hp (thn h4 λ_ s5 ⟨x,H5,I5,r5,y5,st5,fr5⟩=>?_);have I5':=I5.pinned (stat fr5) (T.obj _ _ st5);refine cB hp (thn (hg _ s5 σ3 H5 x u _ I5' r5 (step x H5 y5)) λ_ s6 ⟨σ6,H6,I6,q6⟩=>?_);refine cB hp (thn (hb _ s6 σ6 H6 _ I6 q6) λf s7 q7=>?_);have jS:∀{σ7:St}{H7:Hp},Inv X (pins++Qy fp s5.heap) σ7 H7 s7->N σ7 H7->∃m,m<n/\∃i σ' H',Inv X pins σ' H' s7/\tn i s7.heap/\(∀b∈fp,H' b=af)/\W i m σ' H':=λ{σ7 H7} I7 n7=>by obtain⟨m',hm,w7⟩:=hN σ7 H7 n7;refine⟨m',hm,i+1,σ7,H7,I7.unpinned,T.keep _ _ _ st5 λb hb o e=>(I7.pin (b,o) (Xb _ (Xb _ (Jk hb e)))).1,λb hb=>?_,w7⟩;obtain⟨o,e,d⟩:=T.obj _ _ st5 b hb;exact(I7.pin (b,o) (Xb _ (Xb _ (Jk hb e)))).2.1
  cases f with
  |next=>obtain⟨σ7,H7,I7,n7⟩:=q7;exact jS I7 n7
  |cont=>obtain⟨σ7,H7,I7,n7⟩:=q7;exact jS I7 n7
  |brk=>obtain⟨σ7,H7,I7,q7⟩:=q7;exact⟨σ7,H7,I7.unpinned,q7⟩
  |ret v=>obtain⟨x7,σ7,H7,H8,I7,r7,x8,q7⟩:=q7;exact⟨x7,σ7,H7,H8,I7.unpinned,r7,x8,q7⟩
end
abbrev R2:=V->V->Hp->VK->Prop
def OpR(X:Cx)(f:aj->aj->nG aj)(r:R2):Prop :=
 ∀(pins:k8x) (s:aq) (σ:St) (H:Hp) (x y:V) (v u:aj) (Q:VK),Inv X pins σ H s->RelV x v->RelV y u->r x y H Q ->
  av (aC X.prog X.w) X.A (f v u) (EP X pins σ Q) X.xe s
def UnR(X:Cx)(f:aj->nG aj)(r:V->Hp->VK->Prop):Prop :=
 ∀(pins:k8x) (s:aq) (σ:St) (H:Hp) (x:V) (v:aj) (Q:VK),Inv X pins σ H s->RelV x v->r x H Q ->
  av (aC X.prog X.w) X.A (f v) (EP X pins σ Q) X.xe s
def J5(X:Cx)(f:aj)(r:List V->Hp->VK->Prop):Prop :=
 ∀(pins:k8x) (s:aq) (σ:St) (H:Hp) (xs:List V) (us:List aj) (Q:VK),Inv X pins σ H s->Vals xs us->r xs H Q ->
  av (aC X.prog X.w) X.A (call f us) (EP X pins σ Q) X.xe s
def tOp(r:R2)(ta tb:TE):TE:=λσ H Q=>ta σ H λx H1=>tb σ H1 λy H2=>r x y H2 Q
def tUn(r:V->Hp->VK->Prop)(ta:TE):TE:=λσ H Q=>ta σ H λx H1=>r x H1 Q
def rI(C:Int->Int->Prop)(g:Int->Int->V):R2:=λx y H Q=>∃i j,x=.int i/\y=.int j/\C i j/\Q (g i j) H
def rI0(g:Int->Int->V):R2:=λx y H Q=>∃i j,x=.int i/\y=.int j/\Q (g i j) H
def rU(g:Int->V):V->Hp->VK->Prop:=λx H Q=>∃i,x=.int i/\Q (g i) H
section
variable{X:Cx}{a b c:au}{ta tb tc:TE}{pos:aO}
def j8t(ha:PE X a ta)(hb:PE X b tb){pins:k8x}{s:aq}{σ:St}{H:Hp}{R:V->V->Hp->Prop}(I:Inv X pins σ H s)
  (h:ta σ H λx H1=>tb σ H1 λy H2=>R x y H2) {Q:k8w} {f:aj->aj->nG aj}
  (hf:∀v u s2 x y H2,Inv X pins σ H2 s2->RelV x v->RelV y u->R x y H2->av (aC X.prog X.w) X.A (f v u) Q X.xe s2) :
  av (aC X.prog X.w) X.A (aD a X.env) (λv s₁=>av (aC X.prog X.w) X.A (aD b X.env) (λu s₂=>av (aC X.prog X.w) X.A (f v u) Q X.xe s₂) X.xe s₁) X.xe s:=by
 refine thn (ha pins s σ H _ I h) λv s1 ⟨x,H1,I1,r1,q1⟩=>?_;refine thn (hb pins s1 σ H1 _ I1 q1) λu s2 ⟨y,H2,I2,r2,q2⟩=>?_;exact hf v u s2 x y H2 I2 r1 r2 q2
def Yx{op:kJ}{r:R2}(ho:OpR X (bB op) r)(ha:PE X a ta)(hb:PE X b tb):PE X (.BinOp a op b pos) (tOp r ta tb):=by intro pins s σ H Q I h;exact wpAny_BinOp (j8t ha hb I h λv u s2 x y H2 I2 rx ry q=>ho pins s2 σ H2 x y v u Q I2 rx ry q)
def jie{op:UnaryOp}{r:V->Hp->VK->Prop}(ho:UnR X (unaryOp op) r)(ha:PE X a ta):PE X (.UnaryOp op a pos) (tUn r ta):=by intro pins s σ H Q I h;exact UnaryOp_ (thn (ha pins s σ H _ I h) λv s1 ⟨x,H1,I1,r1,q1⟩=>ho pins s1 σ H1 x v Q I1 r1 q1)
def opI{f:aj->aj->nG aj}{C:Int->Int->Prop}{g:Int->Int->Int}
  (lz:∀(i j:Int)(t u:iR)(s:aq)(Q:k8w)(E:k8w),C i j->Q (.int (g i j) s.toks) { s with toks:=s.toks+1 }->av (aC X.prog X.w) X.A (f (.int i t) (.int j u)) Q E s) :
  OpR X f (rI C λi j=>.int (g i j)):=by
 intro pins s σ H x y v u Q I rx ry h;obtain⟨i,j,rfl,rfl,hc,q⟩:=h;obtain⟨t,rfl⟩:=rx;obtain⟨t',rfl⟩:=ry;exact lz i j t t' s _ _ hc ⟨.int (g i j),H,I.tok _,⟨_,rfl⟩,q⟩
def j2x{f:aj->aj->nG aj}{g:Int->Int->Int}
  (lz:∀(i j:Int)(t u:iR)(s:aq)(Q:k8w)(E:k8w),Q (.int (g i j) s.toks) { s with toks:=s.toks+1 }->av (aC X.prog X.w) X.A (f (.int i t) (.int j u)) Q E s) :
  OpR X f (rI0 λi j=>.int (g i j)):=by
 intro pins s σ H x y v u Q I rx ry h;obtain⟨i,j,rfl,rfl,q⟩:=h;obtain⟨t,rfl⟩:=rx;obtain⟨t',rfl⟩:=ry;exact lz i j t t' s _ _ ⟨.int (g i j),H,I.tok _,⟨_,rfl⟩,q⟩
def j2y{f:aj->aj->nG aj}{g:Int->Int->Bool}
  (lz:∀(i j:Int)(t u:iR)(s:aq)(Q:k8w)(E:k8w),Q (.bool (g i j)) s->av (aC X.prog X.w) X.A (f (.int i t) (.int j u)) Q E s) :
  OpR X f (rI0 λi j=>.bl (g i j)):=by
 intro pins s σ H x y v u Q I rx ry h;obtain⟨i,j,rfl,rfl,q⟩:=h;obtain⟨t,rfl⟩:=rx;obtain⟨t',rfl⟩:=ry;exact lz i j t t' s _ _ ⟨.bl (g i j),H,I,rfl,q⟩
def j3r(i j:Int):Prop:=0<=j/\j<=1000000/\i.natAbs<2^64
def j3s(i j:Int):Prop:=(-(2^64)<i/\i<2^64)\/(-(2^64)<j/\j<2^64)
def j3s.ok{i j:Int}(h:j3s i j):IntMulOk i j:=by
 rcases h with ⟨h1,h2⟩|⟨h1,h2⟩
 .exact .of_left (o7 h1 h2)
 .exact .of_right (o7 h1 h2)
def j2a(k:Nat):(0:Int)<=2^k:=by rw[two_pow_cast];exact Int.natCast_nonneg _
def jet:OpR X (bB .Add) (rI0 λi j=>.int (i+j)):=j2x λ_ _ _ _ _ _ _ q=>add_int q
def jel:OpR X (bB .Sub) (rI0 λi j=>.int (i-j)):=j2x λ_ _ _ _ _ _ _ q=>sub_int q
def jeq:OpR X (bB .Mult) (rI j3s λi j=>.int (i*j)):=opI λ_ _ _ _ _ _ _ hc q=>mul_int q hc.ok
def jer:OpR X (bB .Mod) (rI (λ_ j=>0<j) λi j=>.int (i%j)):=opI λi j _ _ _ _ _ hc q=>by have h1:(0:Int)<j:=hc;exact mod_int' (by omega) (by rw[Int.fmod_eq_emod_of_nonneg i (by omega)];exact q)
def jep:OpR X (bB .Pow) (rI j3r λi j=>.int (i^j.toNat)):=opI λ_ _ _ _ _ _ _ hc q=>pow_int_small hc.1 hc.2.1 hc.2.2 q
def jen:OpR X (bB .LShift) (rI j3r λi j=>.int (i*2^j.toNat)):=opI λ_ _ _ _ _ _ _ hc q=>lshift_int_small hc.1 hc.2.1 hc.2.2 q
def jem:OpR X (bB .RShift) (rI (λ_ j=>0<=j) λi j=>.int (i/2^j.toNat)):=opI λi j _ _ _ _ _ hc q =>rshift_int hc (by rw[iF i (j2a _)];exact q)
def jes:OpR X (bB .BitAnd) (rI0 λi j=>.int (k6 i j)):=j2x λ_ _ _ _ _ _ _ q=>and_int q
def jek:OpR X (bB .BitXor) (rI0 λi j=>.int (bS i j)):=j2x λ_ _ _ _ _ _ _ q=>xor_int q
def unI{f:aj->nG aj}{g:Int->Int}
  (lz:∀(i:Int)(t:iR)(s:aq)(Q:k8w)(E:k8w),Q (.int (g i) s.toks) { s with toks:=s.toks+1 }->av (aC X.prog X.w) X.A (f (.int i t)) Q E s) :
  UnR X f (rU λi=>.int (g i)):=by
 intro pins s σ H x v Q I rx h;obtain⟨i,rfl,q⟩:=h;obtain⟨t,rfl⟩:=rx;exact lz i t s _ _ ⟨.int (g i),H,I.tok _,⟨_,rfl⟩,q⟩
def jdf:UnR X (unaryOp .USub) (rU λi=>.int (-i)):=unI λ_ _ _ _ _ q=>neg_int q
end
noncomputable def Fg:V->V->Bool
 |.non,.non=>ae|.non,.int _=>ae|.int _,.non=>ae|.non,.bl _=>ae|.bl _,.non=>ae|.non,.str _=>ae|.str _,.non=>ae
 |.int _,.int _=>ae|.bl _,.bl _=>ae|.str _,.str _=>ae|.byt _,.byt _=>ae
 |.int _,.str _=>ae|.str _,.int _=>ae|.bl _,.str _=>ae|.str _,.bl _=>ae
 |_,_=>aa
def rEq:R2:=λx y H Q=>Fg x y=ae/\Q (.bl (decide (x=y))) H
def rNe:R2:=λx y H Q=>Fg x y=ae/\Q (.bl (!decide (x=y))) H
def j20{i j:Int}:decide (V.int i=V.int j)=(i==j):=by rw[cT];simp
def j5h{i j:Bool}:decide (V.bl i=V.bl j)=(i==j):=by rw[cT];simp
def j1z{i j:ar}:decide (V.str i=V.str j)=(i==j):=by rw[cT];simp
def j21{i j:Array UInt8}:decide (V.byt i=V.byt j)=(i.toList==j.toList):=by rw[cT];cases i;cases j;simp
section
variable{X:Cx}{a b c:au}{ta tb tc:TE}{pos:aO}
def jr{pins:k8x}{σ:St}{H:Hp}{s:aq}{Q:VK}{k k':Bool}(I:Inv X pins σ H s)(q:Q (.bl k) H)(e:k=k'):EP X pins σ Q (.bool k') s:=by subst e;exact⟨.bl k,H,I,rfl,q⟩
def j9i:OpR X (aX .Eq) rEq:=by
 intro pins s σ H x y v u Q I rx ry h;obtain⟨hs,q⟩:=h;cases x with
 |non =>
  cases rx;cases y with
  |non=>cases ry;exact mY (jr I q (by simp))
  |bl j=>cases ry;exact n6 (jr I q (by simp))
  |int j=>obtain⟨t',rfl⟩:=ry;exact n5 (jr I q (by simp))
  |str j=>obtain⟨t',rfl⟩:=ry;exact mX (jr I q (by simp))
  |_=>exact absurd (show aa=ae from hs) xj
 |bl i =>
  cases rx;cases y with
  |non=>cases ry;exact nh (jr I q (by simp))
  |bl j=>cases ry;exact eq_bool (jr I q j5h)
  |str j=>obtain⟨t',rfl⟩:=ry;exact ma (jr I q (by simp))
  |_=>exact absurd (show aa=ae from hs) xj
 |int i =>
  obtain⟨t,rfl⟩:=rx;cases y with
  |non=>cases ry;exact n9 (jr I q (by simp))
  |int j=>obtain⟨t',rfl⟩:=ry;exact eq_int (jr I q j20)
  |str j=>obtain⟨t',rfl⟩:=ry;exact m9 (jr I q (by simp))
  |_=>exact absurd (show aa=ae from hs) xj
 |str i =>
  obtain⟨t,rfl⟩:=rx;cases y with
  |non=>cases ry;exact mV (jr I q (by simp))
  |bl j=>cases ry;exact m8 (jr I q (by simp))
  |int j=>obtain⟨t',rfl⟩:=ry;exact lZ (jr I q (by simp))
  |str j=>obtain⟨t',rfl⟩:=ry;exact eq_str (jr I q j1z)
  |_=>exact absurd (show aa=ae from hs) xj
 |byt i =>
  obtain⟨t,rfl⟩:=rx;cases y with
  |byt j=>obtain⟨t',rfl⟩:=ry;exact W.eq_bytes (jr I q j21)
  |_=>exact absurd (show aa=ae from hs) xj
 |_=>cases y<;>exact absurd (show aa=ae from hs) xj
def j9d:OpR X (aX .NotEq) rNe:=by
 intro pins s σ H x y v u Q I rx ry h;obtain⟨hs,q⟩:=h;cases x with
 |non =>
  cases rx;cases y with
  |non=>cases ry;exact mN (jr I q (by simp))
  |bl j=>cases ry;exact mQ (jr I q (by simp))
  |int j=>obtain⟨t',rfl⟩:=ry;exact mO (jr I q (by simp))
  |str j=>obtain⟨t',rfl⟩:=ry;exact mK (jr I q (by simp))
  |_=>exact absurd (show aa=ae from hs) xj
 |bl i =>
  cases rx;cases y with
  |non=>cases ry;exact mU (jr I q (by simp))
  |bl j=>cases ry;exact ne_bool (jr I q (congrArg not j5h))
  |str j=>obtain⟨t',rfl⟩:=ry;exact lY (jr I q (by simp))
  |_=>exact absurd (show aa=ae from hs) xj
 |int i =>
  obtain⟨t,rfl⟩:=rx;cases y with
  |non=>cases ry;exact mR (jr I q (by simp))
  |int j=>obtain⟨t',rfl⟩:=ry;exact ne_int (jr I q (congrArg not j20))
  |str j=>obtain⟨t',rfl⟩:=ry;exact lX (jr I q (by simp))
  |_=>exact absurd (show aa=ae from hs) xj
 |str i =>
  obtain⟨t,rfl⟩:=rx;cases y with
  |non=>cases ry;exact mJ (jr I q (by simp))
  |bl j=>cases ry;exact lW (jr I q (by simp))
  |int j=>obtain⟨t',rfl⟩:=ry;exact lV (jr I q (by simp))
  |str j=>obtain⟨t',rfl⟩:=ry;exact ne_str (jr I q (congrArg not j1z))
  |_=>exact absurd (show aa=ae from hs) xj
 |byt i =>
  obtain⟨t,rfl⟩:=rx;cases y with
  |byt j=>obtain⟨t',rfl⟩:=ry;exact W.ne_bytes (jr I q (congrArg not j21))
  |_=>exact absurd (show aa=ae from hs) xj
 |_=>cases y<;>exact absurd (show aa=ae from hs) xj
def j9e:OpR X (aX .Lt) (rI0 λi j=>.bl (decide (i<j))):=j2y λ_ _ _ _ _ _ _ q=>lt_int q
def j9f:OpR X (aX .LtE) (rI0 λi j=>.bl (decide (i<=j))):=j2y λ_ _ _ _ _ _ _ q=>le_int q
def j9g:OpR X (aX .Gt) (rI0 λi j=>.bl (decide (j<i))):=j2y λ_ _ _ _ _ _ _ q=>gt_int q
def j9h:OpR X (aX .GtE) (rI0 λi j=>.bl (decide (j<=i))):=j2y λ_ _ _ _ _ _ _ q=>ge_int q
def Ci:OpR X (aX .Lt) (λx y H Q=>∃i j,x=.str i/\y=.str j/\Q (.bl (decide (i.cps.toList<j.cps.toList))) H):=by intro pins s σ H x y v u Q I rx ry h;obtain⟨i,j,rfl,rfl,q⟩:=h;obtain⟨t,rfl⟩:=rx;obtain⟨t',rfl⟩:=ry;exact lt_str (jr I q rfl)
def Cj:OpR X (aX .In) (λx y H Q=>∃i j,x=.str i/\y=.str j/\Q (.bl (!(gO j i 0 j.length 1).isEmpty)) H):=by intro pins s σ H x y v u Q I rx ry h;obtain⟨i,j,rfl,rfl,q⟩:=h;obtain⟨t,rfl⟩:=rx;obtain⟨t',rfl⟩:=ry;exact in_str (jr I q rfl)
def zg(b:au){op:iI}(h:op≠.In:=by decide)(h2:op≠.NotIn:=by decide):aG op b=aa:=by
 have e1:(op==CmpOp.In)=aa:=by cases op<;>first|rfl|exact absurd rfl h
 have e2:(op==CmpOp.NotIn)=aa:=by cases op<;>first|rfl|exact absurd rfl h2
 cases b<;>simp[aG,e1,e2]
def Jf{op:iI}{r:R2}(ho:OpR X (aX op) r)(ha:PE X a ta)(hb:PE X b tb)(hm:aG op b=aa):PE X (.Compare a [op] [b] pos) (tOp r ta tb):=by intro pins s σ H Q I h;exact nR (j8t ha hb I h λv u s2 x y H2 I2 rx ry q=>ho pins s2 σ H2 x y v u Q I2 rx ry q) hm
def jhq(t:TE):TT:=λσ H Q=>t σ H λx H'=>∃k,x=.bl k/\Q k H'
def Je{op:iI}{r:R2}(ho:OpR X (aX op) r)(ha:PE X a ta)(hb:PE X b tb)(hm:aG op b=aa):PT X (.Compare a [op] [b] pos) (jhq (tOp r ta tb)):=by
 intro pins s σ H Q I h;refine kn (thn (ha pins s σ H _ I h) λv s1 ⟨x,H1,I1,r1,q1⟩=>thn (hb pins s1 σ H1 _ I1 q1) λu s2 ⟨y,H2,I2,r2,q2⟩ =>
  thn (ho pins s2 σ H2 x y v u _ I2 r1 r2 q2) λc s3 ⟨z,H3,I3,r3,k,e,q3⟩=>?_) hm
 subst e;cases r3;exact br ⟨H3,I3,q3⟩
def Yi:(aw:Nat)<2^63:=by rw[dX];decide
def j2w:OpR X (bB .Add) (λx y H Q=>∃i j,x=.str i/\y=.str j/\i.length+j.length<=aw/\Q (.str (i++j)) H):=by intro pins s σ H x y v u Q I rx ry h;obtain⟨i,j,rfl,rfl,hz,q⟩:=h;obtain⟨t,rfl⟩:=rx;obtain⟨t',rfl⟩:=ry;exact add_str (λt' tk=>⟨.str (i++j),H,I.tok _,⟨_,rfl⟩,q⟩) hz
def vals1{x:V}{us:List aj}(r:Vals [x] us):∃u,us=[u]/\RelV x u:=by
 cases r with
 |cons r1 r2=>cases r2;exact⟨_,rfl,r1⟩
def vals2{x y:V}{us:List aj}(r:Vals [x,y] us):∃u w',us=[u,w']/\RelV x u/\RelV y w':=by
 cases r with
 |cons r1 r2 =>
  cases r2 with
  |cons r3 r4=>cases r4;exact⟨_,_,rfl,r1,r3⟩
def j5x (hc:X.calm=ae):J5 X (.builtin "max") (λxs H Q=>∃i j,xs=[.int i,.int j]/\Q (.int (if j>i then j else i)) H):=by
 intro pins s σ H xs us Q I r h;obtain⟨i,j,rfl,q⟩:=h;obtain⟨u,w',rfl,⟨t,rfl⟩,⟨t',rfl⟩⟩:=vals2 r;refine max_two_ints (I.ok.hd hc) λh' tk k=>⟨_,H,I.kept k,?_,q⟩
 by_cases hj:j>i
 .rw[if_pos hj,if_pos hj];exact⟨_,rfl⟩
 .rw[if_neg hj,if_neg hj];exact⟨_,rfl⟩
def j5w (hc:X.calm=ae):J5 X (.builtin "min") (λxs H Q=>∃i j,xs=[.int i,.int j]/\Q (.int (if j<i then j else i)) H):=by
 intro pins s σ H xs us Q I r h;obtain⟨i,j,rfl,q⟩:=h;obtain⟨u,w',rfl,⟨t,rfl⟩,⟨t',rfl⟩⟩:=vals2 r;refine min_two_ints (I.ok.hd hc) λh' tk k=>⟨_,H,I.kept k,?_,q⟩
 by_cases hj:j<i
 .rw[if_pos hj,if_pos hj];exact⟨_,rfl⟩
 .rw[if_neg hj,if_neg hj];exact⟨_,rfl⟩
def j61:J5 X (.type "int") (λxs H Q=>(∃i,xs=[.int i]/\Q (.int i) H)\/∃k,xs=[.bl k]/\Q (.int (if k then 1 else 0)) H):=by
 intro pins s σ H xs us Q I r h;rcases h with ⟨i,rfl,q⟩|⟨k,rfl,q⟩
 .obtain⟨u,rfl,t,rfl⟩:=vals1 r;exact call_int_int ⟨.int i,H,I,⟨_,rfl⟩,q⟩
 .obtain⟨u,rfl,r1⟩:=vals1 r;cases r1;exact call_int_bool ⟨.int (if k then 1 else 0),H,I.tok _,⟨_,rfl⟩,q⟩
end
structure Cls(K:k8v)(C:ai):Prop where
 pg:W.plainGet K C Str.empty=ae
 hd:W.hasDictIn K C=ae
 po:W.plainOver K C=ae
 sa:W.findIn K (.ref C) "__setattr__" = a8 (a8 (.builtin "object.__setattr__"))
def M5(K:k8v)(C:ai)(f:ar):Prop:=W.findIn K (.ref C) f=a8 af
structure Meth(K:k8v)(C:ai)(m:ar)(f:ai):Prop where
 at_:W.findIn K (.ref C) m=a8 (a8 (.ref f))
 fn:W.isFn K (.ref f)=ae
 kp:W.keepIn K (.ref f)=ae
structure Room(k:Nat)(A:aF):Prop where
 hd:A.handled=af
 dp:A.depth+3*k+5<gi
 un:A.units+16*k+200<aZ
 gd:A.guards=a8 []
def Room.mono{j k:Nat}{A:aF}(r:Room k A)(h:j<=k):Room j A:=⟨r.hd,by have:=r.dp;omega,by have:=r.un;omega,r.gd⟩
theorem Room.deeper{k:Nat}{A:aF}(r:Room (k+1) A)(env:dO):Room k (A.deeper env) :=
 ⟨r.hd,by have:=r.dp;show A.depth+1+3*k+5<_;omega,by have:=r.un;show A.units+3+16*k+200<_;omega,r.gd⟩
theorem Room.depth{k:Nat}{A:aF}(r:Room k A):A.depth<gi:=by have:=r.dp;omega
def j2j:TA:=λ_ H Q=>Q [] H
def Kd(ta:TE)(tr:TA):TA:=λσ H Q=>ta σ H λx H1=>tr σ H1 λxs H2=>Q (x::xs) H2
section
variable{X:Cx}{e:au}{es:List au}{te:TE}{t:TA}{pos:aO}
def jn:PA X [] j2j:=λ_ _ _ _ H Q I h=>g6 ⟨[],H,I,.nil,h⟩
def jc(ha:PE X e te)(hr:PA X es t)(hs:ah (e::es) X.env=(aa,aD e X.env)::ah es X.env:=by rfl):PA X (e::es) (Kd te t):=by intro pos pins s σ H Q I h;rw[hs];show av _ _ (k8 ((aa,aD e X.env)::aU pos (ah es X.env))) _ _ s;refine fQ (thn (ha pins s σ H _ I h) λu s1 ⟨x,H1,I1,r1,q1⟩=>?_);exact thn (hr pos pins s1 σ H1 _ I1 q1) λus s2 ⟨xs,H2,I2,r2,q2⟩=>⟨x::xs,H2,I2,.cons r1 r2,q2⟩
def jk1(t:TA):TE:=λσ H Q=>t σ H λxs H1=>xs.length<=aw/\∀p,H1 p=af->Q (.ref p) (upd H1 p (.tup xs))
def jk6(t:TA):TE:=λσ H Q=>t σ H λxs H1=>xs.length<=aw/\∀p,H1 p=af->Q (.ref p) (upd H1 p (.lst xs))
def Ea{x1}(h:PA X es t):PE X (.Tuple es x1 pos) (jk1 t):=by intro pins s σ H Q I hq;refine wpAny_Tuple_spliced (thn (h pos pins s σ H _ I hq) λus s1 ⟨xs,H1,I1,r,z,q⟩=>⟨by rw[<-r.length];exact z,?_⟩);have hf:H1 s1.heap.objs.size=af:=I1.hok.fresh (xu _);refine⟨.ref s1.heap.objs.size,upd H1 s1.heap.objs.size (.tup xs),I1.laid (t':=s1.toks) (λb u e=>kj _ e) (xu _) ?_,rfl,q _ hf⟩;exact⟨z,us,r,⟨_,X3 _ rfl,rfl,_,rfl⟩,Zz.new _ _⟩
def jef(h:PA X es t):PE X (.List es pos) (jk6 t):=by intro pins s σ H Q I hq;refine wpAny_List_spliced (thn (h pos pins s σ H _ I hq) λus s1 ⟨xs,H1,I1,r,z,q⟩=>⟨by rw[<-r.length];exact z,?_⟩);have hf:H1 s1.heap.objs.size=af:=I1.hok.fresh (xu _);refine⟨.ref s1.heap.objs.size,upd H1 s1.heap.objs.size (.lst xs),I1.laid (t':=s1.toks) (λb u e=>kj _ e) (xu _) ?_,rfl,q _ hf⟩;exact⟨z,us,0,r,X3 _ rfl⟩
end
abbrev Sp:=List V->Hp->VK->XK->Prop
abbrev CXT:=List dO->Hp->aq->XK->aj->aq->Prop
structure Env0(P:az)(w:aE)(K:k8v)(mg:k8y)(base:aH)(A:aF)(outer:List dO)(s:aq)(H:Hp):Prop where
 frames:A.frames=a8 outer
 mod:Mod K mg base
 bs:∀b o,base.get? b=a8 o->s.heap.get? b=a8 o/\H b=af
 bsz:base.objs.size<=s.heap.objs.size
 funs:s.heap.FunFrames base outer
 frf:∀b∈frs outer,H b=af
 hok:HOk P w H s.heap
 bare:eT s.gens
def CE(outer:List dO)(P:az)(w:aE)(H:Hp)(s:aq)(Q:VK)(u:aj)(s':aq):Prop :=
 ∃v H',s'.os=s.os/\eT s'.gens/\Un (frs outer) [] H H' s.heap s'.heap/\HOk P w H' s'.heap/\RelV v u/\Q v H'
def CR(CX:CXT)(outer:List dO)(P:az)(w:aE)(H:Hp)(s:aq)(Q:VK)(E:XK)(r:f6)(s':aq):Prop :=
 match r with
 |.ok (.ret u)=>CE outer P w H s Q u s'
 |.ok _=>False
 |.error e=>CX outer H s E e s'
structure FnOk(P:az)(w:aE)(K:k8v)(mg:k8y)(base:aH)(CX:CXT)(k:Nat)(f:ai)(fd:aM)(ps:List ar)(sp:Sp):Prop where
 len:∀vs H Q E,sp vs H Q E->vs.length=ps.length
 run:∀(A:aF)(outer:List dO)(s:aq)(H:Hp)(args:Args)(us:List aj)(vs:List V) (Q:VK) (E:XK),Room k A->Env0 P w K mg base A outer s H->ip s fd args (ps.zip us)->Vals vs us->sp vs H Q E ->
  bY (aC P w) A (.call (.ref f) args) (CR CX outer P w H s Q E) s
def FnOk.imp{P:az}{w:aE}{K:k8v}{mg:k8y}{base:aH}{CX:CXT}{k:Nat}{f:ai}{fd:aM}{ps:List ar}{sp sp':Sp}(F:FnOk P w K mg base CX k f fd ps sp)
  (h:∀vs H Q E,sp' vs H Q E->sp vs H Q E):FnOk P w K mg base CX k f fd ps sp' :=
 ⟨λvs H Q E q=>F.len vs H Q E (h _ _ _ _ q),λA outer s H args us vs Q E hr he hb hv hs=>F.run A outer s H args us vs Q E hr he hb hv (h _ _ _ _ hs)⟩
section
variable{X:Cx}{pins:k8x}{σ:St}{H:Hp}{s s':aq}
def Inv.env0(I:Inv X pins σ H s):Env0 X.prog X.w X.K X.mg X.base X.A X.stack s H :=
 ⟨I.ok.frames,I.ok.mod,I.bs,Xd I.ok.bsz I.sz,I.stack,I.stkFree,I.hok,I.bare⟩
def Inv.after{Q:VK}{u:aj}(I:Inv X pins σ H s)(h:CE X.stack X.prog X.w H s Q u s'):EP X pins σ Q u s':=by obtain⟨v,H',os,bare,un,hok,r,q⟩:=h;obtain⟨hh,g,d,t,os'⟩:=s';obtain rfl:os'=s.os:=os;exact⟨v,H',I.call (h':=hh) (g':=g) (d':=d) (t':=t) (ch:=[]) un hok bare (λb z=>absurd z (by simp)),r,q⟩
end
def jhw(sp:Sp)(dvs:List V)(E:XK)(t:TA):TE:=λσ H Q=>t σ H λvs H1=>sp (vs++dvs) H1 Q E
def Binds(K:k8v)(fd:aM)(ps:List ar)(ds:List aj):Prop :=
 ∀(s:aq)(us:List aj),K.In s.heap->(us++ds).length=ps.length->ip s fd ⟨us,[]⟩ (ps.zip (us++ds))
def Binds.all{K:k8v}{fd:aM}{ps:List ar}(h:∀us:List aj,us.length=ps.length->gn fd ⟨us,[]⟩=pure (ps.zip us)):Binds K fd ps []:=λs us _ hl=>by rw[Xy]at hl ⊢;exact .of_eq (h us hl)
def j0s(CX:CXT)(X:Cx)(E:XK):Prop:=∀(pins:k8x) (σ:St) (H:Hp) (s:aq) (e:aj) (s':aq),Inv X pins σ H s->CX X.stack H s E e s'->X.xe e s'
section
variable{X:Cx}{CX:CXT}{k:Nat}{f C:ai}{fd:aM}{ps:List ar}{sp:Sp}{dvs:List V}{ds:List aj}{E:XK}{x m:ar}{p pos apos:aO}{e o:au}{es:List au}{ta:TE}{t:TA}
def jdx{pins:k8x}{σ:St}{H:Hp}{s:aq}{Q:VK}{us:List aj}{vs:List V}(F:FnOk X.prog X.w X.K X.mg X.base CX k f fd ps sp)(hr:Room k X.A)(hb:Binds X.K fd ps ds)(hd:Vals dvs ds)(hx:j0s CX X E)
  (I:Inv X pins σ H s) (r:Vals vs us) (h:sp (vs++dvs) H Q E):av (aC X.prog X.w) X.A (call (.ref f) us) (EP X pins σ Q) X.xe s:=by
 have r2:Vals (vs++dvs) (us++ds):=r.append hd;have hl:(us++ds).length=ps.length:=by rw[<-r2.length];exact F.len _ _ _ _ h
 refine lq (cR (F.run X.A X.stack s H ⟨us,[]⟩ (us++ds) (vs++dvs) Q E hr I.env0 (hb s us I.kIn hl) r2 h) λr s' hq=>?_);cases r with
 |error e=>exact hx pins σ H s e s' I hq
 |ok fl =>
  cases fl with
  |ret u=>exact I.after hq
  |next=>exact bp hq
  |brk=>exact bp hq
  |cont=>exact bp hq
def Ur(F:FnOk X.prog X.w X.K X.mg X.base CX k f fd ps sp)(hr:Room k X.A)(hg:Gl X x)(hm:X.mg x=a8 (.ref f))(hk:W.keepIn X.K (.ref f)=ae)(hb:Binds X.K fd ps ds)(hd:Vals dvs ds)(hx:j0s CX X E)
  (ha:PA X (e::es) t) (hdb:(x==k8z)=aa:=by decide) (he:ah (e::es) X.env=(aa,aD e X.env)::ah es X.env:=by rfl) (hpl:(aU pos (ah es X.env)).any (·.1)=aa:=by rfl) :
  PE X (.Call (.Name x p) (e::es) [] pos) (jhw sp dvs E t):=by
 intro pins s σ H Q I h;refine aY (Mg I hg hm ?_ hdb);refine W.callWith_K (h₀:=X.base) I.ok.mod.kin hk (thn (ha pos pins s σ H _ I h) λus s1 ⟨vs,H1,I1,r,q⟩=>⟨I1.kIn,?_⟩) he hpl;exact jdx F hr hb hd hx I1 r q
structure Mk(K:k8v)(C f:ai):Prop where
 makes:W.makesIn K C=ae
 init:W.findIn K (.ref C) "__init__" = a8 (a8 (.ref f))
 fn:W.isFn K (.ref f)=ae
 kp:W.keepIn K (.ref C)=ae
end
def PK(X:Cx)(kws:List bq)(t:TA):Prop :=
 ∀(pos:aO)(pins:k8x) (s:aq) (σ:St) (H:Hp) (Q:List V->Hp->Prop),Inv X pins σ H s->t σ H Q->av (aC X.prog X.w) X.A (evalAll ((cC pos (bF kws X.env)).map (·.2))) (AP X pins σ Q) X.xe s
section
variable{X:Cx}{CX:CXT}{k:Nat}{f C:ai}{fd:aM}{ps ks:List ar}{sp:Sp}{E:XK}{x m:ar}{p pos apos kpos:aO}{e o:au}{es:List au}{kws:List bq}{te ta:TE}{t tk:TA}{nm:Option ar}
def jec:PK X [] j2j:=λ_ _ _ _ H Q I h=>wpAny_evalAll_nil ⟨[],H,I,.nil,h⟩
def jb6(ha:PE X e te)(hr:PK X kws t):PK X (⟨nm,e,kpos⟩::kws) (Kd te t):=by intro pos pins s σ H Q I h;show av _ _ (evalAll ((do let v <-aD e X.env;eS pos;pure v)::(cC pos (bF kws X.env)).map (·.2))) _ _ s;refine wpAny_evalAll_cons (a9 (thn (ha pins s σ H _ I h) λu s1 ⟨x,H1,I1,r1,q1⟩=>a9 (eX (ak ?_))));exact thn (hr pos pins s1 σ H1 _ I1 q1) λus s2 ⟨xs,H2,I2,r2,q2⟩=>⟨x::xs,H2,I2,.cons r1 r2,q2⟩
structure KBinds(K:k8v)(fd:aM)(ps ks:List ar)(g:List aj->List aj->List aj)(gV:List V->List V->List V):Prop where
 to:∀(s:aq)(us ws:List aj),K.In s.heap->(g us ws).length=ps.length->ip s fd ⟨us,ks.zip ws⟩ (ps.zip (g us ws))
 rel:∀{vs:List V}{us:List aj}{zs:List V}{ws:List aj},Vals vs us->Vals zs ws->Vals (gV vs zs) (g us ws)
variable{g:List aj->List aj->List aj}{gV:List V->List V->List V}
end
structure FnScope(N P:List ar)(sc:bH):Prop where
 kind:sc.kind=.function
 co:sc.isCoroutine=aa
 gen:sc.isGenerator=aa
 nd:N.Nodup
 pre:N.take P.length=P
 par:∀x∈P,sc.names.lookup x=a8 .local\/sc.names.lookup x=a8 .cell
 nofree:∀y∈sc.names,y.2≠.free
theorem Ln{kindOf:ar->Option bP}{x:ar}:∀{binds:List (ar×aj)} {m:k8y},(∀v,(x,v)∉binds)->jQ kindOf binds m x=m x
 |[],_,_=>rfl
 |(n,v)::r,m,h=>by
  unfold jQ;rw[Ln λw hw=>h w (xm _ hw)];split
  .have:x≠n:=by rintro rfl;exact h v xr
   simp[this]
  .rfl
theorem Lq{kindOf:ar->Option bP}{x:ar}:∀{binds:List (ar×aj)} {m:k8y},(∀v,(x,v)∉binds)->jR kindOf binds m x=m x
 |[],_,_=>rfl
 |(n,v)::r,m,h=>by
  unfold jR;rw[Lq λw hw=>h w (xm _ hw)];split
  .rfl
  .have:x≠n:=by rintro rfl;exact h v xr
   simp[this]
theorem Lp{kindOf:ar->Option bP}{x:ar}{v:aj}:∀{P:List ar}{vs:List aj}{i:Nat}{m:k8y},P.Nodup->P[i]?=a8 x->vs[i]?=a8 v->kindOf x=a8 .local ->
  jQ kindOf (P.zip vs) m x=a8 v
 |[],_,_,_,_,h,_,_=>by simp at h
 |_::_,[],_,_,_,_,h,_=>by simp at h
 |p::P,w::vs,0,m,nd,h1,h2,hk=>by simp at h1 h2;subst h1;subst h2;show jQ kindOf ((p,w)::P.zip vs) m p=_;unfold jQ;rw[Ln λv hv=>(Xn.mp nd).1 (f9 hv).1,if_pos hk];simp
 |p::P,w::vs,i+1,m,nd,h1,h2,hk=>by show jQ kindOf ((p,w)::P.zip vs) m x=_;unfold jQ;exact Lp (i:=i) (Xn.mp nd).2 (by simpa using h1) (by simpa using h2) hk
theorem Lr{kindOf:ar->Option bP}{x:ar}{v:aj}:∀{P:List ar}{vs:List aj}{i:Nat}{m:k8y},P.Nodup->P[i]?=a8 x->vs[i]?=a8 v->kindOf x≠a8 .local ->
  jR kindOf (P.zip vs) m x=a8 v
 |[],_,_,_,_,h,_,_=>by simp at h
 |_::_,[],_,_,_,_,h,_=>by simp at h
 |p::P,w::vs,0,m,nd,h1,h2,hk=>by simp at h1 h2;subst h1;subst h2;show jR kindOf ((p,w)::P.zip vs) m p=_;unfold jR;rw[Lq λv hv=>(Xn.mp nd).1 (f9 hv).1,if_neg hk];simp
 |p::P,w::vs,i+1,m,nd,h1,h2,hk=>by show jR kindOf ((p,w)::P.zip vs) m x=_;unfold jR;exact Lr (i:=i) (Xn.mp nd).2 (by simpa using h1) (by simpa using h2) hk
noncomputable def start(N:List ar)(vs:List V):St:=vs.map a8++ay (N.length-vs.length) af
noncomputable def zp(CX:CXT)(P:az)(w:aE)(K:k8v)(mg:k8y)(base:aH)(N:List ar)(qual:ar)(scope:bH)(f:ai)(cd:aj)(A:aF)(outer:List dO)(s:aq)(H:Hp)(E:XK):Cx where
 prog:=P
 w:=w
 K:=K
 mg:=mg
 base:=base
 A:=A.deeper (bQ qual scope s.heap.objs.size f cd)
 N:=N
 s₀:=s
 H₀:=H
 env:=bQ qual scope s.heap.objs.size f cd
 outer:=outer
 stack:=bQ qual scope s.heap.objs.size f cd::outer
 ex:=[]
 calm:=ae
 fn:=λ_=>ae
 pn:=[]
 xe:=λe s'=>av (aC P w) (A.deeper (bQ qual scope s.heap.objs.size f cd)) (leaving (bQ qual scope s.heap.objs.size f cd) e) (λ_ s''=>CX outer H s E e s'') (λe' s''=>CX outer H s E e' s'') s'
def j0i{sc:bH}{n:Nat}{x:ar}(h:sc.names.lookup x=a8 .cell):∃c,(aT n sc.names []).lookup x=a8 c:=by have q:=W.cellsFrom_some sc.names n [] (.inl h);exact Xz.mp q
def j57{CX:CXT}{P:az}{w:aE}{K:k8v}{mg:k8y}{base:aH}{N ps:List ar}{qual:ar}{scope:bH}{f:ai}{cd:aj}{A:aF}{outer:List dO}{s s1:aq}{H:Hp}{E:XK}{us:List aj}{vs:List V}
  (S:FnScope N ps scope) (cm:Bool) (hd:cm=ae->A.handled=af) (e0:Env0 P w K mg base A outer s H) (hl:vs.length=ps.length) (r:Vals vs us)
  (x:InCallC s s.heap.objs.size (jQ (bQ qual scope s.heap.objs.size f cd).kindOf (ps.zip us) λ_=>af) (aT (s.heap.objs.size+1) scope.names []) (jR (bQ qual scope s.heap.objs.size f cd).kindOf (ps.zip us) λ_=>af) s1) :
  Inv { zp CX P w K mg base N qual scope f cd A outer s H E with calm:=cm } [] (start N vs) H s1:=by
 have hpl:ps.length<=N.length:=by have:=congrArg bL S.pre;rw[Py]at this;omega
 obtain⟨h1,tk,rfl,hk⟩:=x.done;have noA:∀b:ai,b∉(zp CX P w K mg base N qual scope f cd A outer s H E).ex:=λb z=>absurd (show b∈([]:List ai)from z) (by simp);refine⟨⟨e0.mod,S.kind,rfl,rfl,xu _,λy z c h1 h2=>?_,λy hy=>?_,λy c _ h=>?_,hd,Around.frames_deeper e0.frames,.inr ⟨rfl,rfl⟩,λb z=>absurd z (noA b),e0.bs,e0.bsz,λb _ _=>noA b,λb z=>absurd z (noA b),e0.funs,e0.frf⟩,
  rfl,e0.bare,Un.kept hk,⟨_,x.toInCall.ns,λi y v h1 h2 h3=>?_⟩,λy c h=>⟨_,x.cell y c h⟩,e0.hok.fresh (xu _),λy c h=>?_,λp hp=>absurd (show p∈([]:k8x)from hp) (by simp),e0.hok.kept hk,?_⟩
 .exact name_of_addr x.apart (Pz h1) (Pz h2)
 .have hy:scope.names.lookup y=a8 .cell\/scope.names.lookup y=a8 .free:=hy;rcases hy with hy|hy
  .exact j0i hy
  .exact absurd rfl (S.nofree _ (Pz hy))
 .exact f7 (x.above y c (Pz h))
 .have hi:i<vs.length:=by
   unfold start at h2;by_cases hi:i<vs.length
   .exact hi
   .rw[dP (by simpa using hi)]at h2;rw[iO]at h2;split at h2<;>cases h2
  have ha:vs[i]?=a8 v:=by
   unfold start at h2;rw[Tc (by simpa using hi),xn]at h2;cases e:vs[i]? with
   |none=>rw[e]at h2;cases h2
   |some a=>rw[e]at h2;cases h2;rfl
  obtain⟨u,hu,rv⟩:=r.get ha;have hp:ps[i]?=a8 y:=by rw[<-S.pre,List.getElem?_take_of_lt (by omega)];exact h1
  have ndP:ps.Nodup:=by rw[<-S.pre];exact S.nd.sublist (List.take_sublist _ _)
  refine⟨u,rv,?_⟩;rcases S.par y (Xl hp)with k|k
  .exact .inl ⟨k,Lp ndP hp hu k⟩
  .obtain⟨c,e⟩:=j0i (n:=s.heap.objs.size+1) k;refine .inr ⟨.inl k,c,e,?_⟩;have q:=x.cell y c e;rw[Lr ndP hp hu (by show scope.names.lookup y≠_;rw[k];decide)]at q;exact q
 .exact e0.hok.fresh (f7 (x.above y c (Pz h)))
 .unfold start;show _=N.length;rw[Xh,xf,dr];omega
def Inv.extOut{X:Cx}{pins:k8x}{σ:St}{H H2:Hp}{s:aq}(J:Inv X pins σ H s)(x:Ext X H H2 s):HOk X.prog X.w H2 s.heap/\(X.ex=[]->Un X.fs [] X.H₀ H2 X.s₀.heap s.heap):=by
 have old:∀b o,X.s₀.heap.get? b=a8 o->H2 b=H b:=λb o e=>(x b).elim id λ⟨y,ob,v,hc,hf,_⟩=>absurd (Xq (xx e) (J.ok.cab y b hf hc)) (tu _);have trk:∀{b:ai}{u:HO},H b=a8 u->H2 b=a8 u:=λ{b u} e=>(x b).elim (λz=>z.trans e) λ⟨y,ob,v,hc,_⟩=>by rw[J.freeC y b hc]at e;cases e
 refine⟨λa o e=>?_,λhx=>?_⟩
 .rcases x a with z|⟨y,ob,v,_,_,e2,e3,_⟩
  .exact(J.hok a o (z▸e)).stay (λ_ _ _ q=>q) (λ_ q=>trk q) (λ_ _ q=>trk q) λ_ _ _ q=>trk q
  .rw[e2]at e;cases e;exact⟨e3,ob,e3⟩
 .have nx:∀b,b∉X.ex:=λb=>by rw[hx];simp
  exact⟨λb o e n hb _=>J.base.keep b o e n hb (nx b),λb o e n hb _=>J.base.slot b o e n hb (nx b),λb o e n _=>(old b o e).trans (J.base.free b o e n (nx b)),λb o e _=>J.base.there b o e (nx b),
   λb xs e=>trk (J.base.tups b xs e),λb o u e=>trk (J.base.frzs b o u e),λb ps e=>let ⟨m,z⟩:=J.base.tbls b ps e;⟨m,trk z⟩⟩
def j9t{CX:CXT}{P:az}{w:aE}{K:k8v}{mg:k8y}{base:aH}{k:Nat}{f:ai}{name qual:ar}{params:jU}{body:List aP}{scope:bH}{dV kV doc pm cdv ct oc:aj}{an od:Option ai}
  {osl:Array (Option aj)} {N ps:List ar} {sp:Sp} (lk:K.lookup f=a8 ⟨oc,od,.func (W.fnOf name qual params body scope dV kV doc pm an cdv ct),osl⟩) (hcd:W.codeIn K cdv qual=ae) (S:FnScope N ps scope)
  (len:∀vs H Q E,sp vs H Q E->vs.length=ps.length)
  (hbody:∀(A:aF)(outer:List dO)(s:aq)(H:Hp)(vs:List V)(Q:VK)(E:XK),Room k (A.deeper (bQ qual scope s.heap.objs.size f cdv))->sp vs H Q E ->
   ∃t,PSs (zp CX P w K mg base N qual scope f cdv A outer s H E) body t/\t { nx:=λ_ H'=>Q .non H',rt:=Q } (start N vs) H) :
  FnOk P w K mg base CX (k+1) f (W.fnOf name qual params body scope dV kV doc pm an cdv ct) ps sp:=by
 refine⟨len,λA outer s H args us vs Q E hr e0 hb r hsp=>?_⟩;have hl:=len _ _ _ _ hsp;have KX:K.In s.heap:=e0.mod.kin.keeps λb o e=>(e0.bs b o e).1;have lim:s.heap.NoLimit:=e0.mod.nolimit.keeps λb o e=>(e0.bs b o e).1;have hkind:∀y∈ps.zip us,scope.names.lookup y.1=a8 .local\/(scope.names.lookup y.1=a8 .cell/\((aT (s.heap.objs.size+1) scope.names []).lookup y.1).isSome=ae):=λ⟨n,v⟩ hy=>by
  rcases S.par n (f9 hy).1 with q|q
  .exact .inl q
  .exact .inr ⟨q,W.cellsFrom_some _ _ _ (.inl q)⟩
 refine codeAny_call_function hr.depth (KX _ _ lk) rfl S.co S.gen rfl (W.codeRec_of KX hcd) (hb _ _ _ _ ?_);refine wpAny_newFunctionEnv_cells S.kind hkind λenv he s1 x=>?_;subst he;refine⟨lim.keeps x.toInCall.keep,codeAny_func ?_⟩;obtain⟨t,ht,hq⟩:=hbody A outer s H vs Q E (hr.deeper _) hsp;have I:Inv (zp CX P w K mg base N qual scope f cdv A outer s H E) [] (start N vs) H s1:=j57 S ae (λ_=>hr.hd) e0 hl r x;refine bV (ht [] s1 (start N vs) H _ I hq) (λfl s' hs=>?_) λe s' hs=>hs;have fin:∀{σ':St}{H':Hp}{v:V}{u:aj},Inv (zp CX P w K mg base N qual scope f cdv A outer s H E) [] σ' H' s'->RelV v u->Q v H'->CE outer P w H s Q u s' :=
  λ{σ' H' v u} J rv q=>⟨v,H',J.os,J.bare,J.base,J.hok,rv,q⟩
 cases fl with
 |ret u =>obtain⟨v,σ',H',H2,J,rv,x,q⟩:=hs;exact⟨v,H2,J.os,J.bare,(J.extOut x).2 rfl,(J.extOut x).1,rv,q⟩
 |next =>obtain⟨σ',H',J,q⟩:=hs;exact fin (v:=V.non) (u:=b8) J rfl q
 |brk =>obtain⟨_,_,_,q⟩:=hs;exact bp q
 |cont =>obtain⟨_,_,_,q⟩:=hs;exact bp q
section
variable{X:Cx}{x:ar}{p pos:aO}{e:au}{es:List au}{t:TA}{id T:String}{r:List V->Hp->VK->Prop}
def tCB(r:List V->Hp->VK->Prop)(t:TA):TE:=λσ H Q=>t σ H λvs H1=>r vs H1 Q
def v5 (hc:J5 X (.builtin id) r) (hg:Gl X x) (hm:X.mg x=af) (hv:bA x=a8 (.builtin id)) (ha:PA X (e::es) t) (hn:x ≠ "__name__":=by decide) (hdb:(x==k8z)=aa:=by decide)
  (he:ah (e::es) X.env=(aa,aD e X.env)::ah es X.env:=by rfl) (hpl:(aU pos (ah es X.env)).any (·.1)=aa:=by rfl):PE X (.Call (.Name x p) (e::es) [] pos) (tCB r t):=by
 intro pins s σ H Q I h;refine aY (Jx I hg hm hv ?_ hn hdb);exact callWith_builtin1 (thn (ha pos pins s σ H _ I h) λus s1 ⟨vs,H1,I1,r1,q1⟩=>hc pins s1 σ H1 vs us Q I1 r1 q1) he hpl
def Vf (hc:J5 X (.type T) r) (hg:Gl X x) (hm:X.mg x=af) (hv:bA x=a8 (.type T)) (ha:PA X (e::es) t) (hn:x ≠ "__name__":=by decide) (hdb:(x==k8z)=aa:=by decide)
  (he:ah (e::es) X.env=(aa,aD e X.env)::ah es X.env:=by rfl) (hpl:(aU pos (ah es X.env)).any (·.1)=aa:=by rfl):PE X (.Call (.Name x p) (e::es) [] pos) (tCB r t):=by
 intro pins s σ H Q I h;refine aY (Jx I hg hm hv ?_ hn hdb);exact callWith_type1 (thn (ha pos pins s σ H _ I h) λus s1 ⟨vs,H1,I1,r1,q1⟩=>hc pins s1 σ H1 vs us Q I1 r1 q1) he hpl
end
end L2
namespace HT
open PySem PyProof.Rows
noncomputable def lexLt:zo->zo->Bool
 |[],[]=>aa
 |[],_::_=>ae
 |_::_,[]=>aa
 |x::xs,y::ys=>if x=y then lexLt xs ys else decide (x<y)
def j33(x y:Int)(xs ys:zo):lexLt (x::xs) (y::ys)=if x=y then lexLt xs ys else decide (x<y):=rfl
def K7:lexLt [] []=aa:=rfl
def Dc(y:Int)(ys:zo):lexLt [] (y::ys)=ae:=rfl
def De(x:Int)(xs:zo):lexLt (x::xs) []=aa:=rfl
def j8b(A:aF)(s:aq)(a:Int)(t:iR)(c:Int)(u:iR):∃e,dm A s (.int a t) (.int c u) e/\(e=ae↔a=c) :=
 ⟨(a==c),SeqAt.EqAt.int_int a t c u,by simp⟩
def j6y(A:aF)(s:aq)(a:Int)(t:iR)(c:Int)(u:iR)(prog:az)(w:aE)(E:k8w)(Q:k8w)(h:Q (.bool (decide (a<c))) s) :
  av (aC prog w) A (gh .Lt (.int a t) (.int c u)) Q E s :=
 (lt_int h:av (aC prog w) A (aX .Lt (.int a t) (.int c u)) Q E s)
section
open PySem.SeqAt
open PySem.AutoSeq1 (wpAny_loadPart')
open PySem.MeetsSeq PySem.MeetsSeq2 PySem.MeetsSeq3
def Lx(l b:ai)(items items2:Array aj)(n n2:Nat)(dd dd2:Option ai)(sl sl2:Array (Option aj))(ns ms:zo)(hi:dz items.toList ns)(hj:dz items2.toList ms) :
  kK (cS.«tuple.__lt__» ⟨[.ref l,.ref b],[]⟩)
   (λ_ R s=>s.heap.get? l=a8 { cls:=.type "tuple",dict:=dd,data:=.seq items n,slots:=sl }/\s.heap.get? b=a8 { cls:=.type "tuple",dict:=dd2,data:=.seq items2 n2,slots:=sl2 } /\
    R (.ok (.ret (.bool (lexLt ns ms)))) s) :=
 .of_wp λprog w A R s h=>by
  obtain⟨hp,g,d,tk,os⟩:=s;obtain⟨hl,hb,h⟩:=h;have f2:=AutoSeq1.sub_tuple_tuple;have z1:items.size=ns.length:=by rw[<-hi.length];simp
  have z2:items2.size=ms.length:=by rw[<-hj.length];simp
  wp_walk using iN hl,iN hb,fq _ (λrest b s'=>b.1=af/\s'=⟨hp,g,d,tk,os⟩/\∃(vs ws:List aj)(ns' ms':zo),rest=vs.zip ws /\
   dz vs ns'/\dz ws ms'/\ns'.length+items2.size=ms'.length+items.size/\R (.ok (.ret (.bool (lexLt ns' ms')))) ⟨hp,g,d,tk,os⟩) _
  case turn =>
   rintro⟨y,x⟩ rest b s' ⟨hb',rfl,vs,ws,ns',ms',hz,hvi,hwi,hlen,hR⟩;cases hvi with
   |nil=>rw[List.zip_nil_left]at hz;cases hz
   |cons a t hvi' =>
    cases hwi with
    |nil=>rw[List.zip_nil_right]at hz;cases hz
    |cons c u hwi' =>
     rw[jX]at hz;injection hz with hyx hrest;injection hyx with hy hx;subst hy hx;rw[j33]at hR;simp only[X7]at hlen;obtain⟨e,he,hiff⟩:=j8b A.in1 ⟨hp,g,d,tk,os⟩ a t c u;refine a9 (he prog w _ _ ?_);cases e with
     |true =>
      rw[if_pos (hiff.mp rfl)]at hR
      wp_walk
      exact⟨rfl,rfl,_,_,_,_,hrest,hvi',hwi',by omega,hR⟩
     |false =>
      rw[if_neg (λq=>absurd (hiff.mpr q) xj)]at hR;have hri:=j6y A.in1 ⟨hp,g,d,tk,os⟩ a t c u prog w
      wp_walk using hri
      exact⟨_,rfl,by simpa using hR⟩
  case fin =>
   rintro⟨b1,b2⟩ s' ⟨hb',rfl,vs,ws,ns',ms',hz,hvi,hwi,hlen,hR⟩;simp only at hb';subst hb';have hv:lexLt ns' ms'=decide (items.size<items2.size):=by
    cases hvi with
    |nil =>
     cases hwi with
     |nil =>simp only[Pb]at hlen;rw[K7];exact(decide_eq_false (by omega)).symm
     |cons c u hw =>simp only[Pb,X7]at hlen;rw[Dc];exact(decide_eq_true (by omega)).symm
    |cons a t hv =>
     cases hwi with
     |nil =>simp only[Pb,X7]at hlen;rw[De];exact(decide_eq_false (by omega)).symm
     |cons c u hw =>rw[jX]at hz;cases hz
   rw[hv]at hR
   wp_walk
   exact⟨_,rfl,by simpa [mf]using hR⟩
  case h =>exact⟨rfl,rfl,items.toList,items2.toList,ns,ms,rfl,hi,hj,by omega,h⟩
end
section
variable{prog:az}{w:aE}{A:aF}{E:k8w}{s:aq}
def lt_tupInts{l b:ai}{items items2:Array aj}{ns ms:zo}{Q:k8w}(hl:iJ s.heap l items)(hb:iJ s.heap b items2)(hi:dz items.toList ns)(hj:dz items2.toList ms)
  (hu:A.units<aZ) (h:Q (.bool (lexLt ns ms)) s):av (aC prog w) A (aX .Lt (.ref l) (.ref b)) Q E s:=by
 obtain⟨⟨cls,dd,data,sl⟩,ho,hc,n,hd⟩:=id hl;obtain⟨⟨cls2,dd2,data2,sl2⟩,ho2,hc2,n2,hd2⟩:=id hb;simp only at hc hd hc2 hd2;subst hc hd hc2 hd2;exact richCompare_meets_room (op:=.Lt) ⟨_,ho,rfl⟩ ⟨_,ho2,rfl⟩ PySem.F.slot_tuple_lt PySem.F.entry_tuple_lt (PySem.F.args_tuple_lt_2 _ _) (Lx l b items items2 n n2 dd dd2 sl sl2 ns ms hi hj)
  ⟨ho,ho2,show bW (lexLt ns ms)≠iT/\Q (.bool (lexLt ns ms)) s from⟨(λx=>nomatch x),h⟩⟩ hu
def cat_tup{t b:ai}{vs ws:List aj}{Q:k8w}(ht:iJ s.heap t vs.toArray)(hb:iJ s.heap b ws.toArray)(hv:vs≠[])
  (h1:ws=[]->Q (.ref t) s) (h2:ws≠[]->Q (.ref s.heap.objs.size) { s with heap:=s.heap.push { cls:=.type "tuple",data:=.seq (vs++ws).toArray } })
  (hsz:vs.length+ws.length<=aw):av (aC prog w) A (bB .Add (.ref t) (.ref b)) Q E s:=by
 obtain⟨⟨cls,dd,data,sl⟩,ho,hc,n,hd⟩:=id ht;obtain⟨⟨cls2,dd2,data2,sl2⟩,ho2,hc2,n2,hd2⟩:=id hb;simp only at hc hd hc2 hd2;subst hc hd hc2 hd2;have e:vs.toArray++ws.toArray=(vs++ws).toArray:=by simp
 by_cases hw:ws=[]
 .exact ij ⟨_,ho,rfl⟩ ⟨_,ho2,rfl⟩ iB jI eG dY (dR _ _)
   (tuple_addW1 t b vs.toArray ws.toArray n n2 dd dd2 sl sl2 (by simpa using hv) (by simp[hw])) ⟨ho,ho2,h1 hw⟩
 .refine ij ⟨_,ho,rfl⟩ ⟨_,ho2,rfl⟩ iB jI eG dY (dR _ _)
   (tuple_addW2 t b vs.toArray ws.toArray n n2 dd dd2 sl sl2 (by simpa using hv) (by simpa using hw) (by rw[X5,X5];exact hsz)) ⟨ho,ho2,?_⟩
  rw[e];exact h2 hw
noncomputable def sIx(n d:Nat):Option Int->Nat
 |none=>d
 |some v=>if v<0 then(v+(n:Int)).toNat else min v.toNat n
def jdw(n d:Nat)(hd:d<=n)(o:Option Int):sIx n d o<=n:=by
 cases o with
 |none=>exact hd
 |some v =>
  show(if v<0 then(v+(n:Int)).toNat else min v.toNat n)<=n;by_cases hv:v<0
  .rw[if_pos hv];omega
  .rw[if_neg hv];exact Nat.min_le_right _ _
def j23(v:Int)(n d:Nat):(if v<0 then max (v+(n:Int)) 0 else min v (n:Int))=((sIx n d (a8 v):Nat):Int):=by
 show(if v<0 then max (v+(n:Int)) 0 else min v (n:Int))=(((if v<0 then(v+(n:Int)).toNat else min v.toNat n):Nat):Int)
 by_cases hv:v<0
 .simp only[if_pos hv];omega
 .simp only[if_neg hv];omega
def j3l(lo hi:Option Int)(n:Nat):du lo hi 1 (n:Int)=(((sIx n 0 lo:Nat):Int),((sIx n n hi:Nat):Int)):=by
 have h1:¬((1:Int)<0):=by omega
 unfold du;simp only[h1,if_false];refine Prod.ext ?_ ?_
 .cases lo with
  |none=>rfl
  |some v=>exact j23 v n 0
 .cases hi with
  |none=>rfl
  |some v=>exact j23 v n n
def j2s(i j:Nat):c7 (i:Int) (j:Int) 1=j-i:=by
 unfold c7;have h1:(1:Int)>0:=by omega
 simp only[h1,if_true,Int.ediv_one];split<;>omega
def Bj{v:aj}{o:Option Int}{Q:Option Int->aq->Prop}(p:gr v o)(h:Q o s):av (aC prog w) A (mh v) Q E s:=by
 cases p with
 |none=>exact o3 h
 |int i t=>exact slicePart_int h
def O9{sl:ai}{vl vu:aj}{lo hi:Option Int}{n:Nat}{Q:Int×Int×Nat->aq->Prop}(hs:s.heap.IsSliceOf sl vl vu .none)(pl:gr vl lo)(pu:gr vu hi)
  (h:Q (((sIx n 0 lo:Nat):Int),1,sIx n n hi-sIx n 0 lo) s):av (aC prog w) A (fU (.ref sl) (pure (n:Int))) Q E s:=by
 obtain⟨os,hos,hcs,hds⟩:=id hs;unfold fU mi;refine a9 (a9 (bo hos hds (x:=vl) rfl (a9 (bo hos hds (x:=vu) rfl (a9 (bo hos hds (x:=.none) rfl (ak ?_)))))));refine a9 (o3 ?_);show av _ _ (if ((1:Int)==0)=ae then _ else _) _ _ s;rw[if_neg (by decide)];refine a9 (Bj pl (a9 (Bj pu (a9 (ak ?_)))));show av _ _ (match du lo hi 1 (n:Int)with|(lo,hi)=>pure (lo,(1:Int),c7 lo hi 1)) _ _ s;rw[j3l lo hi n];show av _ _ (pure (((sIx n 0 lo:Nat):Int),(1:Int),c7 ((sIx n 0 lo:Nat):Int) ((sIx n n hi:Nat):Int) 1)) _ _ s;rw[j2s];exact ak h
def j72(xs:Array aj)(i k:Nat):((aA k).filterMap λ(m:Nat)=>xs[((i:Int)+(m:Int)*1).toNat]?).toArray=((xs.toList.drop i).take k).toArray:=by
 have e:(λ(m:Nat)=>xs[((i:Int)+(m:Int)*1).toNat]?)=λm=>xs[i+m]?:=by
  funext m
  have:((i:Int)+(m:Int)*1).toNat=i+m:=by omega
  rw[this]
 rw[e];have:=pick_run xs i k;rw[List.filterMap_map]at this;have e2:((λx=>xs[x]?) ∘ λx=>i+x)=λm=>xs[i+m]?:=rfl;rw[e2]at this;rw[this]
def getItem_tuple_cut{t sl:ai}{items:Array aj}{vl vu:aj}{lo hi:Option Int}{Q:k8w}(ht:iJ s.heap t items)(hs:s.heap.IsSliceOf sl vl vu .none)(pl:gr vl lo)(pu:gr vu hi)
  (hw:¬(sIx items.size 0 lo=0/\sIx items.size items.size hi=items.size))
  (h:Q (.ref s.heap.objs.size) { s with heap:=s.heap.push { cls:=.type "tuple",data:=.seq ((items.toList.drop (sIx items.size 0 lo)).take (sIx items.size items.size hi-sIx items.size 0 lo)).toArray } })
  (hsz:items.size<=aw):av (aC prog w) A (kc (.ref t) (.ref sl)) Q E s:=by
 have htake:sizeOk (.seq ((items.toList.drop (sIx items.size 0 lo)).take (sIx items.size items.size hi-sIx items.size 0 lo)).toArray):=by show((items.toList.drop (sIx items.size 0 lo)).take (sIx items.size items.size hi-sIx items.size 0 lo)).toArray.size<=aw;rw[X5,Py,eN,cM];omega
 have hj:sIx items.size items.size hi<=items.size:=jdw _ _ (xu _) hi;obtain⟨os,hos,hcs,hds⟩:=id hs;have hTs:s.TypeIs (.ref sl) "slice":=⟨os,hos,hcs⟩
 unfold kc
 try with_reducible refine bj ?_
 first|refine a9 (ak ?_)|skip
 refine a9 (wpAny_sequenceKey ht.typeIs (by decide) ?_);refine a9 (b9 (name:=aQ "__getitem__") ht.typeIs lC
  (b7 lC ht.typeIs entry_tuple_getitem ?_ (args_tuple_getitem _ _)))
 show av _ _ (md (.ref t) >>= _) _ _ s;refine a9 (tupleItemsOf_ ht ?_);refine a9 (wpAny_typeOf hTs ?_);rw[if_pos (by decide)];refine a9 (O9 hs pl pu ?_);have hno:¬((((sIx items.size 0 lo:Nat):Int)==0&&(1:Int)==1&&(sIx items.size items.size hi-sIx items.size 0 lo)==items.size)=ae):=by intro q;rw[Xg,Xg]at q;have q1:((sIx items.size 0 lo:Nat):Int)=0:=eq_of_beq q.1.1;have q2:sIx items.size items.size hi-sIx items.size 0 lo=items.size:=eq_of_beq q.2;exact hw ⟨by omega,by omega⟩
 show av _ _ (if (((sIx items.size 0 lo:Nat):Int)==0&&(1:Int)==1&&(sIx items.size items.size hi-sIx items.size 0 lo)==items.size)=ae then _ else _) _ _ s;rw[if_neg hno,j72]
 first
  |exact a9 (m:=cb _) (bf (ak ⟨_,rfl,ak h⟩) htake)
  |exact a9 (m:=cb _) (bf (a9 (ak (ak ⟨_,rfl,ak h⟩))) htake)
  |exact a9 (a9 (m:=cb _) (bf (ak (ak ⟨_,rfl,ak h⟩)) htake))
  |exact a9 (a9 (m:=cb _) (bf (ak ⟨_,rfl,ak h⟩) htake))
end
end HT
namespace L2
open PySem PySem.Spec PyProof.Rows
abbrev TO:=St->Hp->(Option Int->Hp->Prop)->Prop
def PO(X:Cx)(e:Option au)(t:TO):Prop :=
 ∀(pins:k8x) (s:aq) (σ:St) (H:Hp) (Q:Option Int->Hp->Prop),Inv X pins σ H s->t σ H Q ->
  av (aC X.prog X.w) X.A (evalPart e X.env) (λu s'=>∃o H',Inv X pins σ H' s'/\gr u o/\Q o H') X.xe s
def jag:TO:=λ_ H Q=>Q af H
def jhr(t:TE):TO:=λσ H Q=>t σ H λx H1=>∃i,x=.int i/\Q (a8 i) H1
def intsAre_of{ns:zo}:∀{us:List aj},Vals (ns.map V.int) us->dz us ns:=by
 induction ns with
 |nil=>intro us r;rw[cG]at r;cases r;exact .nil
 |cons n ns ih =>
  intro us r;rw[X6]at r;cases r with
  |cons r1 r2 =>obtain⟨t,e⟩:=r1;subst e;exact .cons n t (ih r2)
section
variable{X:Cx}{e:au}{te:TE}{lo hi:Option au}{tl th:TO}{pos p2:aO}
def jb5:PO X af jag:=by intro pins s σ H Q I h;rw[o9];exact ak ⟨af,H,I,.none,h⟩
def jb4(h:PE X e te):PO X (a8 e) (jhr te):=by intro pins s σ H Q I hw;rw[evalPart_some];refine thn (h pins s σ H _ I hw) λu s1 ⟨x,H1,I1,r1,q1⟩=>?_;obtain⟨i,rfl,q⟩:=q1;obtain⟨t,rfl⟩:=r1;exact⟨a8 i,H1,I1,.int i t,q⟩
def SlR(X:Cx)(r:V->Option Int->Option Int->Hp->VK->Prop):Prop :=
 ∀(pins:k8x) (s:aq) (σ:St) (H:Hp) (x:V) (v vl vu:aj) (lo hi:Option Int) (sl:ai) (Q:VK),Inv X pins σ H s->RelV x v->s.heap.IsSliceOf sl vl vu .none->gr vl lo->gr vu hi->r x lo hi H Q ->
  ∃T id,typeLookup (.type T) "__getitem__" = pure (a8 (.builtin id))/\s.TypeIs v T/\av (aC X.prog X.w) X.A (kc v (.ref sl)) (EP X pins σ Q) X.xe s
def tSl(r:V->Option Int->Option Int->Hp->VK->Prop)(te:TE)(tl th:TO):TE:=λσ H Q=>te σ H λx H1=>tl σ H1 λl H2=>th σ H2 λu H3=>r x l u H3 Q
def Og{r:V->Option Int->Option Int->Hp->VK->Prop}(hr:SlR X r)(he:PE X e te)(hl:PO X lo tl)(hu:PO X hi th):PE X (.Subscript e (.Slice lo hi af p2) pos) (tSl r te tl th):=by intro pins s σ H Q I h;refine Subscript_ (thn (he pins s σ H _ I h) λv s1 ⟨x,H1,I1,r1,q1⟩=>?_);refine wpAny_Slice (thn (hl pins s1 σ H1 _ I1 q1) λvl s2 ⟨l,H2,I2,pl,q2⟩=>thn (hu pins s2 σ H2 _ I2 q2) λvu s3 ⟨u,H3,I3,pu,q3⟩=>?_);rw[o9];refine ak ?_;have I4:Inv X pins σ H3 { s3 with heap:=s3.heap.push { cls:=.type "slice",data:=.fields #[vl,vu,.none] } }:=I3.kept (t':=s3.toks) λb ob q=>kj _ q;obtain⟨T,id,hT,ht,hg⟩:=hr pins { s3 with heap:=s3.heap.push { cls:=.type "slice",data:=.fields #[vl,vu,.none] } } σ H3 x v vl vu l u s3.heap.objs.size Q I4 r1 (Heap.IsSliceOf.new ..) pl pu q3;show av (aC X.prog X.w) X.A (oh e (.Slice lo hi af p2) v (.ref s3.heap.objs.size)) (EP X pins σ Q) X.xe { s3 with heap:=s3.heap.push { cls:=.type "slice",data:=.fields #[vl,vu,.none] } };exact o1 (ops:=[.ref s3.heap.objs.size,v]) ht hT hg (by with_unfolding_all rfl)
noncomputable def Rw(xs:List V)(lo hi:Option Int):List V:=(xs.drop (HT.sIx xs.length 0 lo)).take (HT.sIx xs.length xs.length hi-HT.sIx xs.length 0 lo)
def O3(xs:List V)(lo hi:Option Int):(Rw xs lo hi).length<=xs.length:=by unfold Rw;rw[Py,eN];omega
def jkm(K:k8v):V->Option Int->Option Int->Hp->VK->Prop:=λx lo hi H Q=>∃a xs,x=.ref a/\SqT K H a xs /\
 ¬(HT.sIx xs.length 0 lo=0/\HT.sIx xs.length xs.length hi=xs.length)/\∀p,H p=af->Q (.ref p) (upd H p (.tup (Rw xs lo hi)))
def jdp:SlR X (jkm X.K):=by
 intro pins s σ H x v vl vu lo hi sl Q I rx hs pl pu h;obtain⟨a,xs,rfl,hx,hw,q⟩:=h;cases rx;obtain⟨its,r,ht,hz⟩:=I.tuple hx;have hlen:its.toArray.size=xs.length:=by rw[X5];exact r.length.symm
 refine⟨"tuple",_,slot_tuple_getitem.lookup,ht.typeIs,?_⟩;refine HT.getItem_tuple_cut ht hs pl pu (by rw[hlen];exact hw) ?_ (by rw[hlen];exact hz);rw[hlen];refine⟨.ref s.heap.objs.size,_,I.laid (t':=s.toks) (o:=.tup (Rw xs lo hi)) (λb ob q=>kj _ q) (xu _) ?_,rfl,q _ (I.hok.fresh (xu _))⟩;exact⟨Xd (O3 xs lo hi) hz,_,(r.drop (HT.sIx xs.length 0 lo)).take (HT.sIx xs.length xs.length hi-HT.sIx xs.length 0 lo),IsTup.new _ _,Zz.new _ _⟩
def jia(K:k8v):R2:=λx y H Q=>∃a b xs ys,x=.ref a/\y=.ref b/\SqT K H a xs/\SqT K H b ys/\xs≠[]/\xs.length+ys.length<=aw /\
 (ys=[]->Q (.ref a) H)/\(ys≠[]->∀p,H p=af->Q (.ref p) (upd H p (.tup (xs++ys))))
def Vals.nil_iff{xs:List V}{us:List aj}(r:Vals xs us):us=[]↔xs=[]:=by
 cases r with
 |nil=>simp
 |cons _ _=>simp
def jbe:OpR X (bB .Add) (jia X.K):=by intro pins s σ H x y v u Q I rx ry h;obtain⟨a,b,xs,ys,rfl,rfl,ha,hb,hx,hz,q1,q2⟩:=h;cases rx;cases ry;obtain⟨its,r1,p1,_⟩:=I.tuple ha;obtain⟨its2,r2,p2,_⟩:=I.tuple hb;refine HT.cat_tup p1 p2 (λz=>hx (r1.nil_iff.mp z)) (λz=>⟨.ref a,H,I,rfl,q1 (r2.nil_iff.mp z)⟩) (λz=>?_) (by rw[<-r1.length,<-r2.length];exact hz);refine⟨.ref s.heap.objs.size,_,I.laid (t':=s.toks) (o:=.tup (xs++ys)) (λb ob q=>kj _ q) (xu _) ?_,rfl,q2 (λw=>z (r2.nil_iff.mpr w)) _ (I.hok.fresh (xu _))⟩;exact⟨by rw[Xh];exact hz,_,r1.append r2,IsTup.new _ _,Zz.new _ _⟩
end
noncomputable def ixN(n:Nat)(i:Int):Option Nat:=if 0<=i then(if i<n then a8 i.toNat else af)else if -(n:Int)<=i then a8 (i+n).toNat else af
noncomputable def atI{α:Type}(xs:List α)(i:Int):Option α:=(ixN xs.length i).bind λj=>xs[j]?
def jbt{n:Nat}{i:Int}{j:Nat}(h:ixN n i=a8 j):seqIndex? i n=a8 j/\j<n/\-(n:Int)<=i/\i<n:=by
 unfold ixN at h;by_cases h0:0<=i
 .rw[if_pos h0]at h;by_cases h1:i<n
  .rw[if_pos h1]at h;have e:i.toNat=j:=ax h;exact⟨by rw[seqIndex_of h0 h1,e],by omega,by omega,h1⟩
  .rw[if_neg h1]at h;cases h
 .rw[if_neg h0]at h;by_cases h1:-(n:Int)<=i
  .rw[if_pos h1]at h;have e:(i+n).toNat=j:=ax h;exact⟨by rw[seqIndex_neg (by omega) h1,e],by omega,h1,by omega⟩
  .rw[if_neg h1]at h;cases h
def Ds{α:Type}{xs:List α}{i:Int}{v:α}(h:atI xs i=a8 v):∃j,seqIndex? i xs.length=a8 j/\xs[j]?=a8 v/\j<xs.length/\-(xs.length:Int)<=i/\i<xs.length:=by
 unfold atI at h;cases e:ixN xs.length i with
 |none=>rw[e]at h;cases h
 |some j =>rw[e]at h;obtain⟨h1,h2,h3,h4⟩:=jbt e;exact⟨j,h1,h,h2,h3,h4⟩
def jd4{α:Type}{xs:List α}{j:Nat}{v:α}(h:xs[j]?=a8 v):atI xs (j:Int)=a8 v:=by
 have hj:j<xs.length:=(X4.mp h).1;have e:ixN xs.length (j:Int)=a8 j:=by unfold ixN;rw[if_pos (by omega),if_pos (by omega)];simp
 unfold atI;rw[e];exact h
def Jz(b:au):Prop:=∀o i,subscripted b aa o i=operate [o,i] (kc o i)
def IxR(X:Cx)(r:R2):Prop :=
 ∀(value slice:au)(pins:k8x) (s:aq) (σ:St) (H:Hp) (x y:V) (v u:aj) (Q:VK),Inv X pins σ H s->RelV x v->RelV y u->r x y H Q ->
  subscripted slice aa v u=operate [v,u] (kc v u)->av (aC X.prog X.w) X.A (oh value slice v u) (EP X pins σ Q) X.xe s
def MtR(X:Cx)(id:String)(r:V->List V->Hp->VK->Prop):Prop :=
 ∀(pins:k8x) (s:aq) (σ:St) (H:Hp) (x:V) (xs:List V) (v:aj) (us:List aj) (Q:VK),Inv X pins σ H s->RelV x v->Vals xs us->r x xs H Q ->
  av (aC X.prog X.w) X.A (call (.builtin id) (v::us)) (EP X pins σ Q) X.xe s
section
variable{X:Cx}{a b:au}{ta tb:TE}{pos:aO}
def Yy{r:R2}(hr:IxR X r)(ha:PE X a ta)(hb:PE X b tb)(hs:Jz b):PE X (.Subscript a b pos) (tOp r ta tb):=by intro pins s σ H Q I h;exact Subscript_ (j8t ha hb I h λv u s2 x y H2 I2 rx ry q=>hr a b pins s2 σ H2 x y v u Q I2 rx ry q (hs _ _))
def je3(K:k8v):R2:=λx y H Q=>∃p xs i v,x=.ref p/\y=.int i/\SqL K H p xs/\atI xs i=a8 v/\Q v H
def je1(K:k8v):R2:=λx y H Q=>∃p xs i v,x=.ref p/\y=.int i/\SqT K H p xs/\atI xs i=a8 v/\Q v H
def je2:R2:=λx y H Q=>∃z i c,x=.str z/\y=.int i/\z.length<=aw/\atI z.cps.toList i=a8 c/\Q (.str ⟨#[c]⟩) H
def jbs:IxR X (je3 X.K):=by
 intro value slice pins s σ H x y v u Q I rx ry h hs;obtain⟨p,xs,i,z,rfl,rfl,hq,he,q⟩:=h;cases rx;obtain⟨t,rfl⟩:=ry;obtain⟨its,r,pl,hz⟩:=I.list hq;obtain⟨j,h1,h2,h3,h4,h5⟩:=Ds he;obtain⟨w,ew,rw'⟩:=r.get h2;have hl:=r.length;have hn:=Yi;have fin:EP X pins σ Q w s:=⟨z,H,I,rw',q⟩
 by_cases h0:0<=i
 .have hj:i.toNat=j:=by rw[seqIndex_of h0 h5]at h1;exact ax h1
  exact item_listR pl.isList h0 (by omega) (by rw[hj];simpa using ew) fin hs
 .have hj:(i+(its.toArray.size:Int)).toNat=j:=by rw[seqIndex_neg (by omega) h4]at h1;rw[X5,<-hl];exact ax h1
  exact ke (x:=w) pl.isList.typeIs slot_list_getitem.lookup
   (wpAny_getItem_list_neg (Q:=λr s'=>r=w/\EP X pins σ Q r s') pl.isList (by omega) (by rw[X5]<;>omega) (by omega) (by rw[hj];simpa using ew) ⟨rfl,fin⟩) hs
def Rj:IxR X (je1 X.K):=by
 intro value slice pins s σ H x y v u Q I rx ry h hs;obtain⟨p,xs,i,z,rfl,rfl,hq,he,q⟩:=h;cases rx;obtain⟨t,rfl⟩:=ry;obtain⟨its,r,pl,hz⟩:=I.tuple hq;obtain⟨j,h1,h2,h3,h4,h5⟩:=Ds he;obtain⟨w,ew,rw'⟩:=r.get h2;have hl:=r.length;have hn:=Yi;have fin:EP X pins σ Q w s:=⟨z,H,I,rw',q⟩
 exact ke (x:=w) pl.typeIs slot_tuple_getitem.lookup
  (getItem_tuple (j:=j) (Q:=λr s'=>r=w/\EP X pins σ Q r s') pl (by omega) (by omega) (by rw[X5,<-hl];exact h1) (by simpa using ew) ⟨rfl,fin⟩) hs
def jfh:IxR X je2:=by
 intro value slice pins s σ H x y v u Q I rx ry h hs;obtain⟨z,i,c,rfl,rfl,hz,he,q⟩:=h;obtain⟨t,rfl⟩:=rx;obtain⟨t',rfl⟩:=ry;obtain⟨j,h1,h2,h3,h4,h5⟩:=Ds he;have hl:z.cps.toList.length=z.length:=by simp[nN]
 rw[hl]at h1 h4 h5;have hn:=Yi;exact o1 (iY s z t) slot_str_getitem.lookup (getItem_str (c:=c) (by
  have e1:decide (i < -(2^63:Int))=aa:=decide_eq_false (by omega)
  have e2:decide (i>=2^63)=aa:=decide_eq_false (by omega)
  rw[e1,e2,iL]) (by rw[h1];simpa using h2) ⟨.str ⟨#[c]⟩,H,I.tok _,⟨_,rfl⟩,q⟩) hs
def Ih(lo hi:Option Int)(n:Nat):(dJ lo hi af n).1=((HT.sIx n 0 lo:Nat):Int)/\(dJ lo hi af n).2.1=((HT.sIx n n hi:Nat):Int)/\(dJ lo hi af n).2.2=1:=by
 refine⟨?_,?_,rfl⟩
 .cases lo with
  |none=>simp[dJ,HT.sIx]
  |some i =>
   simp only[dJ,HT.sIx,jW,show(1:Int)>0 by decide,if_true];by_cases h:i<0
   .simp only[h,if_true]<;>omega
   .simp only[h,if_false]<;>omega
 .cases hi with
  |none=>simp[dJ,HT.sIx]
  |some i =>
   simp only[dJ,HT.sIx,jW,show(1:Int)>0 by decide,if_true];by_cases h:i<0
   .simp only[h,if_true]<;>omega
   .simp only[h,if_false]<;>omega
def K4(its:List aj)(lo hi:Option Int):slicePick its.toArray lo hi af=((its.drop (HT.sIx its.length 0 lo)).take (HT.sIx its.length its.length hi-HT.sIx its.length 0 lo)).toArray:=by obtain⟨h1,h2,h3⟩:=Ih lo hi its.toArray.size;unfold slicePick;rw[h1,h2,h3];simp only[sliceRange_one,pick_run,X5]<;>rfl
def jko(K:k8v):V->Option Int->Option Int->Hp->VK->Prop:=λx lo hi H Q=>∃a xs,x=.ref a/\SqL K H a xs/\∀p,H p=af->Q (.ref p) (upd H p (.lst (Rw xs lo hi)))
def jam:SlR X (jko X.K):=by intro pins s σ H x v vl vu lo hi sl Q I rx hs pl pu h;obtain⟨a,xs,rfl,hx,q⟩:=h;cases rx;obtain⟨its,r,ht,hz⟩:=I.list hx;have hlen:=r.length;refine⟨"list",_,slot_list_getitem.lookup,ht.isList.typeIs,?_⟩;refine wpAny_getItem_list_slice ht.isList hs pl pu .none (by simp) ?_ (by rw[X5]<;>omega);rw[K4,<-hlen];refine⟨.ref s.heap.objs.size,_,I.laid (t':=s.toks) (o:=.lst (Rw xs lo hi)) (λb ob q=>kj _ q) (xu _) ?_,rfl,q _ (I.hok.fresh (xu _))⟩;exact⟨Xd (O3 xs lo hi) hz,_,0,(r.drop (HT.sIx xs.length 0 lo)).take (HT.sIx xs.length xs.length hi-HT.sIx xs.length 0 lo),X3 _ rfl⟩
def Ry:J5 X (.builtin "len") (λxs H Q=>∃p ys,xs=[.ref p]/\(SqL X.K H p ys\/SqT X.K H p ys)/\Q (.int ys.length) H):=by
 intro pins s σ H xs us Q I r h;obtain⟨p,ys,rfl,hq,q⟩:=h;obtain⟨u,rfl,rx⟩:=vals1 r;cases rx;have hn:=Yi;rcases hq with hq|hq
 .obtain⟨its,r',pl,hz⟩:=I.list hq;have hlen:=r'.length;exact Calls.call_len_list pl.isList (by simp only[X5]<;>omega) ⟨.int ys.length,H,I.tok _,⟨s.toks+1,by rw[X5,hlen]⟩,q⟩
 .obtain⟨its,r',pl,hz⟩:=I.tuple hq;have hlen:=r'.length;exact len_tuple pl (by simp only[X5]<;>omega) ⟨.int ys.length,H,I.tok _,⟨s.toks+1,by rw[X5,hlen]⟩,q⟩
def j0k:J5 X (.builtin "len") (λxs H Q=>∃z,xs=[.str z]/\z.length<=aw/\Q (.int z.length) H):=by intro pins s σ H xs us Q I r h;obtain⟨z,rfl,hz,q⟩:=h;obtain⟨u,rfl,t,rfl⟩:=vals1 r;have hn:=Yi;exact len_str (by omega) ⟨.int z.length,H,I.tok _,⟨_,rfl⟩,q⟩
def j0j:J5 X (.type "list") (λxs H Q=>∃p ys,xs=[.ref p]/\(SqL X.K H p ys\/SqT X.K H p ys)/\∀l,H l=af->Q (.ref l) (upd H l (.lst ys))):=by
 intro pins s σ H xs us Q I r h;obtain⟨p,ys,rfl,hq,q⟩:=h;obtain⟨u,rfl,rx⟩:=vals1 r;cases rx;have fin:∀(its:List aj),Vals ys its->ys.length<=aw->∀(h':aH)(c':Nat),(∀b o',s.heap.get? b=a8 o'->h'.get? b=a8 o') ->
   h'.get? s.heap.objs.size=a8 { cls:=.type "list",dict:=af,data:=.seq its.toArray c',slots:=#[] }->EP X pins σ Q (.ref s.heap.objs.size) { s with heap:=h' }:=λits r' hz h' c' kp e =>
  ⟨.ref s.heap.objs.size,_,I.laid (t':=s.toks) kp (xu _) (show jh X.prog X.w _ h' _ (.lst ys) from⟨hz,its,c',r',e⟩),rfl,q _ (I.hok.fresh (xu _))⟩
 rcases hq with hq|hq
 .obtain⟨its,r',pl,hz⟩:=I.list hq;have hlen:=r'.length;obtain⟨o,ho,hc,n,hd⟩:=pl.isList;exact og p (.inl rfl) ho hc hd (λh' c' kp e=>fin its r' hz h' c' kp e) (by simp only[X5]<;>omega)
 .obtain⟨its,r',pl,hz⟩:=I.tuple hq;have hlen:=r'.length;obtain⟨o,ho,hc,n,hd⟩:=pl;exact og p (.inr rfl) ho hc hd (λh' c' kp e=>fin its r' hz h' c' kp e) (by simp only[X5]<;>omega)
def K8:J5 X (.type "tuple") (λxs H Q=>∃p ys,xs=[.ref p]/\((SqL X.K H p ys/\∀l,H l=af->Q (.ref l) (upd H l (.tup ys)))\/(SqT X.K H p ys/\Q (.ref p) H))):=by
 intro pins s σ H xs us Q I r h;obtain⟨p,ys,rfl,h⟩:=h;obtain⟨u,rfl,rx⟩:=vals1 r;cases rx;rcases h with ⟨hq,q⟩|⟨hq,q⟩
 .obtain⟨its,r',pl,hz⟩:=I.list hq;have hlen:=r'.length;refine call_tuple_list pl.isList (λh' kp=>?_) (by simp only[X5]<;>omega);have I1:Inv X pins σ H { s with heap:=h' }:=I.kept (t':=s.toks) kp;have I2:Inv X pins σ (upd H h'.objs.size (.tup ys)) { s with heap:=h'.push { cls:=.type "tuple",data:=.seq its.toArray } } :=
   I1.laid (t':=s.toks) (λb o e=>kj _ e) (xu _) (show jh X.prog X.w _ _ _ (.tup ys) from⟨hz,its,r',IsTup.new _ _,Zz.new _ _⟩)
  exact⟨.ref h'.objs.size,_,I2,rfl,q _ (I1.hok.fresh (xu _))⟩
 .obtain⟨its,r',pl,hz⟩:=I.tuple hq;exact call_tuple_same pl ⟨.ref p,H,I,rfl,q⟩
def tyV(K:k8v)(T:String)(x:V)(H:Hp):Prop:=match x with
 |.str _=>T = "str"
 |.int _=>T = "int"
 |.ref p=>(T = "list"/\∃xs,SqL K H p xs)\/(T = "tuple"/\∃xs,SqT K H p xs) \/
   (T = "dict"/\((∃kvs,H p=a8 (.dK kvs))\/∃kvs,H p=a8 (.dT kvs)))\/(T = "set"/\∃S n,H p=a8 (.set S n))
 |_=>False
def j3w{pins:k8x}{σ:St}{H:Hp}{s:aq}{T:String}{x:V}{v:aj}(I:Inv X pins σ H s)(r:RelV x v)(ty:tyV X.K T x H) :
  s.TypeIs v T/\∀a,v=.ref a->∃ob,s.heap.get? a=a8 ob/\ob.dict=af:=by
 cases x with
 |str z =>obtain⟨t,rfl⟩:=r;cases(show T = "str" from ty);exact⟨iY s z t,λ_ e=>nomatch e⟩
 |int i =>obtain⟨t,rfl⟩:=r;cases(show T = "int" from ty);exact⟨hZ s i t,λ_ e=>nomatch e⟩
 |ref p =>
  cases r;rcases ty with ⟨rfl,xs,hq⟩|⟨rfl,xs,hq⟩|⟨rfl,hk⟩|⟨rfl,S,n,hk⟩
  .obtain⟨its,_,pl,_⟩:=I.list hq;refine⟨pl.isList.typeIs,λa e=>?_⟩;cases e;obtain⟨o,n,e,c,hd,_⟩:=pl;exact⟨o,e,hd⟩
  .obtain⟨its,_,⟨o,e1,e2,_⟩,_⟩:=I.tuple hq;refine⟨⟨o,e1,e2⟩,λa e=>?_⟩;cases e;exact⟨o,e1,I.tupD hq o e1⟩
  .have z:∃o,s.heap.get? p=a8 o/\o.ExactDict:=by
    rcases hk with ⟨kvs,hk⟩|⟨kvs,hk⟩
    .obtain⟨_,_,_,_,o,_,_,e,ex,_⟩:=I.hok p _ hk;exact⟨o,e,ex⟩
    .obtain⟨_,_,_,_,o,_,_,e,ex,_⟩:=I.hok p _ hk;exact⟨o,e,ex⟩
   obtain⟨o,e,ex⟩:=z;refine⟨⟨o,e,ex.1⟩,λa e2=>?_⟩;cases e2;exact⟨o,e,ex.2.1⟩
  .obtain⟨o,_,_,_,e,ex,_⟩:=I.hok p _ hk;refine⟨⟨o,e,ex.1⟩,λa e2=>?_⟩;cases e2;exact⟨o,e,ex.2.1⟩
 |_=>exact bp ty
def jka(K:k8v)(T:String)(r:V->List V->Hp->VK->Prop)(to:TE):TE:=λσ H Q=>to σ H λx H1=>tyV K T x H1/\r x [] H1 Q
def tBM(K:k8v)(T:String)(r:V->List V->Hp->VK->Prop)(to:TE)(t:TA):TE:=λσ H Q=>to σ H λx H1=>tyV K T x H1/\t σ H1 λxs H2=>r x xs H2 Q
variable{o e:au}{es:List au}{to:TE}{t:TA}{name:ar}{apos cpos:aO}{T id:String}{r:V->List V->Hp->VK->Prop}
def jeh (pa:PlainAttrs T) (slot:Slot T name id) (hty:typeOf (.builtin id)=pure (.type "method_descriptor")) (hm:MtR X id r) (ho:PE X o to)
  (hbase:aR o name X.env (aD o X.env)=aD o X.env:=by rfl) (hline:(apos.endLine==cpos.line)=ae:=by rfl):PE X (.Call (.Attribute o name apos) [] [] cpos) (jka X.K T r to):=by
 intro pins s σ H Q I h;refine jM hbase hline (thn (ho pins s σ H _ I h) λv s1 ⟨x,H1,I1,r1,ty,q1⟩=>?_);obtain⟨h1,h2⟩:=j3w I1 r1 ty;exact⟨T,id,pa,slot,hty,h1,h2,Tu rfl (jA (hm pins s1 σ H1 x [] v [] Q I1 r1 .nil q1))⟩
def Bp (pa:PlainAttrs T) (slot:Slot T name id) (hty:typeOf (.builtin id)=pure (.type "method_descriptor")) (hm:MtR X id r) (ho:PE X o to) (ha:PA X (e::es) t)
  (hbase:aR o name X.env (aD o X.env)=aD o X.env:=by rfl)
  (hfew:((aU cpos (ah (e::es) X.env)).all (λx=>!x.1)&&(cC cpos (bF [] X.env)).all (λx=>x.1.isSome)
   && decide ((e::es).length+([]:List bq).length+(if ([]:List bq).isEmpty then 0 else 1)<30))=ae:=by rfl)
  (hline:(apos.endLine==cpos.line)=ae:=by rfl) (hs:ah (e::es) X.env=(aa,aD e X.env)::ah es X.env:=by rfl) (hplain:(aU cpos (ah es X.env)).any (·.1)=aa:=by rfl) :
  PE X (.Call (.Attribute o name apos) (e::es) [] cpos) (tBM X.K T r to t):=by
 intro pins s σ H Q I h;refine wpAny_Call_method_late hbase hfew hline rfl (thn (ho pins s σ H _ I h) λv s1 ⟨x,H1,I1,r1,ty,q1⟩=>?_);obtain⟨h1,h2⟩:=j3w I1 r1 ty;refine⟨T,id,pa,slot,hty,h1,h2,?_⟩;have hA:=ha cpos pins s1 σ H1 _ I1 q1;rw[hs]at hA ⊢;refine Tu (by show(aa || (aU cpos (ah es X.env)).any (·.1))=aa;rw[hplain]<;>rfl) (fj ?_);exact thn hA λus s2 ⟨vs,H2,I2,r2,q2⟩=>hm pins s2 σ H2 x vs v us Q I2 r1 r2 q2
/- xs.append(e),list.index on a module's tuple .. are MtR facts of 06m -/
end
def MtM(X:Cx)(id:String)(r:V->List V->Hp->VK->Prop):Prop :=
 ∀(pins:k8x) (s:aq) (σ:St) (H:Hp) (x:V) (xs:List V) (v:aj) (us:List aj) (Q:VK),Inv X pins σ H s->RelV x v->Vals xs us->r x xs H Q ->
  av (aC X.prog X.w) X.A (call (.builtin id) (v::us)) (EP X pins σ Q) X.xe s
def Vals.one{x:V}{us:List aj}(h:Vals [x] us):∃u,us=[u]/\RelV x u:=by cases h with|cons r t=>cases t;exact⟨_,rfl,r⟩
def Vals.two:∀{x y:V}{us:List aj},Vals [x,y] us->∃u v,us=[u,v]/\RelV x u/\RelV y v
 |_,_,_,.cons r (.cons q .nil)=>⟨_,_,rfl,r,q⟩
def Vals.zero:∀{us:List aj},Vals [] us->us=[]
 |_,.nil=>rfl
theorem Vals.dropLast{xs:List V}{us:List aj}(h:Vals xs us):Vals xs.dropLast us.dropLast:=by
 induction h with
 |nil=>exact .nil
 |cons r t ih =>
  cases t with
  |nil=>exact .nil
  |cons q t'=>exact .cons r ih
theorem Vals.reverse{xs:List V}{us:List aj}(h:Vals xs us):Vals xs.reverse us.reverse:=by
 induction h with
 |nil=>exact .nil
 |cons r t ih=>rw[gx,gx];exact Vals.append ih (.cons r .nil)
theorem Vals.rep{xs:List V}{us:List aj}(h:Vals xs us):∀k:Nat,Vals (ay k xs).flatten (ay k us).flatten
 |0=>.nil
 |k+1=>by rw[t6,t6,Tq,Tq];exact Vals.append h (Vals.rep h k)
def j3a{α:Type}(l:List α):l.eraseIdx (l.length-1)=l.dropLast:=by
 induction l with
 |nil=>rfl
 |cons a r ih =>
  cases r with
  |nil=>rfl
  |cons b r =>
   have e:(a::b::r).length-1=((b::r).length-1)+1:=by have h1:(a::b::r).length=r.length+2:=rfl;have h2:(b::r).length=r.length+1:=rfl;omega
   rw[e,List.eraseIdx_cons_succ,ih]
   all_goals rfl
theorem foldl_rep(its:List aj):∀(k:Nat)(acc:List aj),
  dQ (λx1 x2=>x1++x2) acc.toArray (ay k its.toArray)=(acc++(ay k its).flatten).toArray
 |0,acc=>by simp
 |k+1,acc=>by
  have e:acc.toArray++its.toArray=(acc++its).toArray:=by simp
  have e2:(acc++its)++(ay k its).flatten=acc++(ay (k+1) its).flatten:=by rw[t6,Tq,T9]
  rw[<-e2,<-foldl_rep its k (acc++its),<-e,t6,Pq]
section
variable{X:Cx}{pins:k8x}{σ:St}{H:Hp}{s:aq}{l b:ai}{xs ys zs:List V}
def Inv.lset{its its':List aj}{n:Nat}{f:Array aj->Array aj}{t':Nat}(I:Inv X pins σ H s)(hH:H l=a8 (.lst xs))
  (e:s.heap.get? l=a8 { cls:=.type "list",data:=.seq its.toArray n }) (hf:f its.toArray=its'.toArray) (hv:Vals ys its') (hz:ys.length<=aw) :
  Inv X pins σ (upd H l (.lst ys)) { s with heap:=s.heap.update l (bR f),toks:=t' }:=by
 have q:=PySem.IsL.update e f;rw[hf]at q;refine I.write (x:=l) (e:=l) (by rw[hH];exact trivial) (.inl rfl) (λb' u hb hu=>(eR s.heap (bR f) (bE hb)).trans hu) ⟨_,q⟩ ?_;exact⟨hz,its',_,hv,q⟩
def Inv.lnew{its:List aj}{t':Nat}(I:Inv X pins σ H s)(hv:Vals ys its)(hz:ys.length<=aw) :
  Inv X pins σ (upd H s.heap.objs.size (.lst ys)) { s with heap:=s.heap.push { cls:=.type "list",data:=.seq its.toArray },toks:=t' } :=
 I.laid (λ_ _ q=>kj _ q) (xu _) ⟨hz,its,0,hv,X3 _ rfl⟩
theorem Inv.fresh(I:Inv X pins σ H s):H s.heap.objs.size=af:=I.hok.fresh (xu _)
def Inv.lstM(I:Inv X pins σ H s)(hH:H l=a8 (.lst xs)):xs.length<=aw/\∃(its:List aj)(n:Nat),Vals xs its/\xs.length=its.length/\s.heap.get? l=a8 { cls:=.type "list",data:=.seq its.toArray n }:=by obtain⟨z,its,n,r,e⟩:=I.hok l _ hH;exact⟨z,its,n,r,r.length,e⟩
def Ef{n:Nat}(h:n<=aw):cz n=aa:=by unfold cz;exact decide_eq_false (by omega)
end
section
variable{X:Cx}
def jb2:V->List V->Hp->VK->Prop:=λx vs H Q=>∃l xs y,x=.ref l/\vs=[y]/\H l=a8 (.lst xs)/\xs.length<aw/\Q .non (upd H l (.lst (xs++[y])))
def Ra:MtM X "list.append" jb2:=by intro pins s σ H x vs v us Q I rx rv h;obtain⟨l,xs,y,rfl,rfl,hH,hz,q⟩:=h;cases rx;obtain⟨u,rfl,ru⟩:=rv.one;obtain⟨z,its,n,r,hl,e⟩:=I.lstM hH;refine cj iW ⟨_,e,rfl⟩ F.entry_list_append (F.args_list_append_2 _ _) (PySem.list_append l its.toArray n u (by rw[X5];omega)) ⟨e,?_⟩;refine⟨.non,_,I.lset (its':=its++[u]) hH e (by simp) (r.append (.cons ru .nil)) ?_,rfl,q⟩;rw[Xh,List.length_singleton];omega
def jb1:V->List V->Hp->VK->Prop:=λx vs H Q=>∃l b xs zs,x=.ref l/\vs=[.ref b]/\H l=a8 (.lst xs)/\H b=a8 (.lst zs)/\xs.length+zs.length<=aw/\Q .non (upd H l (.lst (xs++zs)))
def j4s:MtM X "list.extend" jb1:=by
 intro pins s σ H x vs v us Q I rx rv h;obtain⟨l,b,xs,zs,rfl,rfl,hH,hB,hz,q⟩:=h;cases rx;obtain⟨u,rfl,ru⟩:=rv.one;cases ru;obtain⟨z,its,n,r,hl,e⟩:=I.lstM hH;obtain⟨z2,its2,n2,r2,hl2,e2⟩:=I.lstM hB;have hsz:its.toArray.size+its2.toArray.size<=aw:=by rw[X5,X5];omega
 have hlong:¬(!its.toArray.isEmpty&&cz (its.toArray.size+its2.toArray.size))=ae:=by rw[Ef hsz,fF];exact xj
 refine cj iV ⟨_,e,rfl⟩ F.entry_list_extend (F.args_list_extend_2 _ _)
  (AutoSeq1.list_extend_list_list_0 l its.toArray n b its2.toArray n2 hlong (by rw[X5];omega) (by omega)) ⟨e,e2,?_⟩
 refine⟨.non,_,I.lset (its':=its++its2) hH e (by simp) (r.append r2) ?_,rfl,q⟩;rw[Xh];omega
def jkr:V->List V->Hp->VK->Prop:=λx vs H Q=>∃l xs y,x=.ref l/\vs=[]/\H l=a8 (.lst xs)/\xs[xs.length-1]?=a8 y/\Q y (upd H l (.lst xs.dropLast))
def jex:MtM X "list.pop" jkr:=by
 intro pins s σ H x vs v us Q I rx rv h;obtain⟨l,xs,y,rfl,rfl,hH,hy,q⟩:=h;cases rx;have hus:=rv.zero;subst hus;obtain⟨z,its,n,r,hl,e⟩:=I.lstM hH;obtain⟨u,hu,ru⟩:=r.get hy;have hy':its.toArray[its.toArray.size-1]?=a8 u:=by show its.toArray[its.length-1]?=a8 u;rw[<-dj,<-hl];exact hu
 refine cj jL ⟨_,e,rfl⟩ F.entry_list_pop (F.args_list_pop_1 _) (MeetsSeq.list_pop_last l its.toArray n u hy' (by rw[X5];omega)) ⟨e,?_⟩;refine⟨y,_,I.lset (its':=its.dropLast) hH e ?_ r.dropLast ?_,ru,q⟩
 .show its.toArray.eraseIdxIfInBounds (its.toArray.size-1)=its.dropLast.toArray;rw[X5,List.eraseIdxIfInBounds_toArray,j3a]
 .rw[List.length_dropLast];omega
def jkq:R2:=λx y H Q=>∃l k xs,x=.ref l/\y=.int k/\H l=a8 (.lst xs)/\-(2^63)<=k/\k<2^63/\xs.length*k.toNat<=aw /\
 ∀p,H p=af->Q (.ref p) (upd H p (.lst (ay k.toNat xs).flatten))
def len_rep{α:Type}(xs:List α)(k:Nat):(ay k xs).flatten.length=k*xs.length:=by
 induction k with
 |zero=>simp
 |succ k ih=>rw[t6,Tq,Xh,ih,mw,Nat.add_comm]
def jeo:OpR X (bB .Mult) jkq:=by
 intro pins s σ H x y v u Q I rx ry h;obtain⟨l,k,xs,rfl,rfl,hH,h1,h2,hz,q⟩:=h;cases rx;obtain⟨t,rfl⟩:=ry;obtain⟨z,its,n,r,hl,e⟩:=I.lstM hH;have hlen:its.toArray.size*k.toNat<=aw:=by rw[X5,<-hl];exact hz
 have hcap:¬its.toArray.size*k.toNat>(2^63-1)/8:=by
  have:(aw:Nat)<=(2^63-1)/8:=by decide
  omega
 have hfit:¬(!Builtin.List.listFitsIndex k)=ae:=by rw[fitsIndex_both h1 h2];exact xj
 have hlong:¬cz (its.toArray.size*k.toNat)=ae:=by rw[Ef hlen];exact xj
 have hnew:dQ (λx1 x2=>x1++x2) #[] (ay (if its.toArray.isEmpty=ae then 0 else k.toNat) its.toArray)=(ay k.toNat its).flatten.toArray:=by
  have f0:∀m:Nat,dQ (λx1 x2=>x1++x2) #[] (ay m its.toArray)=(ay m its).flatten.toArray:=λm=>by have:=foldl_rep its m [];rw[i5]at this;exact this
  rw[f0];cases its with
  |nil=>simp
  |cons a r'=>rw[if_neg (by simp)]
 refine jv (T:="list") (U:="int") (by decide) ⟨_,e,rfl⟩ (λs'=>hZ s' k t) noFill_list_mul lM fD repeat_list F.slot_int_index.lookup
  (cj fD (hZ s k t) lp (kZ _ _) (int___rmul___int_list k t l its.toArray n)
   ⟨e,rfl,⟨_,e,rfl⟩,cj F.slot_list_mul ⟨_,e,rfl⟩ F.entry_list_mul (F.args_list_mul_2 _ _) (AutoListH.list___mul___list_int_3 l its.toArray n k t hfit hcap hlong) ⟨e,?_⟩⟩)
 rw[hnew];exact⟨.ref _,_,I.lnew (t':=s.toks) (r.rep k.toNat) (by rw[len_rep,gL];exact hz),rfl,q _ I.fresh⟩
end
end L2
namespace Att
open PySem PySem.W PySem.Calls PyProof.Rows
def Bw{P:nY}{h:aH}:∀(ns:zo)(vs:List aj),WellAll P h vs (ns.map WData.int)->dz vs ns:=by
 intro ns;induction ns with
 |nil =>intro vs w;rw[cG]at w;cases w;exact .nil
 |cons n ns ih =>
  intro vs w;rw[X6]at w;cases w with
  |cons a b =>cases a;exact .cons _ _ (ih _ b)
def j47{l:eA}{n:Nat}(hn:l.most=a8 n){P:nY}{h:aH}{args:List WData}{vals:List aj}
  (hpre:l.row.toRowW.claim.pre args=ae) (hwl:WellAll P h vals args) :
  ∃a vs ns,vals=[aK a]/\args=[WData.list (ns.map WData.int)]/\h.get? a=a8 { cls:=.type "list",data:=.seq vs.toArray }/\dz vs ns/\ns.length<=n:=by
 have hsh:WShape.hasAll [] args [.list .int]=ae:=(pre_splitW hpre).1;have hc:l.pre.holds [] { args:=args }=ae:=(pre_splitW hpre).2;obtain⟨d,r,rfl,h1,h2⟩:=hasAllW_cons hsh;obtain rfl:=hasAllW_nil h2;obtain⟨xs,rfl,h3⟩:=hasW_list h1;obtain⟨ns,rfl⟩:=items_int h3;have hlen:ns.length<=n:=by
  unfold OpenLaw.pre at hc;have h4:(WTm.not (.lt (.lit (.int (n:Int))) (.len (.arg 0)))).holds [] { args:=[.list (ns.map .int)] }=ae:=by have h4:=(holds_andW hc).1;rw[hn]at h4;exact h4
  have h5:=condW_of h4 (w_not (w_lt w_lit (w_len_list (w_arg rfl))));rw[xf]at h5;refine Nat.le_of_not_lt λq=>?_;have q':(n:Int)<((ns.length:Nat):Int):=by omega
  first
   |(rw[decide_eq_true q']at h5;exact absurd h5 (by decide))
   |(simp at h5;omega)
 cases hwl with
 |cons w1 w2 =>
  cases w2;cases w1 with
  |list ho hall=>exact⟨_,_,ns,rfl,rfl,ho,Bw ns _ hall,hlen⟩
def j4c(l:eA)(args:List WData):l.row.toRowW.claim.post args (.bool ae) args=ae :=
 postW_of (r:=l.row.toRowW) (X:=(ae==ae))
  (show WShape.has [] (.bool ae) .bool=ae by first|rfl|decide|simp[WShape.has,WShape.arms,WShape.armsAll])
  (show(WTm.eq .res (.lit (.bool ae))).value [] { args:=args,res:=a8 (.bool ae),after:=args }=a8 (.bool (ae==ae))from w_eq_bool (w_res rfl) w_lit) rfl
def attach_call{l:eA}{n:Nat}{q:az}{loose:List ar}{XP:(ar->Option aj)->aH->Prop}{YP:aE->aH->Prop}{d:DefRec}
  (hn:l.most=a8 n) (hdf:d.params.defaults=[])
  (call:∀(w:aE)(s₀ s₁:aq)(mg mb:k8y)(fa:ai)(o:dF)(pm cd doc:aj)(a:ai) (vs:List aj) (ns:zo),
   Ground q loose [] XP w s₀ mg mb s₁.heap->YP w s₁.heap ->
   s₁.heap.get? fa=a8 o->o.data=.func (docDef d.name d.params d.body d.scope pm cd doc)->s₁.heap.CodeRec cd d.name->mg d.name=a8 (.ref fa) ->
   s₁.heap.get? a=a8 { cls:=.type "list",data:=.seq vs.toArray }->dz vs ns->ns.length<=n->s₁.gens = #[] ->
   bY (aC l.prog w) ik (.call (.ref fa) ⟨[.ref a],[]⟩) (λr s'=>r=.ok (.ret (.bool ae))/\OldK s₁.heap s'.heap/\s'.os=s₁.os/\eT s'.gens) s₁) :
  jF q loose XP YP l.row.toRowW d [] (λf vs=>il f vs):=by
 intro w s₀ s₁ mg mb G Y fa o pm cd doc dV kV ho hd hcd hD hmg hg args vals as hpre hlay hrd hwl hlo;obtain rfl:dV=.none:=Dflts.none hD hdf;obtain rfl:kV=.none:=Dflts.noKw hD;obtain⟨a,vs,ns,rfl,rfl,hobj,hints,hlen⟩:=j47 hn hpre hwl;refine enter_call (cR (call w s₀ s₁ mg mb fa o pm cd doc a vs ns G Y ho (fd_plain hd) hcd hmg hobj hints hlen hg) λr s' hq=>?_);obtain⟨rfl,h2,h3,h4⟩:=hq;exact⟨.inl ⟨.bool ae,.bool ae,[],rfl,λ_=>rfl,.bool ae,j4c l _,λ_=>⟨List.Pairwise.nil,λ_ hm=>(nomatch hm)⟩⟩,h2,h3,h4⟩
end Att
namespace L2
open PySem PySem.Spec PyProof.Rows
theorem Dy:∀{vs:List aj}{ns:zo},dz vs ns->Vals (ns.map V.int) vs
 |_,_,.nil=>.nil
 |_,_,.cons n t h=>.cons ⟨t,rfl⟩ (Dy h)
def Only(ts:List (ai×ar))(H:Hp):Prop:=(∀b,H b=af\/(∃o xs,H b=a8 (.frz o (.lst xs)))\/∃q,(b,q)∈ts/\H b=a8 (.cod q))/\∀t∈ts,H t.1=a8 (.cod t.2)
def j95(ts:List (ai×ar))(h:aH):Prop:=(ts.map (·.1)).Nodup/\∀t∈ts,(∃c,PySem.W.CodeHd h c t.1)/\h.get? t.1=a8 (W.tabObj #[])
theorem j1d:∀{ts:List (ai×ar)} {b:ai} {q:ar},ts.lookup b=a8 q->(b,q)∈ts
 |p::r,b,q,h=>by
  rw[Xm]at h;cases e:b==p.1 with
  |true=>rw[e]at h;cases h;rw[beq_iff_eq.mp e];exact xr ..
  |false=>rw[e]at h;exact xm _ (j1d h)
theorem lookup_tab:∀{ts:List (ai×ar)},(ts.map (·.1)).Nodup->∀t∈ts,ts.lookup t.1=a8 t.2
 |[],_,_,h=>by cases h
 |p::r,nd,t,ht=>by
  rw[X6]at nd;rcases xq.mp ht with e|ht
  .subst e;rw[Xm,beq_self_eq_true]
  .have ne:(t.1==p.1)=aa:=beq_eq_false_iff_ne.mpr λz=>(Xn.mp nd).1 (z▸Tg ht);rw[Xm,ne];exact lookup_tab (Xn.mp nd).2 t ht
def j7i{P:az}{w:aE}{K:k8v}{mg mb:k8y}{CX:CXT}{k:Nat}{fa a:ai}{fd:aM}{x:ar}{sp:Sp}{s₁:aq}{vs:List aj}{ns:zo}{ts:List (ai×ar)}
  (KX:K.In s₁.heap) (hns:s₁.heap.Ns aB mg) (hb:s₁.heap.Ns eM mb) (hbb:∀x:ar,x ≠ "__name__"->mb x=bA x) (hlim:s₁.heap.NoLimit)
  (hbm:∃bm ob,mg "__builtins__" = a8 (.ref bm)/\bm≠eM/\s₁.heap.get? bm=a8 ob/\ob.cls=.type "module"/\ob.dict=a8 eM/\ob.data=.plain) (hT:j95 ts s₁.heap) (hK0:W.noTabs K=ae) (hg:s₁.gens = #[])
  (ha:s₁.heap.get? a=a8 { cls:=.type "list",data:=.seq vs.toArray }) (hi:dz vs ns) (hl:ns.length<=aw) (hr:Room k ik)
  (F:∀base:aH,K.In base->base.Ns aB mg->FnOk P w K mg base CX k fa fd [x] sp) (hbind:∀(s:aq)(u:aj),ip s fd ⟨[u],[]⟩ [(x,u)])
  (hsp:∀H:Hp,Only ts H->SqL K H a (ns.map V.int)->sp [.ref a] H (λv H'=>v=.bl ae/\∀b o,H b=a8 o->H' b=a8 o) λ_ _ _=>False)
  (hCX:∀H e s',CX [] H s₁ (λ_ _ _=>False) e s'->False) :
  bY (aC P w) ik (.call (.ref fa) ⟨[.ref a],[]⟩) (λr s'=>r=.ok (.ret (.bool ae))/\OldK s₁.heap s'.heap/\s'.os=s₁.os/\eT s'.gens) s₁:=by
 have rv:=Dy hi;have lenV:=hi.length;have at_:∀{q:ar}{b:ai},(b,q)∈ts->s₁.heap.get? b=a8 (W.tabObj #[]):=λ{q b} h=>(hT.2 _ h).2;have core:∀H:Hp,Only ts H->SqL K H a (ns.map V.int)->HOk P w H s₁.heap->(∀b,H b≠af->b=a\/∃q,(b,q)∈ts)->(H a≠af->K.lookup a=af) ->
   bY (aC P w) ik (.call (.ref fa) ⟨[.ref a],[]⟩) (λr s'=>r=.ok (.ret (.bool ae))/\OldK s₁.heap s'.heap/\s'.os=s₁.os/\eT s'.gens) s₁:=by
  intro H hO hS hok hA hK;have base_of:∀{b:ai}{o:dF},s₁.heap.get? b=a8 o->H b=af->(W9 s₁.heap H).get? b=a8 o:=λe n=>j84 e n;have noA:∀{b:ai}{o:dF},s₁.heap.get? b=a8 o->(∀vs n,o.data≠.seq vs n)->(∀vs,o.data≠.fields vs)->H b=af:=λ{b o} e d d2=>by
   cases q:H b with
   |none=>rfl
   |some u =>
    rcases hA b (by rw[q];simp)with e'|⟨q',e'⟩
    .subst e';rw[ha]at e;cases e;exact absurd rfl (d _ _)
    .rw[at_ e']at e;cases e;exact absurd rfl (d2 _)
  have nsK:∀{b:ai}{m:k8y},s₁.heap.Ns b m->(W9 s₁.heap H).Ns b m:=λ{b m} ⟨o,es,ep,e,d,r⟩=>⟨o,es,ep,base_of e (noA e (λ_ _ z=>by rw[d]at z;cases z) λ_ z=>by rw[d]at z;cases z),d,r⟩
  have hKb:K.In (W9 s₁.heap H):=λb o e=>base_of (KX b o e) (by
   cases q:H b with
   |none=>rfl
   |some u =>
    rcases hA b (by rw[q];simp)with e'|⟨q',e'⟩
    .subst e'
     rw[hK (by rw[q];simp)]at e;cases e
    .have e2:=KX b o e
     rw[at_ e']at e2
     have h2:=T6.mp hK0 (b,o) (W.mem_of_lookupK e)
     cases e2
     exact absurd (show aa=ae from h2) xj)
  have hM:Mod K mg (W9 s₁.heap H):=⟨hKb,nsK hns,⟨mb,nsK hb,hbb⟩,(let ⟨mc,h1,h2⟩:=hlim;⟨mc,nsK h1,h2⟩),
   let ⟨bm,ob,b1,b2,b3,b4,b5,b6⟩:=hbm;⟨bm,ob,b1,b2,base_of b3 (noA b3 (λ_ _ z=>by rw[b6]at z;cases z) λ_ z=>by rw[b6]at z;cases z),b4,b5,b6⟩⟩
  have e0:Env0 P w K mg (W9 s₁.heap H) ik [] s₁ H:=⟨rfl,hM,λb o e=>jbg e,mC (j58 _ _),trivial,λb hb=>absurd (show b∈([]:List ai)from hb) (by simp),hok,.of_eq hg⟩
  refine cR ((F _ hKb (nsK hns)).run ik [] s₁ H ⟨[.ref a],[]⟩ [.ref a] [.ref a] _ _ hr e0 (hbind s₁ (.ref a)) (.cons rfl .nil) (hsp H hO hS)) λr s' h=>?_;cases r with
  |error e=>exact(hCX H e s' h).elim
  |ok fl =>
   cases fl with
   |next=>exact bp h
   |brk=>exact bp h
   |cont=>exact bp h
   |ret u =>
    obtain⟨v,H',os,bare,un,hok',r',q,sm⟩:=h;have q':v=.bl ae:=q;subst q';obtain rfl:u=bW ae:=r';have main:∀b o,s₁.heap.get? b=a8 o->s'.heap.get? b=a8 o\/((∃q,(b,q)∈ts)/\o=W.tabObj #[]/\∃ps,s'.heap.get? b=a8 (W.tabObj ps)):=λb o e=>by
     cases q:H b with
     |none=>exact .inl (un.keep b o e q (by intro z;exact absurd (show b∈([]:List ai)from z) (by simp)) (by simp))
     |some u =>
      rcases hO.1 b with z|⟨ob,xs,z⟩|⟨q',hq,z⟩
      .rw[q]at z;cases z
      .have z2:=un.frzs b ob _ z;obtain⟨e1,_⟩:=hok b _ z;obtain⟨e2,_⟩:=hok' b _ z2;rw[e]at e1;cases e1;exact .inl e2
      .obtain⟨ps,e2,_⟩:=(show jh P w H' s'.heap b (.cod q')from hok' b _ (sm b _ z))
       rw[at_ hq]at e;exact .inr ⟨⟨q',hq⟩,(ax e).symm,ps,e2⟩
    refine⟨rfl,⟨λb o e=>?_,λb o e=>?_⟩,os,bare⟩
    .rcases main b o e with z|⟨⟨q,hq⟩,rfl,ps,z⟩
     .exact .inl z
     .obtain⟨c,hc⟩:=(hT.2 _ hq).1;exact .inr (.inl ⟨(hc.tab (at_ hq)).isCodeTable,rfl,#[],ps,rfl,by rw[z,Array.empty_append]⟩)
    .rcases main b o e with z|⟨_,_,ps,z⟩
     .exact⟨o,z⟩
     .exact⟨_,z⟩
 have lkT:∀b q,ts.lookup b=a8 q->(b,q)∈ts:=λb q h=>j1d h;have ofT:∀t∈ts,ts.lookup t.1=a8 t.2:=lookup_tab hT.1;have okT:∀(H:Hp) b q,(b,q)∈ts->jh P w H s₁.heap b (.cod q):=λH b q h=>⟨#[],at_ h,trivial,λpos cv z=>by cases z⟩
 cases hk:K.lookup a with
 |some o =>
  have e:=KX a o hk;rw[ha]at e;cases e;refine core (λb=>(ts.lookup b).map HO.cod) ⟨λb=>?_,λt ht=>by show(ts.lookup t.1).map HO.cod=_;rw[ofT t ht];rfl⟩ (.inr ⟨_,vs.toArray,_,hk,rfl,rfl,rfl,by rw[X5,lenV];exact hl,by simpa using rv⟩) (λb u z=>?_) (λb z=>?_) λz=>?_
  .cases e:ts.lookup b with
   |none=>exact .inl (by show(ts.lookup b).map HO.cod=_;rw[e];rfl)
   |some q=>exact .inr (.inr ⟨q,lkT b q e,by show(ts.lookup b).map HO.cod=_;rw[e];rfl⟩)
  .obtain⟨q,e,rfl⟩:=Xv.mp z;exact okT _ b q (lkT b q e)
  .cases e:ts.lookup b with
   |none=>exact absurd (by show(ts.lookup b).map HO.cod=_;rw[e];rfl) z
   |some q=>exact .inr ⟨q,lkT b q e⟩
  .cases e:ts.lookup a with
   |none=>exact absurd (by show(ts.lookup a).map HO.cod=_;rw[e];rfl) z
   |some q=>have:=at_ (lkT a q e);rw[ha]at this;cases this
 |none =>
  have na:∀q,(a,q)∉ts:=λq h=>by have:=at_ h;rw[ha]at this;cases this
  refine core (λb=>if b=a then a8 (.frz { cls:=.type "list",data:=.seq vs.toArray } (.lst (ns.map V.int))) else(ts.lookup b).map HO.cod) ⟨λb=>?_,λt ht=>?_⟩ (.inl (.inr ⟨{ cls:=.type "list",data:=.seq vs.toArray },if_pos rfl⟩)) (λb u z=>?_) (λb z=>?_) λ_=>hk
  .by_cases hb:b=a
   .exact .inr (.inl ⟨_,_,if_pos hb⟩)
   .cases e:ts.lookup b with
    |none=>exact .inl (by show(if b=a then _ else _)=_;rw[if_neg hb,e];rfl)
    |some q=>exact .inr (.inr ⟨q,lkT b q e,by show(if b=a then _ else _)=_;rw[if_neg hb,e];rfl⟩)
  .have nb:t.1≠a:=λz=>na t.2 (z▸ht);show(if t.1=a then _ else _)=_;rw[if_neg nb,ofT t ht];rfl
  .by_cases hb:b=a
   .have z':=(if_pos hb).symm.trans z;cases z';subst hb;exact⟨ha,by rw[xf];exact hl,vs,_,rv,ha⟩
   .have z':=(if_neg hb).symm.trans z;obtain⟨q,e,rfl⟩:=Xv.mp z';exact okT _ b q (lkT b q e)
  .by_cases hb:b=a
   .exact .inl hb
   .cases e:ts.lookup b with
    |none=>exact absurd (by show(if b=a then _ else _)=_;rw[if_neg hb,e];rfl) z
    |some q=>exact .inr ⟨q,lkT b q e⟩
def walk_of{l:eA}{n k:Nat}{q:az}{loose:List ar}{XP:(ar->Option aj)->aH->Prop}{YP:aE->aH->Prop}{d:DefRec}{K:nY->k8v}{CX:aE->CXT}{sp:aE->Sp}{x:ar}{ts:aE->List (ai×ar)}
  (hn:l.most=a8 n) (hn2:n<=aw) (hdf:d.params.defaults=[]) (hr:Room k ik)
  (hY:∀(w:aE)(h:aH),YP w h->(K w.params).In h/\j95 (ts w) h) (hK0:∀w:aE,W.noTabs (K w.params)=ae)
  (F:∀(w:aE)(mg:k8y)(fa:ai)(h:aH),(K w.params).In h->h.Ns aB mg->mg d.name=a8 (.ref fa) ->
   ∃fd:aM,(∀(s:aq)(u:aj),ip s fd ⟨[u],[]⟩ [(x,u)]) /\
    ∀base:aH,(K w.params).In base->base.Ns aB mg->FnOk l.prog w (K w.params) mg base (CX w) k fa fd [x] (sp w))
  (hsp:∀(w:aE)(H:Hp)(a:ai)(ns:zo),ns.length<=n->Only (ts w) H->SqL (K w.params) H a (ns.map V.int)->sp w [.ref a] H (λv H'=>v=.bl ae/\∀b o,H b=a8 o->H' b=a8 o) λ_ _ _=>False)
  (hCX:∀(w:aE)(H:Hp)(s:aq)(e:aj)(s':aq),CX w [] H s (λ_ _ _=>False) e s'->False) :
  jF q loose XP YP l.row.toRowW d [] (λf vs=>il f vs):=by
 refine Att.attach_call hn hdf λw s₀ s₁ mg mb fa o pm cd doc a vs ns G Y ho hd hcd hmg hobj hints hlen hg=>?_;obtain⟨KX,hT⟩:=hY w _ Y;obtain⟨fd,hb,hF⟩:=F w mg fa _ KX G.T.g hmg;exact j7i KX G.T.g G.T.b G.T.builtins G.T.nolimit G.T.bmain hT (hK0 w) hg hobj hints (Xd hlen hn2) hr hF hb (λH hO hS=>hsp w H a ns hlen hO hS) λH e s'=>hCX w H s₁ e s'
end L2
/- THE LAST THEOREM (shape;LID,My.* are yours):
 My.Adr: a structure of the addresses that your layer names (classes,functions);My.Txt K t: a structure (Prop) of the equations over K;
 My.txt_mk:{K} {implicit addresses ..} (e1:cP K aB "law" = a8 (a8 (.ref f))) (e2:K.lookup f=a8 ⟨oc,od,.func (fnOf "law" "law" params body scope dV kV doc pm an cdv ct),sl⟩) (e3:codeIn K cdv "law" = ae) ..:∃t,My.Txt K t
(the tactic k_is has no namespace: write k_is) -/
namespace L2
open PySem PySem.Spec PyProof.Rows
noncomputable def J8(s:aP):jU:=match s with
 |.FunctionDef _ a _ _ _ _ _ _ _ _=>a
 |_=>{ posonlyargs:=[],args:=[],vararg:=af,kwonlyargs:=[],kw_defaults:=[],kwarg:=af,defaults:=[] }
noncomputable def jz(s:aP):List aP:=match s with
 |.FunctionDef _ _ b _ _ _ _ _ _ _=>b
 |_=>[]
noncomputable def j9(s:aP):bH:=match s with
 |.FunctionDef _ _ _ _ _ _ sc _ _ _=>sc
 |_=>{ kind:=.function,names:=[],isGenerator:=aa,isCoroutine:=aa }
noncomputable abbrev CX0:CXT:=λ_ _ _ _ _ _=>False
noncomputable abbrev E0:XK:=λ_ _ _=>False
def Bq{X:Cx}:j0s CX0 X E0:=λ_ _ _ _ _ _ _ h=>h.elim
structure Fun(K:k8v)(x qual:ar)(st:aP)(f:ai)(fd:aM):Prop where
 ex:∃(oc:aj)(od:Option ai)(dV kV doc pm:aj)(an:Option ai)(cdv ct:aj)(osl:Array (Option aj)),
  fd=W.fnOf x qual (J8 st) (jz st) (j9 st) dV kV doc pm an cdv ct/\K.lookup f=a8 ⟨oc,od,.func fd,osl⟩/\W.codeIn K cdv qual=ae
 kp:W.keepIn K (.ref f)=ae
section
variable{P:az}{w:aE}{K:k8v}{mg:k8y}{base:aH}
def Fun.binds{x qual:ar}{st:aP}{f:ai}{kV doc pm:aj}{an:Option ai}{cdv ct:aj}{ps:List ar}(F:Fun K x qual st f (W.fnOf x qual (J8 st) (jz st) (j9 st) .none kV doc pm an cdv ct))
  (h:∀(kV doc pm:aj)(an:Option ai)(cdv ct:aj)(us:List aj),us.length=ps.length->gn (W.fnOf x qual (J8 st) (jz st) (j9 st) .none kV doc pm an cdv ct) ⟨us,[]⟩=pure (ps.zip us)):Binds K (W.fnOf x qual (J8 st) (jz st) (j9 st) .none kV doc pm an cdv ct) ps []:=.all (h kV doc pm an cdv ct)
def Rm{x qual:ar}{st:aP}{f:ai}{oc:aj}{od an:Option ai}{osl:Array (Option aj)}{dV kV doc pm cdv ct:aj}(l:K.lookup f=a8 ⟨oc,od,.func (W.fnOf x qual (J8 st) (jz st) (j9 st) dV kV doc pm an cdv ct),osl⟩)
  (c:W.codeIn K cdv qual=ae) (k:W.keepIn K (.ref f)=ae):Fun K x qual st f (W.fnOf x qual (J8 st) (jz st) (j9 st) dV kV doc pm an cdv ct):=⟨⟨oc,od,dV,kV,doc,pm,an,cdv,ct,osl,rfl,l,c⟩,k⟩
end
def Uc{A B:Prop}(h:B):if aa=ae then A else B:=by rw[if_neg xj];exact h
def W7{A B:Prop}(h:A):if ae=ae then A else B:=by rw[if_pos rfl];exact h
def j0(H H':Hp):Prop:=∀b o,H b=a8 o->H' b=a8 o
def j0.refl(H:Hp):j0 H H:=λ_ _ h=>h
def j0.trans{H H1 H2:Hp}(a:j0 H H1)(b:j0 H1 H2):j0 H H2:=λc o h=>b c o (a c o h)
def j0.free{H H':Hp}(e:j0 H H'){l:ai}(h:H' l=af):H l=af:=by
 cases q:H l with
 |none=>rfl
 |some o =>rw[e l o q]at h;cases h
def j0.seq{K:k8v}{H H':Hp}{a:ai}{xs:List V}(e:j0 H H')(h:SqL K H a xs):SqL K H' a xs:=by
 rcases h with (h|⟨o,h⟩)|h
 .exact .inl (.inl (e _ _ h))
 .exact .inl (.inr ⟨o,e _ _ h⟩)
 .exact .inr h
set_option genInjectivity true in
inductive D where
 |non
 |bl (b:Bool)
 |int (i:Int)
 |str (x:ar)
 |tup (ds:List D)
 |lst (ds:List D)
 |dct (ks:List zo) (ds:List D)
 |sct (kvs:List (ar×Int))
 |fn (x:ar) (cs:List D)
noncomputable def kvI(kvs:List (ar×Int)):List (Key×V):=kvs.map λp=>(.inr p.1,.int p.2)
noncomputable def zm(x:ar):ar:=x ++ ".<locals>." ++ "<lambda>"
noncomputable abbrev Tx:=jU×au×bH
noncomputable def jkw:au->Option Tx
 |.Lambda a b sc _=>a8 (a,b,sc)
 |.Call _ es _ _=>match es.getLast? with
  |some (.Lambda a b sc _)=>a8 (a,b,sc)
  |_=>af
 |_=>af
noncomputable def jfb(b:List aP):Option Tx:=match b.getLast? with
 |some (.Return (a8 e) _)=>jkw e
 |_=>af
noncomputable def j35(K:k8v)(x:ar):Option Tx:=match W.nsIn K aB x with
 |some (a8 (.ref f))=>match K.lookup f with
  |some ⟨_,_,.func fd,_⟩=>match fd.body with
   |.stmts b=>jfb b
   |_=>af
  |_=>af
 |_=>af
noncomputable def Vc(sc:bH):List ar:=((sc.names.filter λp=>p.2==.free).map (·.1)).reverse
def Ja(H:Hp):List ai->List V->Prop
 |[],vs=>vs=[]
 |c::cs,vs=>∃v r o u,vs=v::r/\H c=a8 (.frz o (.own 0))/\o.data=.cell (a8 u)/\RelV v u/\Ja H cs r
theorem Ja.mono{H H':Hp}(g:j0 H H'):∀{cs:List ai}{vs:List V},Ja H cs vs->Ja H' cs vs
 |[],_,h=>h
 |_::_,_,⟨v,r,o,u,e,h,d,rv,l⟩=>⟨v,r,o,u,e,g _ _ h,d,rv,l.mono g⟩
structure LamAt(K:k8v)(H:Hp)(x:ar)(a c:ai)(t:Tx)(cl:List (ar×ai))(vs:List V):Prop where
 tx:j35 K x=a8 t
 fo:∃pm ctv,H a=a8 (.frz (W.kla_obj "<lambda>" (zm x) t.1 t.2.1 t.2.2 cl pm c ctv) (.own 0))
 co:∃oc,H c=a8 (.frz oc (.own 0))/\j3q oc (zm x)
 nm:cl.map (·.1)=Vc t.2.2
 nd:(cl.map (·.2)).Nodup
 cs:Ja H (cl.map (·.2)) vs
theorem LamAt.mono{K:k8v}{H H':Hp}{x:ar}{a c:ai}{tx:Tx}{cl:List (ar×ai)}{vs:List V}(g:j0 H H')(h:LamAt K H x a c tx cl vs):LamAt K H' x a c tx cl vs :=
 ⟨h.tx,let ⟨pm,ctv,e⟩:=h.fo;⟨pm,ctv,g _ _ e⟩,let ⟨oc,e,q⟩:=h.co;⟨oc,g _ _ e,q⟩,h.nm,h.nd,h.cs.mono g⟩
noncomputable def del(H:Hp)(A:List ai):Hp:=λb=>if b∈A then af else H b
section
variable{H H' F:Hp}{A A':List ai}{a b:ai}{o:HO}
def qp(h:b∈A):del H A b=af:=if_pos h
def j7(h:b∉A):del H A b=H b:=if_neg h
def of_del(h:del H A b=a8 o):b∉A/\H b=a8 o:=by
 by_cases e:b∈A
 .rw[qp e]at h;cases h
 .rw[j7 e]at h;exact⟨e,h⟩
def jf(g:j0 H H'):j0 (del H A) (del H' A):=λb o h=>by obtain⟨n,e⟩:=of_del h;rw[j7 n];exact g b o e
end
def j0.seqT{K:k8v}{H H':Hp}{a:ai}{xs:List V}(e:j0 H H')(h:SqT K H a xs):SqT K H' a xs:=by
 rcases h with (h|⟨o,h⟩)|h
 .exact .inl (.inl (e _ _ h))
 .exact .inl (.inr ⟨o,e _ _ h⟩)
 .exact .inr h
mutual
def Enc(K:k8v)(H:Hp):D->V->Prop
 |.non,v=>v=.non
 |.bl b,v=>v=.bl b
 |.int i,v=>v=.int i
 |.str x,v=>v=.str x
 |.tup ds,v=>∃a xs,v=.ref a/\SqT K H a xs/\j4 K H ds xs
 |.lst ds,v=>∃a xs,v=.ref a/\SqL K H a xs/\j4 K H ds xs
 |.dct ks ds,v=>∃(a:ai)(xs:List (zo×ai×aj)) (ep:Nat) (vs:List V),v=.ref a/\H a=a8 (.dI xs ep)/\ks=(xs.map λx=>x.1)/\(∀x∈xs,SqT K H x.2.1 (x.1.map V.int))/\Vals vs (xs.map λx=>x.2.2)/\j4 K H ds vs
 |.sct kvs,v=>∃a:ai,v=.ref a/\H a=a8 (.dK (kvI kvs))
 |.fn x ds,v=>∃(a c:ai)(tx:Tx)(cl:List (ar×ai)) (vs:List V),v=.ref a/\LamAt K H x a c tx cl vs/\j4 K (del H (cl.map (·.2))) ds vs
def j4(K:k8v)(H:Hp):List D->List V->Prop
 |[],xs=>xs=[]
 |d::ds,xs=>∃x r,xs=x::r/\Enc K H d x/\j4 K H ds r
end
mutual
theorem Enc.mono{K:k8v}{H H':Hp}(g:j0 H H'):∀{d:D}{v:V},Enc K H d v->Enc K H' d v
 |.non,_,h=>h
 |.bl _,_,h=>h
 |.int _,_,h=>h
 |.str _,_,h=>h
 |.tup _,_,⟨a,xs,e,q,l⟩=>⟨a,xs,e,g.seqT q,j4.mono g l⟩
 |.lst _,_,⟨a,xs,e,q,l⟩=>⟨a,xs,e,g.seq q,j4.mono g l⟩
 |.dct _ _,_,⟨a,xs,ep,vs,e,q,ek,kt,rv,l⟩=>⟨a,xs,ep,vs,e,g _ _ q,ek,λx hx=>g.seqT (kt x hx),rv,j4.mono g l⟩
 |.sct _,_,⟨a,e,q⟩=>⟨a,e,g _ _ q⟩
 |.fn _ _,_,⟨a,c,tx,cl,vs,e,q,l⟩=>⟨a,c,tx,cl,vs,e,q.mono g,j4.mono (jf g) l⟩
theorem j4.mono{K:k8v}{H H':Hp}(g:j0 H H'):∀{ds:List D}{xs:List V},j4 K H ds xs->j4 K H' ds xs
 |[],_,h=>h
 |_::_,_,⟨x,r,e,h,l⟩=>⟨x,r,e,Enc.mono g h,j4.mono g l⟩
end
section
variable{K:k8v}{H H':Hp}{ds ds':List D}{xs ys:List V}
theorem j4.length:∀{ds:List D}{xs:List V},j4 K H ds xs->xs.length=ds.length
 |[],_,h=>by cases h;rfl
 |_::_,_,⟨x,r,e,_,l⟩=>by subst e;simp[j4.length l]
theorem j4.get:∀{ds:List D}{xs:List V}{i:Nat}{d:D},j4 K H ds xs->ds[i]?=a8 d->∃x,xs[i]?=a8 x/\Enc K H d x
 |[],_,i,d,_,e=>by simp at e
 |_::_,_,0,d,⟨x,r,e,h,_⟩,q=>by subst e;simp at q;subst q;exact⟨x,rfl,h⟩
 |_::_,_,i+1,d,⟨x,r,e,_,l⟩,q=>by subst e;simp at q;obtain⟨y,hy,hd⟩:=j4.get l q;exact⟨y,by simpa using hy,hd⟩
theorem j4.get':∀{ds:List D}{xs:List V}{i:Nat}{x:V},j4 K H ds xs->xs[i]?=a8 x->∃d,ds[i]?=a8 d/\Enc K H d x
 |[],_,i,d,h,e=>by cases h;simp at e
 |d::_,_,0,y,⟨x,r,e,h,_⟩,q=>by subst e;simp at q;subst q;exact⟨d,rfl,h⟩
 |_::_,_,i+1,y,⟨x,r,e,_,l⟩,q=>by subst e;simp at q;obtain⟨y,hy,hd⟩:=j4.get' l q;exact⟨y,by simpa using hy,hd⟩
theorem j4.append:∀{ds ds':List D}{xs ys:List V},j4 K H ds xs->j4 K H ds' ys->j4 K H (ds++ds') (xs++ys)
 |[],_,_,_,h,h'=>by cases h;exact h'
 |_::_,_,_,_,⟨x,r,e,h,l⟩,h'=>by subst e;exact⟨x,_,rfl,h,j4.append l h'⟩
def j4.one{d:D}{x:V}(h:Enc K H d x):j4 K H [d] [x]:=⟨x,[],rfl,h,rfl⟩
theorem j4.take:∀{ds:List D}{xs:List V}(n:Nat),j4 K H ds xs->j4 K H (ds.take n) (xs.take n)
 |[],_,n,h=>by cases h;simp;exact rfl
 |_::_,_,0,⟨x,r,e,h,l⟩=>by simp;exact rfl
 |_::_,_,n+1,⟨x,r,e,h,l⟩=>by subst e;exact⟨x,_,rfl,h,j4.take n l⟩
theorem j4.drop:∀{ds:List D}{xs:List V}(n:Nat),j4 K H ds xs->j4 K H (ds.drop n) (xs.drop n)
 |[],_,n,h=>by cases h;simp;exact rfl
 |_::_,_,0,h=>h
 |_::_,_,n+1,⟨x,r,e,h,l⟩=>by subst e;exact j4.drop n l
theorem j4.rep{ds:List D}{xs:List V}(h:j4 K H ds xs):∀k:Nat,j4 K H (ay k ds).flatten (ay k xs).flatten
 |0=>rfl
 |k+1=>by rw[t6,t6,Tq,Tq];exact h.append (j4.rep h k)
def j4.ints(ns:zo):j4 K H (ns.map D.int) (ns.map V.int):=by
 induction ns with
 |nil=>exact rfl
 |cons n ns ih=>exact⟨_,_,rfl,rfl,ih⟩
end
section
variable{H H' F:Hp}{A A':List ai}{a b:ai}{o:HO}
def qt:del H []=H:=funext λb=>if_neg (by simp)
def je:j0 (del H A) H:=λ_ _ h=>(of_del h).2
def J7(h:∀b,b∈A'->b∈A):j0 (del H A) (del H A'):=λb o e=>by obtain⟨n,e⟩:=of_del e;rw[j7 λz=>n (h b z)];exact e
def Zg(h:a∈A):del (upd H a o) A=del H A:=funext λb=>by
 by_cases e:b∈A
 .rw[qp e,qp e]
 .rw[j7 e,j7 e,jd];rintro rfl;exact e h
noncomputable def mrg(A:List ai)(H F:Hp):Hp:=λb=>if b∈A then H b else F b
def vz(h:b∈A):mrg A H F b=H b:=if_pos h
def ji(h:b∉A):mrg A H F b=F b:=if_neg h
def V6(h:∀a∈A,F a=af):del (mrg A H F) A=F:=funext λb=>by
 by_cases e:b∈A
 .rw[qp e,h b e]
 .rw[j7 e,ji e]
def Od(g:j0 (del H A) F):j0 H (mrg A H F):=λb o e=>by
 by_cases z:b∈A
 .rw[vz z];exact e
 .rw[ji z];exact g b o (by rw[j7 z];exact e)
def j6(h:H a=af):j0 H (upd H a o):=λb u q=>by rw[jd (Jj q h)];exact q
end
def Hd(o:Option HO):Prop:=(∃xs,o=a8 (.lst xs))\/∃xs ep,o=a8 (.dI xs ep)
def Hq(o:Option HO):Prop:=(∃xs,o=a8 (.lst xs))\/(∃xs ep,o=a8 (.dI xs ep))\/∃kvs,o=a8 (.dK kvs)
def Hd.q{o:Option HO}(h:Hd o):Hq o:=h.elim .inl λh=>.inr (.inl h)
section
variable{X:Cx}{pins:k8x}{σ σ':St}{H F:Hp}{s s':aq}{A:List ai}
def Inv.noFs(I:Inv X pins σ H s){b:ai}(hb:b∈X.fs):H b=af:=by
 have q:b∈frs X.stack:=by
  rcases I.ok.stk with e|⟨e,_⟩
  .rw[e];exact hb
  .rw[e];have hb:b∈frs X.outer:=hb;unfold frs at hb ⊢;rw[cN];split
   .exact hb
   .exact xm _ hb
 exact I.stkFree b q
def Inv.hideQ(I:Inv X pins σ H s)(hA:∀a∈A,Hq (H a)):Inv X (pins++Qy A s.heap) σ (del H A) s where
 ok:=I.ok
 os:=I.os
 bare:=I.bare
 base:={
  keep:=I.base.keep
  slot:=I.base.slot
  free:=λb o e n hx=>by
   have q:=I.base.free b o e n hx
   by_cases z:b∈A
   .exact qp z
   .rw[j7 z];exact q
  there:=I.base.there
  tups:=λb xs e=>by
   have q:=I.base.tups b xs e
   rw[j7];exact q
   intro z;rcases hA b z with ⟨ys,e'⟩|⟨ys,ep,e'⟩|⟨ys,e'⟩<;>(rw[q]at e';cases e')
  frzs:=λb o u e=>by
   have q:=I.base.frzs b o u e
   rw[j7];exact q
   intro z;rcases hA b z with ⟨ys,e'⟩|⟨ys,ep,e'⟩|⟨ys,e'⟩<;>(rw[q]at e';cases e')
  tbls:=λb ps e=>by
   obtain⟨more,q⟩:=I.base.tbls b ps e
   refine⟨more,?_⟩
   rw[j7];exact q
   intro z;rcases hA b z with ⟨ys,e'⟩|⟨ys,ep,e'⟩|⟨ys,e'⟩<;>(rw[q]at e';cases e') }
 loc:=I.loc
 cell:=I.cell
 free:=by
  by_cases z:X.env.locals∈A
  .exact qp z
  .rw[j7 z];exact I.free
 freeC:=λx c e=>by
  by_cases z:c∈A
  .exact qp z
  .rw[j7 z];exact I.freeC x c e
 pin:=λp hp=>by
  rw[<-T9]at hp;rcases Xp.mp hp with hp|hp
  .obtain⟨h1,h2,h3⟩:=I.pin p hp;refine⟨h1,?_,h3⟩;by_cases z:p.1∈A
   .exact qp z
   .rw[j7 z];exact h2
  .obtain⟨h1,h2⟩:=Cm hp;rcases hA _ h1 with ⟨xs,e⟩|⟨xs,ep,e⟩|⟨xs,e⟩
   .refine⟨h2,qp h1,λz=>?_,λz=>?_,λv z=>?_⟩
    .rw[z,I.free]at e;cases e
    .rw[I.noFs z]at e;cases e
    .obtain⟨_,its,n,_,q⟩:=(show jh X.prog X.w H s.heap p.1 (.lst xs)from I.hok _ _ e)
     rw[h2]at q;rw[ax q]at z;cases z
   .refine⟨h2,qp h1,λz=>?_,λz=>?_,λv z=>?_⟩
    .rw[z,I.free]at e;cases e
    .rw[I.noFs z]at e;cases e
    .obtain⟨_,_,_,ob,es,q,_,qd,_⟩:=(show jh X.prog X.w H s.heap p.1 (.dI xs ep)from I.hok _ _ e)
     rw[h2]at q;rw[ax q,qd]at z;cases z
   .refine⟨h2,qp h1,λz=>?_,λz=>?_,λv z=>?_⟩
    .rw[z,I.free]at e;cases e
    .rw[I.noFs z]at e;cases e
    .obtain⟨_,_,vs,_,ob,es,ep,q,_,qd,_⟩:=(show jh X.prog X.w H s.heap p.1 (.dK xs)from I.hok _ _ e)
     rw[h2]at q;rw[ax q,qd]at z;cases z
 hok:=λa o e=>by
  obtain⟨n,e⟩:=of_del e;refine jh.stay (I.hok a o e) (λb u _ q=>q) (λb q=>?_) (λb xs q=>?_) (λb _ _ q=>?_)
  .rw[j7];exact q;intro z;rcases hA b z with ⟨ys,e'⟩|⟨ys,ep,e'⟩|⟨ys,e'⟩<;>(rw[q]at e';cases e')
  .rw[j7];exact q;intro z;rcases hA b z with ⟨ys,e'⟩|⟨ys,ep,e'⟩|⟨ys,e'⟩<;>(rw[q]at e';cases e')
  .rw[j7];exact q;intro z;rcases hA b z with ⟨ys,e'⟩|⟨ys,ep,e'⟩|⟨ys,e'⟩<;>(rw[q]at e';cases e')
 len:=I.len
def Inv.unhideQ(I0:Inv X pins σ H s)(hA:∀a∈A,Hq (H a))(I:Inv X (pins++Qy A s.heap) σ' F s') :
  (∀a∈A,F a=af)/\Inv X pins σ' (mrg A H F) s':=by
 have pinned:∀a∈A,∃o,s.heap.get? a=a8 o/\s'.heap.get? a=a8 o/\F a=af:=λa ha=>by
  have ob:∃o,s.heap.get? a=a8 o:=by
   rcases hA a ha with ⟨xs,e⟩|⟨xs,ep,e⟩|⟨xs,e⟩
   .obtain⟨_,its,n,_,q⟩:=(show jh X.prog X.w H s.heap a (.lst xs)from I0.hok _ _ e)
    exact⟨_,q⟩
   .obtain⟨_,_,_,o,es,q,_⟩:=(show jh X.prog X.w H s.heap a (.dI xs ep)from I0.hok _ _ e)
    exact⟨_,q⟩
   .obtain⟨_,_,_,_,o,es,ep,q,_⟩:=(show jh X.prog X.w H s.heap a (.dK xs)from I0.hok _ _ e)
    exact⟨_,q⟩
  obtain⟨o,q⟩:=ob;obtain⟨h1,h2,_⟩:=I.pin (a,_) (Xb _ (Xb _ (Jk ha q)));exact⟨_,q,h1,h2⟩
 have hF:∀a∈A,F a=af:=λa ha=>let ⟨_,_,_,q⟩:=pinned a ha;q;have out:∀{b:ai}{o:HO},F b=a8 o->b∉A:=λ{b o} e z=>by rw[hF b z]at e;cases e
 refine⟨hF,?_⟩;exact{
  ok:=I.ok
  os:=I.os
  bare:=I.bare
  base:={
   keep:=I.base.keep
   slot:=I.base.slot
   free:=λb o e n hx=>by
    by_cases z:b∈A
    .rw[vz z];exact I0.base.free b o e n hx
    .rw[ji z];exact I.base.free b o e n hx
   there:=I.base.there
   tups:=λb xs e=>by
    have q:=I.base.tups b xs e
    rw[ji (out q)];exact q
   frzs:=λb o u e=>by
    have q:=I.base.frzs b o u e
    rw[ji (out q)];exact q
   tbls:=λb ps e=>by
    obtain⟨more,q⟩:=I.base.tbls b ps e
    exact⟨more,by rw[ji (out q)];exact q⟩ }
  loc:=I.loc
  cell:=I.cell
  free:=by
   by_cases z:X.env.locals∈A
   .rw[vz z];exact I0.free
   .rw[ji z];exact I.free
  freeC:=λx c e=>by
   by_cases z:c∈A
   .rw[vz z];exact I0.freeC x c e
   .rw[ji z];exact I.freeC x c e
  pin:=λp hp=>by
   obtain⟨h1,h2,h3⟩:=I.pin p (by rw[<-T9];exact Xk _ hp)
   refine⟨h1,?_,h3⟩
   by_cases z:p.1∈A
   .rw[vz z];exact(I0.pin p hp).2.1
   .rw[ji z];exact h2
  hok:=λa o e=>by
   by_cases z:a∈A
   .rw[vz z]at e
    obtain⟨o',q1,q2,_⟩:=pinned a z
    rcases hA a z with ⟨xs,e'⟩|⟨xs,ep,e'⟩|⟨xs,e'⟩
    .rw[e']at e;cases e
     obtain⟨hl,its,n,r,q⟩:=(show jh X.prog X.w H s.heap a (.lst xs)from I0.hok _ _ e')
     rw[q]at q1;cases q1
     exact⟨hl,its,n,r,q2⟩
    .rw[e']at e;cases e
     obtain⟨z1,z2,z3,ob,es,q,z4⟩:=(show jh X.prog X.w H s.heap a (.dI xs ep)from I0.hok _ _ e')
     rw[q]at q1;cases q1
     exact⟨z1,z2,z3,_,es,q2,z4⟩
    .rw[e']at e;cases e
     obtain⟨z1,z2,vs,z3,ob,es,ep,q,z4⟩:=(show jh X.prog X.w H s.heap a (.dK xs)from I0.hok _ _ e')
     rw[q]at q1;cases q1
     exact⟨z1,z2,vs,z3,_,es,ep,q2,z4⟩
   .rw[ji z]at e
    refine jh.stay (I.hok a o e) (λb u _ q=>q) (λb q=>?_) (λb xs q=>?_) (λb _ _ q=>?_)
    .rw[ji (out q)];exact q
    .rw[ji (out q)];exact q
    .rw[ji (out q)];exact q
  len:=I.len }
def Inv.hide(I:Inv X pins σ H s)(hA:∀a∈A,Hd (H a)):Inv X (pins++Qy A s.heap) σ (del H A) s:=I.hideQ λa h=>(hA a h).q
def Inv.unhide(I0:Inv X pins σ H s)(hA:∀a∈A,Hd (H a))(I:Inv X (pins++Qy A s.heap) σ' F s'):(∀a∈A,F a=af)/\Inv X pins σ' (mrg A H F) s':=I0.unhideQ (λa h=>(hA a h).q) I
end
def Jo(X:Cx)(e:au):TE:=λσ H Q=>∀pins s,Inv X pins σ H s->av (aC X.prog X.w) X.A (aD e X.env) (EP X pins σ Q) X.xe s
def Fd(X:Cx)(e:au):TT:=λσ H Q=>∀pins s,Inv X pins σ H s->av (aC X.prog X.w) X.A (i4 e X.env (aD e X.env)) (TP X pins σ Q) X.xe s
def Ua(X:Cx)(es:List au):TA:=λσ H Q=>∀pos pins s,Inv X pins σ H s->av (aC X.prog X.w) X.A (k8 (aU pos (ah es X.env))) (AP X pins σ Q) X.xe s
def Ff(X:Cx)(st:aP):TS:=λD σ H=>∀pins s,Inv X pins σ H s->av (aC X.prog X.w) X.A (exec st X.env) (SP X pins D) X.xe s
def Jr(X:Cx)(sts:List aP):TS:=λD σ H=>∀pins s,Inv X pins σ H s->av (aC X.prog X.w) X.A (execs sts X.env) (SP X pins D) X.xe s
def Ww(X:Cx)(tg iter:au):TI:=λσ H R=>∀pins s,Inv X pins σ H s ->
 av (aC X.prog X.w) X.A (aD iter X.env) (λv s1=>av (aC X.prog X.w) X.A (iA v) (PIE X pins σ tg R) X.xe s1) X.xe s
section
variable{X:Cx}{e tg:au}{es:List au}{st:aP}{sts:List aP}{σ:St}{H:Hp}
def peS:PE X e (Jo X e):=λpins s _ _ _ I h=>h pins s I
def ptS:PT X e (Fd X e):=λpins s _ _ _ I h=>h pins s I
def paS:PA X es (Ua X es):=λpos pins s _ _ _ I h=>h pos pins s I
def psS:PS X st (Ff X st):=λpins s _ _ _ I h=>h pins s I
def Jc:PSs X sts (Jr X sts):=λpins s _ _ _ I h=>h pins s I
def piS:PI X tg e (Ww X tg e):=λpins s _ _ _ I h=>h pins s I
def PE.to{t:TE}(h:PE X e t){Q:VK}(q:t σ H Q):Jo X e σ H Q:=λpins s I=>h pins s σ H Q I q
def PT.to{t:TT}(h:PT X e t){Q:Bool->Hp->Prop}(q:t σ H Q):Fd X e σ H Q:=λpins s I=>h pins s σ H Q I q
def PA.to{t:TA}(h:PA X es t){Q:List V->Hp->Prop}(q:t σ H Q):Ua X es σ H Q:=λpos pins s I=>h pos pins s σ H Q I q
def PS.to{t:TS}(h:PS X st t){D:Ends}(q:t D σ H):Ff X st D σ H:=λpins s I=>h pins s σ H D I q
def PSs.to{t:TS}(h:PSs X sts t){D:Ends}(q:t D σ H):Jr X sts D σ H:=λpins s I=>h pins s σ H D I q
def PI.to{t:TI}(h:PI X tg e t){R:It->Hp->Prop}(q:t σ H R):Ww X tg e σ H R:=λpins s I=>h pins s σ H R I q
def Mx{A:List ai}{Q Q':VK}(hA:∀a∈A,Hq (H a))(h:Jo X e σ (del H A) Q')(hq:∀v F,Q' v F->(∀a∈A,F a=af)->Q v (mrg A H F)):Jo X e σ H Q :=
 λpins s I=>thn (h _ s (I.hideQ hA)) λv s' ⟨x,F,I',r,q⟩=>let ⟨n,I2⟩:=I.unhideQ hA I';⟨x,_,I2,r,hq x F q n⟩
def j2m{A:List ai}{Q Q':VK}(hA:∀a∈A,Hd (H a))(h:Jo X e σ (del H A) Q')(hq:∀v F,Q' v F->(∀a∈A,F a=af)->Q v (mrg A H F)):Jo X e σ H Q:=Mx (λa h=>(hA a h).q) h hq
def Bk{A:List ai}{Q Q':Bool->Hp->Prop}(hA:∀a∈A,Hd (H a))(h:Fd X e σ (del H A) Q')(hq:∀v F,Q' v F->(∀a∈A,F a=af)->Q v (mrg A H F)):Fd X e σ H Q :=
 λpins s I=>thn (h _ s (I.hide hA)) λv s' ⟨F,I',q⟩=>let ⟨n,I2⟩:=I.unhide hA I';⟨_,I2,hq v F q n⟩
def j0y{A:List ai}{R R':It->Hp->Prop}(hA:∀a∈A,Hq (H a))(h:Ww X tg e σ (del H A) R')(hq:∀J F,R' J F->(∀a∈A,F a=af)->R J (mrg A H F)):Ww X tg e σ H R :=
 λpins s I=>thn (h _ s (I.hideQ hA)) λv s' h1=>thn h1 λitv s2 ⟨it,fp,tn,J,F,e,I',T,t0,fk,q⟩=>by
  obtain⟨n,I2⟩:=I.unhideQ hA I';refine⟨it,fp,tn,J,_,e,I2,T,t0,λb hb=>?_,hq J F q n⟩;obtain⟨f0,f1,f2,f3,f4,f5⟩:=fk b hb;refine⟨?_,f1,f2,f3,f4,λp hp=>f5 p (by rw[<-T9];exact Xk _ hp)⟩;by_cases z:b∈A
  .exfalso;have ob:∃o,s.heap.get? b=a8 o:=by
    rcases hA b z with ⟨xs,e⟩|⟨xs,ep,e⟩|⟨xs,e⟩
    .obtain⟨_,its,n,_,q⟩:=(show jh X.prog X.w H s.heap b (.lst xs)from I.hok _ _ e)
     exact⟨_,q⟩
    .obtain⟨_,_,_,o,es,q,_⟩:=(show jh X.prog X.w H s.heap b (.dI xs ep)from I.hok _ _ e)
     exact⟨_,q⟩
    .obtain⟨_,_,_,_,o,es,ep,q,_⟩:=(show jh X.prog X.w H s.heap b (.dK xs)from I.hok _ _ e)
     exact⟨_,q⟩
   obtain⟨o,q⟩:=ob;exact f5 (b,o) (Xb _ (Xb _ (Jk z q))) rfl
  .rw[ji z];exact f0
def Bl{A:List ai}{R R':It->Hp->Prop}(hA:∀a∈A,Hd (H a))(h:Ww X tg e σ (del H A) R')(hq:∀J F,R' J F->(∀a∈A,F a=af)->R J (mrg A H F)):Ww X tg e σ H R:=j0y (λa h=>(hA a h).q) h hq
end
inductive Sl where
 |un
 |val (d:D)
 |own (a:ai) (ds:List D)
 |raw (a:ai) (o:dF) (x:ar)
noncomputable abbrev Rho:=List Sl
noncomputable def Sl.addr:Sl->Option ai
 |.own a _=>a8 a
 |_=>af
noncomputable def owns(ρ:Rho):List ai:=ρ.filterMap Sl.addr
def Jp{ρ:Rho}{i:Nat}{a:ai}{ds:List D}(h:ρ[i]?=a8 (.own a ds)):a∈owns ρ:=Tn.mpr ⟨_,Xl h,rfl⟩
def Vb{ρ:Rho}{a:ai}(h:a∈owns ρ):∃(i:Nat)(ds:List D),ρ[i]?=a8 (.own a ds):=by
 obtain⟨s,hs,e⟩:=Tn.mp h;obtain⟨i,hi⟩:=List.mem_iff_getElem?.mp hs;cases s with
 |own b ds=>cases e;exact⟨i,ds,hi⟩
 |un=>cases e
 |val d=>cases e
 |raw b o x=>cases e
def jl(s:Sl)(ρ:Rho):owns (s::ρ)=(match s.addr with|some a=>a::owns ρ|none=>owns ρ):=by unfold owns;rw[cN];cases s.addr<;>rfl
theorem jg{s:Sl}(hs:s.addr=af):∀{ρ:Rho}{i:Nat},(owns (ρ.set i s)).Sublist (owns ρ)
 |[],_=>List.Sublist.refl _
 |x::r,0=>by
  rw[T4,jl,jl,hs];cases x.addr with
  |none=>exact List.Sublist.refl _
  |some a=>exact List.sublist_cons_self _ _
 |x::r,i+1=>by
  rw[T5,jl,jl];have ih:=jg hs (ρ:=r) (i:=i);cases x.addr with
  |none=>exact ih
  |some a=>exact ih.cons_cons a
theorem Z3{a:ai}{ds ds':List D}:∀{ρ:Rho}{i:Nat},ρ[i]?=a8 (.own a ds)->owns (ρ.set i (.own a ds'))=owns ρ
 |[],_,h=>by simp at h
 |x::r,0,h=>by simp at h;subst h;rw[T4,jl,jl];rfl
 |x::r,i+1,h=>by simp at h;rw[T5,jl,jl,Z3 h]
theorem O1{s:Sl}(hs:s.addr=af):∀{ρ:Rho}{i:Nat},(∀a l,ρ[i]?≠a8 (.own a l))->owns (ρ.set i s)=owns ρ
 |[],_,_=>rfl
 |x::r,0,h=>by
  rw[T4,jl,jl,hs];cases x with
  |own a l=>exact absurd rfl (h a l)
  |un=>rfl
  |val d=>rfl
  |raw a o x=>rfl
 |x::r,i+1,h=>by rw[T5,jl,jl,O1 hs (λa l=>by simpa using h a l)]
theorem Jt{a:ai}{ds:List D}:∀{ρ:Rho}{i:Nat},(owns ρ).Nodup->a∉owns ρ->(owns (ρ.set i (.own a ds))).Nodup/\∀b∈owns (ρ.set i (.own a ds)),b=a\/b∈owns ρ
 |[],_,n,_=>⟨n,λb hb=>.inr hb⟩
 |x::r,0,n,h=>by
  rw[T4,jl];rw[jl]at n h;have e:(Sl.own a ds).addr=a8 a:=rfl;rw[e];cases q:x.addr with
  |none =>rw[q]at n h;exact⟨Xn.mpr ⟨h,n⟩,λb hb=>(xq.mp hb).elim .inl λz=>.inr (by rw[jl,q];exact z)⟩
  |some c =>rw[q]at n h;exact⟨Xn.mpr ⟨λz=>h (xm _ z),(Xn.mp n).2⟩,λb hb=>(xq.mp hb).elim .inl λz=>.inr (by rw[jl,q];exact xm _ z)⟩
 |x::r,i+1,n,h=>by
  rw[T5,jl];rw[jl]at n h;cases q:x.addr with
  |none =>rw[q]at n h;obtain⟨i1,i2⟩:=Jt (ds:=ds) (i:=i) n h;exact⟨i1,λb hb=>(i2 b hb).elim .inl λz=>.inr (by rw[jl,q];exact z)⟩
  |some c =>
   rw[q]at n h;obtain⟨n1,n2⟩:=Xn.mp n;obtain⟨i1,i2⟩:=Jt (ds:=ds) (i:=i) n2 (λz=>h (xm _ z));refine⟨Xn.mpr ⟨λz=>?_,i1⟩,λb hb=>?_⟩
   .rcases i2 c z with e|z
    .subst e;exact h (xr ..)
    .exact n1 z
   .rcases xq.mp hb with e|z
    .exact .inr (by rw[jl,q];exact e▸xr ..)
    .exact(i2 b z).elim .inl λz=>.inr (by rw[jl,q];exact xm _ z)
theorem Yg{a:ai}{l l':List D}:∀{ρ:Rho}{i j:Nat},(owns ρ).Nodup->ρ[i]?=a8 (.own a l)->ρ[j]?=a8 (.own a l')->i=j
 |[],i,_,_,h,_=>by simp at h
 |x::r,0,0,_,_,_=>rfl
 |x::r,0,j+1,n,h,h'=>by simp at h h';subst h;rw[jl]at n;exact absurd (Jp h') (Xn.mp n).1
 |x::r,i+1,0,n,h,h'=>by simp at h h';subst h';rw[jl]at n;exact absurd (Jp h) (Xn.mp n).1
 |x::r,i+1,j+1,n,h,h'=>by
  simp at h h';have n':(owns r).Nodup:=by
   rw[jl]at n;cases q:x.addr with
   |none=>rw[q]at n;exact n
   |some c=>rw[q]at n;exact(Xn.mp n).2
  rw[Yg n' h h']
noncomputable def Vo:List ar:=["worst_cost_of_ask","least_numbers","whole_cost_of_ask","round_numbers"]
def TabOk(K:k8v)(H:Hp):Prop:=∀x∈Vo,∀c P,W.tabIn K x=a8 (c,P)->H P=a8 (.cod (zm x))
section
variable{K:k8v}{H H':Hp}
def TabOk.mono(h:TabOk K H)(g:j0 H H'):TabOk K H':=λx hx c P e=>g _ _ (h x hx c P e)
theorem TabOk.upd{a:ai}{o u:HO}(h:TabOk K H)(e:H a=a8 u)(n:∀q,u≠.cod q):TabOk K (upd H a o):=λx hx c P z=>by have q:=h x hx c P z;rw[jd];exact q;intro y;subst y;rw[e]at q;exact n _ (ax q)
theorem TabOk.del{A:List ai}(h:TabOk K H)(hA:∀a∈A,∃xs,H a=a8 (.lst xs)):TabOk K (del H A):=λx hx c P z=>by have q:=h x hx c P z;rw[j7];exact q;intro y;obtain⟨xs,e⟩:=hA _ y;rw[q]at e;cases e
end
noncomputable def rfN:ar:="@"
def Ko(K:k8v)(F:Hp)(a:ai)(o:dF)(x:ar):Prop:=x=rfN\/(F a=a8 (.frz o (.own a))/\W.nsIn K aB x=a8 (a8 o.cls))
def Ko.mono{K:k8v}{F F':Hp}{a:ai}{o:dF}{x:ar}(h:Ko K F a o x)(g:j0 F F'):Ko K F' a o x:=h.elim .inl λh=>.inr ⟨g _ _ h.1,h.2⟩
structure Rep(K:k8v)(ρ:Rho)(σ:St)(H:Hp):Prop where
 len:σ.length=ρ.length
 val:∀(i:Nat)(d:D),ρ[i]?=a8 (.val d)->∃v,σ[i]?=a8 (a8 v)/\Enc K (del H (owns ρ)) d v
 own:∀(i:Nat)(a:ai)(ds:List D),ρ[i]?=a8 (.own a ds)->σ[i]?=a8 (a8 (.ref a))/\∃xs,H a=a8 (.lst xs)/\j4 K (del H (owns ρ)) ds xs
 nd:(owns ρ).Nodup
 raw:∀(i:Nat)(a:ai)(o:dF)(x:ar),ρ[i]?=a8 (.raw a o x)->σ[i]?=a8 (a8 (.ref a))/\Ko K (del H (owns ρ)) a o x
 tb:TabOk K H
section
variable{K:k8v}{ρ ρ':Rho}{σ:St}{H H':Hp}{i:Nat}{d:D}{v:V}{a:ai}{ds ds':List D}{xs:List V}
def Rep.owned(R:Rep K ρ σ H):∀a∈owns ρ,∃xs,H a=a8 (.lst xs):=λa h=>by obtain⟨i,ds,e⟩:=Vb h;obtain⟨_,xs,q,_⟩:=R.own i a ds e;exact⟨xs,q⟩
def Rep.fresh(R:Rep K ρ σ H)(h:H a=af):a∉owns ρ:=λz=>by obtain⟨xs,e⟩:=R.owned a z;rw[h]at e;cases e
def Rep.grow(R:Rep K ρ σ H)(g:j0 H H'):Rep K ρ σ H' :=
 ⟨R.len,λi d e=>let ⟨v,q,h⟩:=R.val i d e;⟨v,q,h.mono (jf g)⟩,λi a ds e=>let ⟨q,xs,h,l⟩:=R.own i a ds e;⟨q,xs,g _ _ h,l.mono (jf g)⟩,R.nd,λi a o x e=>let ⟨q,h⟩:=R.raw i a o x e;⟨q,h.mono (jf g)⟩,R.tb.mono g⟩
def getElem?_set_of{α:Type}{l:List α}{i j:Nat}{x y:α}(h:(l.set i x)[j]?=a8 y):(i=j/\y=x/\i<l.length)\/(i≠j/\l[j]?=a8 y):=by
 rw[gy]at h;split at h
 .rename_i e;subst e;split at h
  .rename_i z;cases h;exact .inl ⟨rfl,rfl,z⟩
  .cases h
 .rename_i e;exact .inr ⟨e,h⟩
def Js{α:Type}{l:List α}{i:Nat}{x:α}(h:i<l.length):(l.set i x)[i]?=a8 x:=by simp[h]
def qg{α:Type}{l:List α}{i j:Nat}{x:α}(h:i≠j):(l.set i x)[j]?=l[j]?:=by simp[h]
def Rep.set_val(R:Rep K ρ σ H)(e:Enc K (del H (owns ρ)) d v):Rep K (ρ.set i (.val d)) (σ.set i (a8 v)) H:=by
 have sub:(owns (ρ.set i (.val d))).Sublist (owns ρ):=jg rfl;have g:j0 (del H (owns ρ)) (del H (owns (ρ.set i (.val d)))):=J7 λb hb=>sub.subset hb;refine⟨by simp[R.len],λj d' h=>?_,λj a ds h=>?_,sub.nodup R.nd,λj a o x h=>?_,R.tb⟩
 .rcases getElem?_set_of h with ⟨rfl,z,hl⟩|⟨n,h⟩
  .cases z;exact⟨v,Js (by rw[R.len];exact hl),e.mono g⟩
  .obtain⟨u,q,h⟩:=R.val j d' h;exact⟨u,by rw[qg n];exact q,h.mono g⟩
 .rcases getElem?_set_of h with ⟨rfl,z,_⟩|⟨n,h⟩
  .cases z
  .obtain⟨q,xs,h,l⟩:=R.own j a ds h;exact⟨by rw[qg n];exact q,xs,h,l.mono g⟩
 .rcases getElem?_set_of h with ⟨rfl,z,_⟩|⟨n,h⟩
  .cases z
  .obtain⟨q,h⟩:=R.raw j a o x h;exact⟨by rw[qg n];exact q,h.mono g⟩
def Rep.set_un{v:Option V}(R:Rep K ρ σ H):Rep K (ρ.set i .un) (σ.set i v) H:=by
 have sub:(owns (ρ.set i .un)).Sublist (owns ρ):=jg rfl;have g:j0 (del H (owns ρ)) (del H (owns (ρ.set i .un))):=J7 λb hb=>sub.subset hb;refine⟨by simp[R.len],λj d' h=>?_,λj a ds h=>?_,sub.nodup R.nd,λj a o x h=>?_,R.tb⟩
 .rcases getElem?_set_of h with ⟨rfl,z,hl⟩|⟨n,h⟩
  .cases z
  .obtain⟨u,q,h⟩:=R.val j d' h;exact⟨u,by rw[qg n];exact q,h.mono g⟩
 .rcases getElem?_set_of h with ⟨rfl,z,_⟩|⟨n,h⟩
  .cases z
  .obtain⟨q,xs,h,l⟩:=R.own j a ds h;exact⟨by rw[qg n];exact q,xs,h,l.mono g⟩
 .rcases getElem?_set_of h with ⟨rfl,z,_⟩|⟨n,h⟩
  .cases z
  .obtain⟨q,h⟩:=R.raw j a o x h;exact⟨by rw[qg n];exact q,h.mono g⟩
def Rep.set_own(R:Rep K ρ σ H)(g:j0 H H')(ha:H a=af)(e:H' a=a8 (.lst xs))(l:j4 K (del H' (a::owns ρ)) ds xs):Rep K (ρ.set i (.own a ds)) (σ.set i (a8 (.ref a))) H':=by
 have na:=R.fresh ha;obtain⟨nd,sub⟩:=Jt (ds:=ds) (i:=i) R.nd na;have g1:j0 (del H' (a::owns ρ)) (del H' (owns (ρ.set i (.own a ds)))):=J7 λb hb=>by
  rcases sub b hb with e|z
  .exact e▸xr ..
  .exact xm _ z
 have g2:j0 (del H (owns ρ)) (del H' (a::owns ρ)):=λb o q=>by
  obtain⟨n,q⟩:=of_del q;rw[j7];exact g b o q;intro z;rcases xq.mp z with e|z
  .subst e;rw[ha]at q;cases q
  .exact n z
 refine⟨by simp[R.len],λj d' h=>?_,λj b ds' h=>?_,nd,λj b o x h=>?_,R.tb.mono g⟩
 .rcases getElem?_set_of h with ⟨rfl,z,hl⟩|⟨n,h⟩
  .cases z
  .obtain⟨u,q,h⟩:=R.val j d' h;exact⟨u,by rw[qg n];exact q,h.mono (g2.trans g1)⟩
 .rcases getElem?_set_of h with ⟨rfl,z,hl⟩|⟨n,h⟩
  .cases z;exact⟨Js (by rw[R.len];exact hl),xs,e,l.mono g1⟩
  .obtain⟨q,ys,h,l⟩:=R.own j b ds' h;exact⟨by rw[qg n];exact q,ys,g _ _ h,l.mono (g2.trans g1)⟩
 .rcases getElem?_set_of h with ⟨rfl,z,hl⟩|⟨n,h⟩
  .cases z
  .obtain⟨q,h⟩:=R.raw j b o x h;exact⟨by rw[qg n];exact q,h.mono (g2.trans g1)⟩
def Rep.upd_own(R:Rep K ρ σ H)(h:ρ[i]?=a8 (.own a ds))(l:j4 K (del H (owns ρ)) ds' xs):Rep K (ρ.set i (.own a ds')) σ (upd H a (.lst xs)):=by
 have eo:owns (ρ.set i (.own a ds'))=owns ρ:=Z3 h;have ed:del (upd H a (.lst xs)) (owns ρ)=del H (owns ρ):=Zg (Jp h);refine⟨by simp[R.len],λj d' q=>?_,λj b l' q=>?_,by rw[eo];exact R.nd,λj b o x q=>?_,let ⟨_,_,z,_⟩:=R.own i a ds h;R.tb.upd z λ_ y=>by cases y⟩
 .rw[eo,ed];rcases getElem?_set_of q with ⟨_,z,_⟩|⟨n,q⟩
  .cases z
  .exact R.val j d' q
 .rw[eo,ed];rcases getElem?_set_of q with ⟨rfl,z,_⟩|⟨n,q'⟩
  .cases z;exact⟨(R.own i a ds h).1,xs,jb,l⟩
  .obtain⟨z,ys,y,l''⟩:=R.own j b l' q';refine⟨z,ys,?_,l''⟩;have nb:b≠a:=λe=>n (Yg R.nd h (e▸q'));rw[jd nb];exact y
 .rw[eo,ed];rcases getElem?_set_of q with ⟨_,z,_⟩|⟨n,q⟩
  .cases z
  .exact R.raw j b o x q
def Rep.freeze(R:Rep K ρ σ H)(h:ρ[i]?=a8 (.own a ds)):Rep K (ρ.set i (.val (.lst ds))) σ H:=by
 obtain⟨hs,xs,hx,l⟩:=R.own i a ds h;have sub:(owns (ρ.set i (.val (.lst ds)))).Sublist (owns ρ):=jg rfl;have g:j0 (del H (owns ρ)) (del H (owns (ρ.set i (.val (.lst ds))))):=J7 λb hb=>sub.subset hb;have na:a∉owns (ρ.set i (.val (.lst ds))):=λz=>by
  obtain⟨j,l',q⟩:=Vb z;rcases getElem?_set_of q with ⟨_,z,_⟩|⟨n,q⟩
  .cases z
  .exact n (Yg R.nd h q)
 refine⟨by simp[R.len],λj d' q=>?_,λj b l' q=>?_,sub.nodup R.nd,λj b o x q=>?_,R.tb⟩
 .rcases getElem?_set_of q with ⟨rfl,z,_⟩|⟨n,q⟩
  .cases z;exact⟨_,hs,a,xs,rfl,.inl (.inl (by rw[j7 na];exact hx)),l.mono g⟩
  .obtain⟨u,q,h⟩:=R.val j d' q;exact⟨u,q,h.mono g⟩
 .rcases getElem?_set_of q with ⟨rfl,z,_⟩|⟨n,q⟩
  .cases z
  .obtain⟨q,ys,h,l⟩:=R.own j b l' q;exact⟨q,ys,h,l.mono g⟩
 .rcases getElem?_set_of q with ⟨_,z,_⟩|⟨n,q⟩
  .cases z
  .obtain⟨q,h⟩:=R.raw j b o x q;exact⟨q,h.mono g⟩
end
def DE(X:Cx)(ρ:Rho)(e:au)(d:D):Prop:=∀σ H Q,Rep X.K ρ σ H->(∀v H',j0 H H'->Enc X.K (del H' (owns ρ)) d v->Q v H')->Jo X e σ H Q
def DT(X:Cx)(ρ:Rho)(e:au)(d:D):Prop:=∀σ H Q,Rep X.K ρ σ H->(∀v H',j0 H H'->Enc X.K H' d v->Q v H')->Jo X e σ H Q
def DO(X:Cx)(ρ:Rho)(e:au)(ds:List D):Prop:=∀σ H Q,Rep X.K ρ σ H->(∀a xs H',j0 H H'->H a=af->H' a=a8 (.lst xs)->j4 X.K (del H' (a::owns ρ)) ds xs->Q (.ref a) H')->Jo X e σ H Q
def DL(X:Cx)(ρ:Rho)(e:au)(ds:List D):Prop:=∀σ H Q,Rep X.K ρ σ H->(∀a xs H',j0 H H'->H' a=a8 (.lst xs)->j4 X.K (del H' (owns ρ)) ds xs->Q (.ref a) H')->Jo X e σ H Q
def DB(X:Cx)(ρ:Rho)(e:au)(b:Bool):Prop:=∀σ H Q,Rep X.K ρ σ H->(∀H',j0 H H'->Q b H')->Fd X e σ H Q
def DA(X:Cx)(ρ:Rho)(es:List au)(ds:List D):Prop:=∀σ H Q,Rep X.K ρ σ H->(∀vs H',j0 H H'->j4 X.K (del H' (owns ρ)) ds vs->Q vs H')->Ua X es σ H Q
def DTA(X:Cx)(ρ:Rho)(es:List au)(ds:List D):Prop:=∀σ H Q,Rep X.K ρ σ H->(∀vs H',j0 H H'->j4 X.K H' ds vs->Q vs H')->Ua X es σ H Q
def j6n(X:Cx)(e:au):TT:=λσ H Q=>∀whole pins s,Inv X pins σ H s->av (aC X.prog X.w) X.A (i4 e X.env whole) (TP X pins σ Q) X.xe s
def pwS{X:Cx}{e:au}:PW X e (j6n X e):=λwhole pins s _ _ _ I h=>h whole pins s I
def PW.to{X:Cx}{e:au}{t:TT}{σ:St}{H:Hp}(h:PW X e t){Q:Bool->Hp->Prop}(q:t σ H Q):j6n X e σ H Q:=λwhole pins s I=>h whole pins s σ H Q I q
def DW(X:Cx)(ρ:Rho)(e:au)(b:Bool):Prop:=∀σ H Q,Rep X.K ρ σ H->(∀H',j0 H H'->Q b H')->j6n X e σ H Q
mutual
noncomputable def Zk:D->Bool
 |.lst _=>aa
 |.dct _ _=>aa
 |.sct _=>aa
 |.fn _ _=>aa
 |.tup ds=>za ds
 |_=>ae
noncomputable def za:List D->Bool
 |[]=>ae
 |d::ds=>Zk d&&za ds
end
mutual
theorem Enc.hide{K:k8v}{H:Hp}{A:List ai}(hA:∀a∈A,Hd (H a)):∀{d:D}{v:V},Zk d=ae->Enc K H d v->Enc K (del H A) d v
 |.non,_,_,h=>h
 |.bl _,_,_,h=>h
 |.int _,_,_,h=>h
 |.str _,_,_,h=>h
 |.lst _,_,n,_=>by cases n
 |.dct _ _,_,n,_=>by cases n
 |.sct _,_,n,_=>by cases n
 |.fn _ _,_,n,_=>by cases n
 |.tup ds,_,n,⟨a,xs,e,q,l⟩=>by
  refine⟨a,xs,e,?_,j4.hide hA (by simpa [Zk]using n) l⟩;have out:∀{o:HO},H a=a8 o->(∀ys,o≠.lst ys)->(∀ys ep,o≠.dI ys ep)->del H A a=a8 o:=λ{o} h z z2=>by
   rw[j7];exact h;intro y;rcases hA a y with ⟨ys,e'⟩|⟨ys,ep,e'⟩
   .rw[h]at e';cases e';exact z ys rfl
   .rw[h]at e';cases e';exact z2 ys ep rfl
  rcases q with (q|⟨o,q⟩)|q
  .exact .inl (.inl (out q (λ_ z=>by cases z) λ_ _ z=>by cases z))
  .exact .inl (.inr ⟨o,out q (λ_ z=>by cases z) λ_ _ z=>by cases z⟩)
  .exact .inr q
theorem j4.hide{K:k8v}{H:Hp}{A:List ai}(hA:∀a∈A,Hd (H a)):∀{ds:List D}{xs:List V},za ds=ae->j4 K H ds xs->j4 K (del H A) ds xs
 |[],_,_,h=>h
 |d::ds,_,n,⟨x,r,e,h,l⟩=>by
  have n':Zk d=ae/\za ds=ae:=by simpa [za]using n
  exact⟨x,r,e,Enc.hide hA n'.1 h,j4.hide hA n'.2 l⟩
end
section
variable{X:Cx}{ρ:Rho}{e a b c:au}{es:List au}{d da db:D}{ds ds':List D}{i j:Int}{pos:aO}{k:Nat}{x:ar}
def DE.toT(h:DE X ρ e d):DT X ρ e d:=λσ H Q R q=>h σ H Q R λv H' g l=>q v H' g (l.mono je)
def DT.toE(h:DT X ρ e d)(n:Zk d=ae:=by rfl):DE X ρ e d:=λσ H Q R q=>h σ H Q R λv H' g l=>q v H' g (l.hide (λa ha=>.inl ((R.grow g).owned a ha)) n)
def DO.toL(h:DO X ρ e ds):DL X ρ e ds:=λσ H Q R q=>h σ H Q R λa xs H' g n m l=>q a xs H' g m (l.mono (J7 λb hb=>xm _ hb))
def DO.toE(h:DO X ρ e ds):DE X ρ e (.lst ds):=λσ H Q R q=>h σ H Q R λa xs H' g n m l =>q _ H' g ⟨a,xs,rfl,.inl (.inl (by rw[j7 (R.fresh n)];exact m)),l.mono (J7 λb hb=>xm _ hb)⟩
def DL.toT(h:DL X ρ e ds):DT X ρ e (.lst ds):=λσ H Q R q=>h σ H Q R λa xs H' g m l=>q _ H' g ⟨a,xs,rfl,.inl (.inl m),l.mono je⟩
def DW.toB{k:Bool}(h:DW X ρ e k):DB X ρ e k:=λσ H Q R q pins s I=>h σ H Q R q _ pins s I
def DE.eq(h:DE X ρ e d){d':D}(q:d=d'):DE X ρ e d':=q▸h
def DB.eq{b b':Bool}(h:DB X ρ e b)(q:b=b'):DB X ρ e b':=q▸h
end
section
variable{X:Cx}{ρ:Rho}{e a b c:au}{es:List au}{d da db:D}{ds ds':List D}{i j:Int}{pos p:aO}{k:Nat}{x:ar}
def DE.var(k:Nat)(h:ρ[k]?=a8 (.val d))(hN:X.N[k]?=a8 x:=by rfl)(hv:Vis X.env.scope x:=by first|exact aV rfl|exact cA (aV rfl)|exact cA (cA rfl))
  (hd:(x==k8z)=aa:=by decide) (hcd:(x==k90)=aa:=by decide):DE X ρ (.Name x pos) d:=λσ H Q R q=>by
 obtain⟨v,hs,en⟩:=R.val k d h;exact(v4 hN hv hd hcd).to ⟨v,hs,q v H (j0.refl H) en⟩
def DL.var(k:Nat){l:ai}(h:ρ[k]?=a8 (.own l ds))(hN:X.N[k]?=a8 x:=by rfl)(hv:Vis X.env.scope x:=by first|exact aV rfl|exact cA (aV rfl)|exact cA (cA rfl))
  (hd:(x==k8z)=aa:=by decide) (hcd:(x==k90)=aa:=by decide):DL X ρ (.Name x pos) ds:=λσ H Q R q=>by
 obtain⟨hs,xs,m,en⟩:=R.own k l ds h;exact(v4 hN hv hd hcd).to ⟨_,hs,q l xs H (j0.refl H) m en⟩
def DE.glob {u:aj} {v:V} (hg:Gl X x) (hm:X.mg x=a8 u) (r:RelV v u) (h:∀H,Enc X.K H d v) (hd:(x==k8z)=aa:=by decide):DE X ρ (.Name x pos) d :=
 λσ H Q R q=>(jb9 hg hm r hd).to (q v H (j0.refl H) (h _))
theorem DE.int{i:Int}{n:Nat}{pos:aO}:DE X ρ (.Constant (.int i) n pos) (.int i):=λσ H Q R q=>Bo.to (q _ H (j0.refl H) rfl)
theorem DE.bl{b:Bool}{n:Nat}:DE X ρ (.Constant (.bool b) n pos) (.bl b):=λσ H Q R q=>j2u.to (q _ H (j0.refl H) rfl)
theorem DE.str{y:ar}{n:Nat}:DE X ρ (.Constant (.str y) n pos) (.str y):=λσ H Q R q=>j4g.to (q _ H (j0.refl H) rfl)
def DE.arI0{op:kJ}{g:Int->Int->Int}(ho:OpR X (bB op) (rI0 λi j=>.int (g i j)))(ha:DT X ρ a (.int i))(hb:DT X ρ b (.int j)):DE X ρ (.BinOp a op b pos) (.int (g i j)):=λσ H Q R q =>(Yx ho peS peS).to (ha σ H _ R λv H1 g1 e1=>hb σ H1 _ (R.grow g1) λu H2 g2 e2=>⟨i,j,e1,e2,q _ H2 (g1.trans g2) rfl⟩)
def DE.arI{op:kJ}{C:Int->Int->Prop}{g:Int->Int->Int}(ho:OpR X (bB op) (rI C λi j=>.int (g i j)))(ha:DT X ρ a (.int i))(hb:DT X ρ b (.int j))(hC:C i j):DE X ρ (.BinOp a op b pos) (.int (g i j)):=λσ H Q R q =>(Yx ho peS peS).to (ha σ H _ R λv H1 g1 e1=>hb σ H1 _ (R.grow g1) λu H2 g2 e2=>⟨i,j,e1,e2,hC,q _ H2 (g1.trans g2) rfl⟩)
def DE.add(ha:DT X ρ a (.int i))(hb:DT X ρ b (.int j)):DE X ρ (.BinOp a .Add b pos) (.int (i+j)):=DE.arI0 jet ha hb
def DE.sub(ha:DT X ρ a (.int i))(hb:DT X ρ b (.int j)):DE X ρ (.BinOp a .Sub b pos) (.int (i-j)):=DE.arI0 jel ha hb
def DE.mul(ha:DT X ρ a (.int i))(hb:DT X ρ b (.int j))(h:j3s i j):DE X ρ (.BinOp a .Mult b pos) (.int (i*j)):=DE.arI jeq ha hb h
def DE.mod(ha:DT X ρ a (.int i))(hb:DT X ρ b (.int j))(h:0<j):DE X ρ (.BinOp a .Mod b pos) (.int (i%j)):=DE.arI jer ha hb h
def DE.pow(ha:DT X ρ a (.int i))(hb:DT X ρ b (.int j))(h:j3r i j):DE X ρ (.BinOp a .Pow b pos) (.int (i^j.toNat)):=DE.arI jep ha hb h
def DE.shl(ha:DT X ρ a (.int i))(hb:DT X ρ b (.int j))(h:j3r i j):DE X ρ (.BinOp a .LShift b pos) (.int (i*2^j.toNat)):=DE.arI (g:=λi j=>i*2^j.toNat) jen ha hb h
def DE.neg(ha:DT X ρ a (.int i)):DE X ρ (.UnaryOp .USub a pos) (.int (-i)):=λσ H Q R q =>(jie jdf peS).to (ha σ H _ R λv H1 g1 e1=>⟨i,e1,q _ H1 g1 rfl⟩)
def DE.cmpI{op:iI}{g:Int->Int->Bool}(ho:OpR X (aX op) (rI0 λi j=>.bl (g i j)))(hm:aG op b=aa)(ha:DT X ρ a (.int i))(hb:DT X ρ b (.int j)):DE X ρ (.Compare a [op] [b] pos) (.bl (g i j)):=λσ H Q R q =>(Jf ho peS peS hm).to (ha σ H _ R λv H1 g1 e1=>hb σ H1 _ (R.grow g1) λu H2 g2 e2=>⟨i,j,e1,e2,q _ H2 (g1.trans g2) rfl⟩)
def DB.cmpI{op:iI}{g:Int->Int->Bool}(ho:OpR X (aX op) (rI0 λi j=>.bl (g i j)))(hm:aG op b=aa)(ha:DT X ρ a (.int i))(hb:DT X ρ b (.int j)):DB X ρ (.Compare a [op] [b] pos) (g i j):=λσ H Q R q =>(Je ho peS peS hm).to (ha σ H _ R λv H1 g1 e1=>hb σ H1 _ (R.grow g1) λu H2 g2 e2=>⟨i,j,e1,e2,_,rfl,q H2 (g1.trans g2)⟩)
def DB.lt(ha:DT X ρ a (.int i))(hb:DT X ρ b (.int j)):DB X ρ (.Compare a [.Lt] [b] pos) (decide (i<j)):=DB.cmpI j9e (zg _) ha hb
def DB.le(ha:DT X ρ a (.int i))(hb:DT X ρ b (.int j)):DB X ρ (.Compare a [.LtE] [b] pos) (decide (i<=j)):=DB.cmpI j9f (zg _) ha hb
def DB.gt(ha:DT X ρ a (.int i))(hb:DT X ρ b (.int j)):DB X ρ (.Compare a [.Gt] [b] pos) (decide (j<i)):=DB.cmpI j9g (zg _) ha hb
def DB.ge(ha:DT X ρ a (.int i))(hb:DT X ρ b (.int j)):DB X ρ (.Compare a [.GtE] [b] pos) (decide (j<=i)):=DB.cmpI j9h (zg _) ha hb
def DE.lt(ha:DT X ρ a (.int i))(hb:DT X ρ b (.int j)):DE X ρ (.Compare a [.Lt] [b] pos) (.bl (decide (i<j))):=DE.cmpI j9e (zg _) ha hb
def DE.le(ha:DT X ρ a (.int i))(hb:DT X ρ b (.int j)):DE X ρ (.Compare a [.LtE] [b] pos) (.bl (decide (i<=j))):=DE.cmpI j9f (zg _) ha hb
def DE.gt(ha:DT X ρ a (.int i))(hb:DT X ρ b (.int j)):DE X ρ (.Compare a [.Gt] [b] pos) (.bl (decide (j<i))):=DE.cmpI j9g (zg _) ha hb
def DE.ge(ha:DT X ρ a (.int i))(hb:DT X ρ b (.int j)):DE X ρ (.Compare a [.GtE] [b] pos) (.bl (decide (j<=i))):=DE.cmpI j9h (zg _) ha hb
noncomputable def D.sc:D->Option V
 |.non=>a8 .non
 |.bl b=>a8 (.bl b)
 |.int i=>a8 (.int i)
 |.str x=>a8 (.str x)
 |_=>af
def D.sc_enc{K:k8v}{H:Hp}{d:D}{u v:V}(h:d.sc=a8 u)(q:Enc K H d v):v=u:=by cases d<;>simp[D.sc]at h<;>subst h<;>exact q
def DE.eqS{u v:V}(ha:DT X ρ a da)(hb:DT X ρ b db)(h1:da.sc=a8 u:=by rfl)(h2:db.sc=a8 v:=by rfl)(h:Fg u v=ae:=by rfl):DE X ρ (.Compare a [.Eq] [b] pos) (.bl (decide (u=v))):=λσ H Q R q =>
 (Jf j9i peS peS (zg _)).to (ha σ H _ R λx H1 g1 e1=>hb σ H1 _ (R.grow g1) λy H2 g2 e2=>by
  cases D.sc_enc h1 e1;cases D.sc_enc h2 e2;exact⟨h,q _ H2 (g1.trans g2) rfl⟩)
def DE.neS{u v:V}(ha:DT X ρ a da)(hb:DT X ρ b db)(h1:da.sc=a8 u:=by rfl)(h2:db.sc=a8 v:=by rfl)(h:Fg u v=ae:=by rfl):DE X ρ (.Compare a [.NotEq] [b] pos) (.bl (!decide (u=v))):=λσ H Q R q =>
 (Jf j9d peS peS (zg _)).to (ha σ H _ R λx H1 g1 e1=>hb σ H1 _ (R.grow g1) λy H2 g2 e2=>by
  cases D.sc_enc h1 e1;cases D.sc_enc h2 e2;exact⟨h,q _ H2 (g1.trans g2) rfl⟩)
def DB.eqS{u v:V}(ha:DT X ρ a da)(hb:DT X ρ b db)(h1:da.sc=a8 u:=by rfl)(h2:db.sc=a8 v:=by rfl)(h:Fg u v=ae:=by rfl):DB X ρ (.Compare a [.Eq] [b] pos) (decide (u=v)):=λσ H Q R q =>
 (Je j9i peS peS (zg _)).to (ha σ H _ R λx H1 g1 e1=>hb σ H1 _ (R.grow g1) λy H2 g2 e2=>by
  cases D.sc_enc h1 e1;cases D.sc_enc h2 e2;exact⟨h,_,rfl,q H2 (g1.trans g2)⟩)
def DB.neS{u v:V}(ha:DT X ρ a da)(hb:DT X ρ b db)(h1:da.sc=a8 u:=by rfl)(h2:db.sc=a8 v:=by rfl)(h:Fg u v=ae:=by rfl):DB X ρ (.Compare a [.NotEq] [b] pos) (!decide (u=v)):=λσ H Q R q =>
 (Je j9d peS peS (zg _)).to (ha σ H _ R λx H1 g1 e1=>hb σ H1 _ (R.grow g1) λy H2 g2 e2=>by
  cases D.sc_enc h1 e1;cases D.sc_enc h2 e2;exact⟨h,_,rfl,q H2 (g1.trans g2)⟩)
def Wf(i j:Int):decide (V.int i=V.int j)=decide (i=j):=by
 by_cases h:i=j
 .subst h;simp
 .rw[decide_eq_false h,decide_eq_false (λz=>h (V.int.inj z))]
def j1y(i j:Bool):decide (V.bl i=V.bl j)=(i==j):=by cases i<;>cases j<;>rfl
def j0a(i j:ar):decide (V.str i=V.str j)=decide (i=j):=by
 by_cases h:i=j
 .subst h;simp
 .rw[decide_eq_false h,decide_eq_false (λz=>h (V.str.inj z))]
def DE.eqI(ha:DT X ρ a (.int i))(hb:DT X ρ b (.int j)):DE X ρ (.Compare a [.Eq] [b] pos) (.bl (decide (i=j))):=(DE.eqS ha hb).eq (by rw[Wf])
def DE.neI(ha:DT X ρ a (.int i))(hb:DT X ρ b (.int j)):DE X ρ (.Compare a [.NotEq] [b] pos) (.bl (!decide (i=j))):=(DE.neS ha hb).eq (by rw[Wf])
def DB.eqI(ha:DT X ρ a (.int i))(hb:DT X ρ b (.int j)):DB X ρ (.Compare a [.Eq] [b] pos) (decide (i=j)):=(DB.eqS ha hb).eq (by rw[Wf])
def DB.neI(ha:DT X ρ a (.int i))(hb:DT X ρ b (.int j)):DB X ρ (.Compare a [.NotEq] [b] pos) (!decide (i=j)):=(DB.neS ha hb).eq (by rw[Wf])
def DE.neB{x y:Bool}(ha:DT X ρ a (.bl x))(hb:DT X ρ b (.bl y)):DE X ρ (.Compare a [.NotEq] [b] pos) (.bl (x != y)):=(DE.neS ha hb).eq (by rw[j1y];rfl)
def DB.neB{x y:Bool}(ha:DT X ρ a (.bl x))(hb:DT X ρ b (.bl y)):DB X ρ (.Compare a [.NotEq] [b] pos) (x != y):=(DB.neS ha hb).eq (by rw[j1y];rfl)
noncomputable def D.isNon:D->Bool
 |.non=>ae
 |_=>aa
def Cr{K:k8v}{H:Hp}{d:D}{v:V}(q:Enc K H d v):decide (v=V.non)=d.isNon:=by
 cases d with
 |non=>cases(show v=.non from q);rfl
 |bl b=>cases(show v=.bl b from q);rfl
 |int b=>cases(show v=.int b from q);rfl
 |str b=>cases(show v=.str b from q);rfl
 |tup l=>obtain⟨a,xs,e,_⟩:=q;subst e;rfl
 |lst l=>obtain⟨a,xs,e,_⟩:=q;subst e;rfl
 |dct ks l=>obtain⟨a,xs,ep,vs,e,_⟩:=q;subst e;rfl
 |sct k=>obtain⟨a,e,_⟩:=q;subst e;rfl
 |fn x l=>obtain⟨a,c,tx,cl,vs,e,_⟩:=q;subst e;rfl
def DE.isN{n:Nat}{p2:aO}(ha:DT X ρ a d):DE X ρ (.Compare a [.Is] [.Constant .none n p2] pos) (.bl d.isNon):=λσ H Q R q =>(jeg (j4j peS)).to (ha σ H _ R λx H1 g1 e1=>q _ H1 g1 (by rw[Cr e1];rfl))
def DB.isN{n:Nat}{p2:aO}(ha:DT X ρ a d):DB X ρ (.Compare a [.Is] [.Constant .none n p2] pos) d.isNon:=λσ H Q R q =>(je9 (j4j peS)).to (ha σ H _ R λx H1 g1 e1=>⟨_,rfl,by rw[Cr e1];exact q H1 g1⟩)
def DB.val{k:Bool}(ha:DT X ρ a (.bl k))(he:∀whole,i4 a X.env whole=(do let v <-whole;eS a.pos;gw [v] (truthy v)):=by intro _;rfl):DB X ρ a k:=λσ H Q R q =>(je7 peS he).to (ha σ H _ R λx H1 g1 e1=>⟨_,e1,q H1 g1⟩)
def DW.and1{k:Bool}(ha:DB X ρ a k):DW X ρ (.BoolOp .And [a] pos) k:=λσ H Q R q=>(jb3 ptS).to (ha σ H Q R q)
def DW.or1{k:Bool}(ha:DB X ρ a k):DW X ρ (.BoolOp .Or [a] pos) k:=λσ H Q R q=>(je5 ptS).to (ha σ H Q R q)
def DW.and{k m:Bool}{rest:List au}(ha:DB X ρ a k)(hb:k=ae->DW X ρ (.BoolOp .And (b::rest) pos) m):DW X ρ (.BoolOp .And (a::b::rest) pos) (k&&m):=λσ H Q R q =>
 (je6 ptS pwS).to (ha σ H _ R λH1 g1=>by
  cases k with
  |false=>exact Uc (q H1 g1)
  |true=>exact W7 (hb rfl σ H1 Q (R.grow g1) λH2 g2=>q H2 (g1.trans g2)))
def DW.or{k m:Bool}{rest:List au}(ha:DB X ρ a k)(hb:k=aa->DW X ρ (.BoolOp .Or (b::rest) pos) m):DW X ρ (.BoolOp .Or (a::b::rest) pos) (k || m):=λσ H Q R q =>
 (jic ptS pwS).to (ha σ H _ R λH1 g1=>by
  cases k with
  |true=>exact W7 (q H1 g1)
  |false=>exact Uc (hb rfl σ H1 Q (R.grow g1) λH2 g2=>q H2 (g1.trans g2)))
def DB.not{k:Bool}(ha:DB X ρ a k):DB X ρ (.UnaryOp .Not a pos) (!k):=λσ H Q R q=>(je8 ptS).to (ha σ H _ R λH1 g1=>q H1 g1)
def DE.and{k m:Bool}{rest:List au}(ha:DT X ρ a (.bl k))(hb:k=ae->DE X ρ (.BoolOp .And (b::rest) pos) (.bl m)):DE X ρ (.BoolOp .And (a::b::rest) pos) (.bl (k&&m)):=λσ H Q R q =>
 (jei peS peS).to (ha σ H _ R λx H1 g1 e1=>⟨k,e1,by
  cases k with
  |false=>exact Uc (q _ H1 g1 rfl)
  |true=>exact W7 (hb rfl σ H1 Q (R.grow g1) λv H2 g2=>q v H2 (g1.trans g2))⟩)
def DE.or{k m:Bool}{rest:List au}(ha:DT X ρ a (.bl k))(hb:k=aa->DE X ρ (.BoolOp .Or (b::rest) pos) (.bl m)):DE X ρ (.BoolOp .Or (a::b::rest) pos) (.bl (k || m)):=λσ H Q R q =>
 (jif peS peS).to (ha σ H _ R λx H1 g1 e1=>⟨k,e1,by
  cases k with
  |true=>exact W7 (q _ H1 g1 rfl)
  |false=>exact Uc (hb rfl σ H1 Q (R.grow g1) λv H2 g2=>q v H2 (g1.trans g2))⟩)
def DE.ite{k:Bool}{d':D}(hc:DB X ρ c k)(ha:k=ae->DE X ρ a d)(hb:k=aa->DE X ρ b d'):DE X ρ (.IfExp c a b pos) (if k=ae then d else d'):=λσ H Q R q =>
 (Eb ptS peS peS).to (hc σ H _ R λH1 g1=>by
  cases k with
  |true=>exact W7 (ha rfl σ H1 Q (R.grow g1) λv H2 g2 z=>q v H2 (g1.trans g2) (by rw[if_pos rfl];exact z))
  |false=>exact Uc (hb rfl σ H1 Q (R.grow g1) λv H2 g2 z=>q v H2 (g1.trans g2) (by rw[if_neg xj];exact z)))
def DA.nil:DA X ρ [] []:=λσ H Q R q=>jn.to (q [] H (j0.refl H) rfl)
def DA.cons(ha:DE X ρ a d)(hr:DA X ρ es ds)(hs:ah (a::es) X.env=(aa,aD a X.env)::ah es X.env:=by rfl):DA X ρ (a::es) (d::ds):=λσ H Q R q =>(jc peS paS hs).to (ha σ H _ R λv H1 g1 e1=>hr σ H1 _ (R.grow g1) λvs H2 g2 e2=>q _ H2 (g1.trans g2) ⟨v,vs,rfl,e1.mono (jf g2),e2⟩)
def DTA.nil:DTA X ρ [] []:=λσ H Q R q=>jn.to (q [] H (j0.refl H) rfl)
def DTA.cons(ha:DT X ρ a d)(hr:DTA X ρ es ds)(hs:ah (a::es) X.env=(aa,aD a X.env)::ah es X.env:=by rfl):DTA X ρ (a::es) (d::ds):=λσ H Q R q =>(jc peS paS hs).to (ha σ H _ R λv H1 g1 e1=>hr σ H1 _ (R.grow g1) λvs H2 g2 e2=>q _ H2 (g1.trans g2) ⟨v,vs,rfl,e1.mono g2,e2⟩)
theorem DE.tup{n:Nat}{x1}(h:DA X ρ es ds)(hl:ds.length<=aw:=by simp only[X7,Pb];decide):DE X ρ (.Tuple es x1 pos) (.tup ds):=λσ H Q R q =>(Ea paS).to (h σ H _ R λvs H1 g1 e1=>⟨by rw[e1.length];exact hl,λp hp=>q _ _ (g1.trans (j6 hp)) ⟨p,vs,rfl,.inl (.inl (by rw[j7 ((R.grow g1).fresh hp)];exact jb)),e1.mono (jf (j6 hp))⟩⟩)
def DO.lst(h:DA X ρ es ds)(hl:ds.length<=aw:=by simp only[X7,Pb];decide):DO X ρ (.List es pos) ds:=λσ H Q R q =>
 (jef paS).to (h σ H _ R λvs H1 g1 e1=>⟨by rw[e1.length];exact hl,λp hp=>q p vs _ (g1.trans (j6 hp)) (g1.free hp) jb (e1.mono λb o z=>by
  obtain⟨n,z⟩:=of_del z
  rw[j7];exact j6 hp b o z
  intro y
  rcases xq.mp y with y|y
  .subst y;rw[hp]at z;cases z
  .exact n y)⟩)
theorem j4.atI{K:k8v}{H:Hp}{xs:List V}(h:j4 K H ds xs)(q:atI ds i=a8 d):∃x,L2.atI xs i=a8 x/\Enc K H d x:=by
 unfold L2.atI at q ⊢;rw[h.length];cases z:ixN ds.length i with
 |none=>rw[z]at q;cases q
 |some k =>rw[z]at q;exact h.get q
noncomputable def cutD(ds:List D)(lo hi:Option Int):List D:=(ds.drop (HT.sIx ds.length 0 lo)).take (HT.sIx ds.length ds.length hi-HT.sIx ds.length 0 lo)
def j4.cut{K:k8v}{H:Hp}{xs:List V}(h:j4 K H ds xs)(lo hi:Option Int):j4 K H (cutD ds lo hi) (Rw xs lo hi):=by unfold cutD Rw;rw[h.length];exact(h.drop _).take _
def We{K:k8v}{H1:Hp}{A:List ai}{ds:List D}{xs:List V}{p:ai}{o:HO}(hp:H1 p=af)(e1:j4 K (del H1 A) ds xs):j4 K (del (upd H1 p o) (p::A)) ds xs:=e1.mono λb o z=>by
 obtain⟨n,z⟩:=of_del z;rw[j7];exact j6 hp b o z;intro y;rcases xq.mp y with y|y
 .subst y;rw[hp]at z;cases z
 .exact n y
theorem DO.rep(ha:DL X ρ a ds)(hb:DT X ρ b (.int i))(h1:-(2^63)<=i)(h2:i<2^63)(hl:ds.length*i.toNat<=aw):DO X ρ (.BinOp a .Mult b pos) (ay i.toNat ds).flatten:=λσ H Q R q =>
 (Yx jeo peS peS).to (ha σ H _ R λl xs H1 g1 m1 e1=>hb σ H1 _ (R.grow g1) λu H2 g2 e2 =>
  ⟨l,i,xs,rfl,e2,g2 _ _ m1,h1,h2,by rw[e1.length];exact hl,λp hp=>q p _ _ ((g1.trans g2).trans (j6 hp)) ((g1.trans g2).free hp) jb (We hp ((e1.mono (jf g2)).rep _))⟩)
def DE.lenT (ha:DT X ρ a (.tup ds)) (hm:X.mg "len" = af) (hg:Gl X "len":=by rfl) (hs:ah [a] X.env=[(aa,aD a X.env)]:=by rfl) {p2:aO}:DE X ρ (.Call (.Name "len" p2) [a] [] pos) (.int ds.length):=λσ H Q R q =>(v5 Ry hg hm d4 (jc peS jn hs) (by decide) (by decide) hs).to (ha σ H _ R λv H1 g1 ⟨l,xs,e,sq,en⟩=>⟨l,xs,by rw[e],.inr sq,q _ H1 g1 (by rw[en.length];rfl)⟩)
def DE.lenL (ha:DT X ρ a (.lst ds)) (hm:X.mg "len" = af) (hg:Gl X "len":=by rfl) (hs:ah [a] X.env=[(aa,aD a X.env)]:=by rfl) {p2:aO}:DE X ρ (.Call (.Name "len" p2) [a] [] pos) (.int ds.length):=λσ H Q R q =>(v5 Ry hg hm d4 (jc peS jn hs) (by decide) (by decide) hs).to (ha σ H _ R λv H1 g1 ⟨l,xs,e,sq,en⟩=>⟨l,xs,by rw[e],.inl sq,q _ H1 g1 (by rw[en.length];rfl)⟩)
end
def framed(sp:Sp):Sp:=λvs H Q E=>∃A:List ai,(∀a∈A,∃xs,H a=a8 (.lst xs))/\sp vs (del H A) (λv F=>(∀a∈A,F a=af)->Q v (mrg A H F)) E
theorem FnOk.framed{P:az}{w:aE}{K:k8v}{mg:k8y}{base:aH}{k:Nat}{f:ai}{fd:aM}{ps:List ar}{sp:Sp}(F:FnOk P w K mg base CX0 k f fd ps sp) :
  FnOk P w K mg base CX0 k f fd ps (framed sp) where
 len:=λvs H Q E ⟨A,_,h⟩=>F.len vs _ _ _ h
 run:=by
  rintro A0 outer s H args us vs Q E hr e0 hb rv ⟨A,hA,h⟩;have nd:∀{b:ai},H b=af->del H A b=af:=λ{b} q=>by
   by_cases z:b∈A
   .exact qp z
   .rw[j7 z];exact q
  have out:∀{b:ai}{o:HO},H b=a8 o->(∀ys,o≠.lst ys)->del H A b=a8 o:=λ{b o} q z=>by rw[j7];exact q;intro y;obtain⟨ys,e'⟩:=hA b y;rw[q]at e';cases e';exact z ys rfl
  have e1:Env0 P w K mg base A0 outer s (del H A):=⟨e0.frames,e0.mod,λb o q=>⟨(e0.bs b o q).1,nd (e0.bs b o q).2⟩,e0.bsz,e0.funs,λb hb=>nd (e0.frf b hb),
   λa o q=>by
    obtain⟨_,q⟩:=of_del q
    exact jh.stay (e0.hok a o q) (λb u _ z=>z) (λb z=>out z λ_ y=>by cases y) (λb xs z=>out z λ_ y=>by cases y) (λb _ _ z=>out z λ_ y=>by cases y),e0.bare⟩
  refine cR (F.run A0 outer s (del H A) args us vs _ E hr e1 hb rv h) λr s' hq=>?_;cases r with
  |error e=>exact(show False from hq).elim
  |ok fl =>
   cases fl with
   |next=>exact(show False from hq).elim
   |brk=>exact(show False from hq).elim
   |cont=>exact(show False from hq).elim
   |ret u =>
    obtain⟨v,H',os,bare,un,hok',rel,q⟩:=(show CE outer P w (del H A) s _ u s' from hq)
    have kept:∀a∈A,∃o,s.heap.get? a=a8 o/\s'.heap.get? a=a8 o/\H' a=af:=λa ha=>by
     obtain⟨xs,e⟩:=hA a ha;obtain⟨_,its,n,_,z⟩:=(show jh P w H s.heap a (.lst xs)from e0.hok _ _ e)
     have nf:a∉frs outer:=λy=>by rw[e0.frf a y]at e;cases e
     exact⟨_,z,un.keep a _ z (qp ha) nf (by simp),un.free a _ z (qp ha) (by simp)⟩
    have hF:∀a∈A,H' a=af:=λa ha=>let ⟨_,_,_,z⟩:=kept a ha;z;have outF:∀{b:ai}{o:HO},H' b=a8 o->b∉A:=λ{b o} e z=>by rw[hF b z]at e;cases e
    refine⟨v,mrg A H H',os,bare,?_,λa o e=>?_,rel,q hF⟩
    .exact{
      keep:=λb o e n=>un.keep b o e (nd n)
      slot:=λb o e n=>un.slot b o e (nd n)
      free:=λb o e n hx=>by
       by_cases z:b∈A
       .rw[vz z];exact n
       .rw[ji z];exact un.free b o e (nd n) hx
      there:=un.there
      tups:=λb xs e=>by
       have z:=un.tups b xs (out e λ_ y=>by cases y)
       rw[ji (outF z)];exact z
      frzs:=λb o u e=>by
       have z:=un.frzs b o u (out e λ_ y=>by cases y)
       rw[ji (outF z)];exact z
      tbls:=λb ps e=>by
       obtain⟨more,z⟩:=un.tbls b ps (out e λ_ y=>by cases y)
       exact⟨more,by rw[ji (outF z)];exact z⟩ }
    .by_cases z:a∈A
     .rw[vz z]at e;obtain⟨xs,e'⟩:=hA a z;rw[e']at e;cases e;obtain⟨hl,its,n,r,y⟩:=(show jh P w H s.heap a (.lst xs)from e0.hok _ _ e')
      obtain⟨o',q1,q2,_⟩:=kept a z;rw[y]at q1;cases q1;exact⟨hl,its,n,r,q2⟩
     .rw[ji z]at e;refine jh.stay (hok' a o e) (λb u _ q=>q) (λb q=>?_) (λb xs q=>?_) (λb _ _ q=>?_)
      .rw[ji (outF q)];exact q
      .rw[ji (outF q)];exact q
      .rw[ji (outF q)];exact q
def spP(K:k8v)(S:List D->D->Prop):Sp:=λvs H Q _=>∃A ds d,TabOk K H/\(∀a∈A,∃xs,H a=a8 (.lst xs))/\j4 K (del H A) ds vs/\S ds d/\∀v H',j0 H H'->Enc K (del H' A) d v->Q v H'
def spF(K:k8v)(S:List D->List D->Prop):Sp:=λvs H Q _=>∃A ds l,TabOk K H/\(∀a∈A,∃xs,H a=a8 (.lst xs))/\j4 K (del H A) ds vs/\S ds l /\
 ∀a xs H',j0 H H'->H a=af->H' a=a8 (.lst xs)->j4 K (del H' (a::A)) l xs->Q (.ref a) H'
def jke(K:k8v)(S:List D->D->Prop):Sp:=λvs H Q _=>∃ds d,TabOk K H/\j4 K H ds vs/\S ds d/\∀v H',j0 H H'->Enc K H' d v->Q v H'
def jkh(K:k8v)(S:List D->List D->Prop):Sp:=λvs H Q _=>∃ds l,TabOk K H/\j4 K H ds vs/\S ds l/\∀a xs H',j0 H H'->H a=af->H' a=a8 (.lst xs)->j4 K (del H' [a]) l xs->Q (.ref a) H'
section
variable{P:az}{w:aE}{K:k8v}{mg:k8y}{base:aH}{k:Nat}{f:ai}{fd:aM}{ps:List ar}
def FnOk.toP{S:List D->D->Prop}(F:FnOk P w K mg base CX0 k f fd ps (jke K S)):FnOk P w K mg base CX0 k f fd ps (spP K S) :=
 F.framed.imp λvs H Q E ⟨A,ds,d,tb,hA,en,hS,q⟩=>⟨A,hA,ds,d,tb.del hA,en,hS,λv F g e hF=>q v _ (Od g) (by rw[V6 hF];exact e)⟩
def FnOk.toF{S:List D->List D->Prop}(F:FnOk P w K mg base CX0 k f fd ps (jkh K S)):FnOk P w K mg base CX0 k f fd ps (spF K S) :=
 F.framed.imp λvs H Q E ⟨A,ds,l,tb,hA,en,hS,q⟩=>⟨A,hA,ds,l,tb.del hA,en,hS,λa xs F g n e l' hF=>by
  have na:a∉A:=λz=>by rw[hF a z]at e;cases e
  refine q a xs _ (Od g) (by rw[j7 na]at n;exact n) (by rw[ji na];exact e) (l'.mono λb o z=>?_)
  obtain⟨n1,z⟩:=of_del z
  have nb:b∉A:=λy=>by rw[hF b y]at z;cases z
  rw[j7,ji nb];exact z
  intro y
  rcases xq.mp y with y|y
  .exact n1 (by rw[y];exact xg.mpr rfl)
  .exact nb y⟩
end
noncomputable def jgl:List ar:=["dearest_way","cost_on_whole","worst_table","worst_plan","foe_answer","whole_table","whole_plan","mean_price"]
noncomputable def kG(us ws:List aj):List aj:=match ws with
 |[w]=>us++[w]
 |_=>[]
noncomputable def kGV(vs zs:List V):List V:=match zs with
 |[z]=>vs++[z]
 |_=>[]
def Dfl(K:k8v)(x:ar)(fd:aM)(ps:List ar):Prop:=x∈jgl->Binds K fd ps [.none]/\KBinds K fd ps ["prices"] kG kGV
structure Cal(X:Cx)(x:ar)(sp:Sp):Prop where
 ex:∃(k:Nat)(f:ai)(fd:aM)(ps:List ar),FnOk X.prog X.w X.K X.mg X.base CX0 k f fd ps sp/\Room (k+1) X.A/\X.mg x=a8 (.ref f)/\W.keepIn X.K (.ref f)=ae/\Binds X.K fd ps []/\Dfl X.K x fd ps
section
variable{X:Cx}{ρ:Rho}{e a:au}{es:List au}{d:D}{ds l:List D}{pos p:aO}{x:ar}
def DE.call{S:List D->D->Prop}(c:Cal X x (spP X.K S))(ha:DA X ρ (e::es) ds)(hS:S ds d)(hg:Gl X x:=by rfl)(hdb:(x==k8z)=aa:=by decide)
  (he:ah (e::es) X.env=(aa,aD e X.env)::ah es X.env:=by rfl) (hpl:(aU pos (ah es X.env)).any (·.1)=aa:=by rfl):DE X ρ (.Call (.Name x p) (e::es) [] pos) d:=λσ H Q R q=>by
 obtain⟨k,f,fd,ps,F,hr,hm,hk,hb,_⟩:=c.ex;refine(Ur F (hr.mono (Pk _)) hg hm hk hb .nil Bq paS hdb he hpl).to (ha σ H _ R λvs H1 g1 e1=>?_);show spP X.K S (vs++[]) H1 Q E0;rw[Xy];exact⟨owns ρ,ds,d,R.tb.mono g1,(R.grow g1).owned,e1,hS,λv H2 g2 z=>q v H2 (g1.trans g2) z⟩
def DT.call{S:List D->D->Prop}(c:Cal X x (spP X.K S))(ha:DTA X ρ (e::es) ds)(hS:S ds d)(hg:Gl X x:=by rfl)(hdb:(x==k8z)=aa:=by decide)
  (he:ah (e::es) X.env=(aa,aD e X.env)::ah es X.env:=by rfl) (hpl:(aU pos (ah es X.env)).any (·.1)=aa:=by rfl):DT X ρ (.Call (.Name x p) (e::es) [] pos) d:=λσ H Q R q=>by
 obtain⟨k,f,fd,ps,F,hr,hm,hk,hb,_⟩:=c.ex;refine(Ur F (hr.mono (Pk _)) hg hm hk hb .nil Bq paS hdb he hpl).to (ha σ H _ R λvs H1 g1 e1=>?_);show spP X.K S (vs++[]) H1 Q E0;rw[Xy];exact⟨[],ds,d,R.tb.mono g1,(λa h=>nomatch h),by rw[qt];exact e1,hS,λv H2 g2 z=>q v H2 (g1.trans g2) (by rw[qt]at z;exact z)⟩
def DO.call{S:List D->List D->Prop}(c:Cal X x (spF X.K S))(ha:DA X ρ (e::es) ds)(hS:S ds l)(hg:Gl X x:=by rfl)(hdb:(x==k8z)=aa:=by decide)
  (he:ah (e::es) X.env=(aa,aD e X.env)::ah es X.env:=by rfl) (hpl:(aU pos (ah es X.env)).any (·.1)=aa:=by rfl):DO X ρ (.Call (.Name x p) (e::es) [] pos) l:=λσ H Q R q=>by
 obtain⟨k,f,fd,ps,F,hr,hm,hk,hb,_⟩:=c.ex;refine(Ur F (hr.mono (Pk _)) hg hm hk hb .nil Bq paS hdb he hpl).to (ha σ H _ R λvs H1 g1 e1=>?_);show spF X.K S (vs++[]) H1 Q E0;rw[Xy];exact⟨owns ρ,ds,l,R.tb.mono g1,(R.grow g1).owned,e1,hS,λa xs H2 g2 n m z=>q a xs H2 (g1.trans g2) (g1.free n) m z⟩
end
inductive Rt where
 |val (d:D)
 |fresh (ds:List D)
noncomputable def Rt.d:Rt->D
 |.val d=>d
 |.fresh l=>.lst l
structure Po where
 nx:Rho->Prop
 rt:Rt->Prop
 bk:Rho->Prop:=λ_=>False
 ct:Rho->Prop:=λ_=>False
 ex:ar->Rho->Prop:=λ_ _=>False
structure FlQ(q:aj->Prop)(N:ai->Prop)(H:Hp)(h:aH)(e:ai)(C:aj):Prop where
 new:∀b,N b->b≠e
 free:H e=af
 obj:∃(oe:dF)(vs:Array aj)(a0:aj),h.get? e=a8 oe/\oe.cls=C/\oe.data=.fields vs/\vs[0]?=a8 a0 /\
  (vs[1]?=a8 .none\/∃(T:ai)(oT:dF)(ts:Array aj)(fl:aj),vs[1]?=a8 (.ref T)/\T≠e/\h.get? T=a8 oT/\oT.data=.fields ts/\(ts[3]?=a8 fl/\q fl)/\H T=af/\∀b,N b->b≠T)
def flN(v:aj):Prop:=v=.none
def flF(env:dO)(v:aj):Prop:=v=.none\/∃L,env.frame=a8 L/\v=eZ L
abbrev Fl(N:ai->Prop)(H:Hp)(h:aH)(e:ai)(C:aj):Prop:=FlQ flN N H h e C
def FlQ.up{q q':aj->Prop}{N N':ai->Prop}{H:Hp}{h:aH}{e:ai}{C:aj}(F:FlQ q N H h e C)(hq:∀v,q v->q' v)(hN:∀b,N' b->N b):FlQ q' N' H h e C:=by refine⟨λb hb=>F.new b (hN b hb),F.free,?_⟩;obtain⟨oe,vs,a0,z1,z2,z3,z4,z5⟩:=F.obj;refine⟨oe,vs,a0,z1,z2,z3,z4,z5.imp id ?_⟩;rintro⟨T,oT,ts,fl,y1,y2,y3,y4,⟨y5,y6⟩,y7,y8⟩;exact⟨T,oT,ts,fl,y1,y2,y3,y4,⟨y5,hq _ y6⟩,y7,λb hb=>y8 b (hN b hb)⟩
def Old(X:Cx)(pins:k8x)(b:ai):Prop:=(∃o,X.s₀.heap.get? b=a8 o/\b∉X.ex)\/(∃p∈X.pn++pins,p.1=b)\/b=X.env.locals\/∃x,X.env.cells.lookup x=a8 b
def Ui(X:Cx)(σ:St)(H:Hp)(x:ar):Prop:=∀(pins:k8x) (H':Hp) (s':aq) (e:ai) (C:aj),Inv X pins σ H' s'->j0 H H'->X.mg x=a8 C->FlQ (flF X.env) (Old X pins) H' s'.heap e C->X.xe (.ref e) s'
def Ui.mono{X:Cx}{σ:St}{H H1:Hp}{x:ar}(h:Ui X σ H x)(g:j0 H H1):Ui X σ H1 x:=λpins H' s' e C I g'=>h pins H' s' e C I (g.trans g')
def Fr0(ρ ρ':Rho)(H H':Hp):Prop:=j0 (del H (owns ρ)) (del H' (owns ρ'))
def Dw(K:k8v)(ρ:Rho)(H H':Hp)(v:V):Rt->Prop
 |.val d=>j0 (del H (owns ρ)) H'/\Enc K H' d v
 |.fresh ds=>∃a xs,v=.ref a/\j0 (del H (owns ρ)) (del H' [a])/\H' a=a8 (.lst xs)/\j4 K (del H' [a]) ds xs
structure EndsOk(X:Cx)(ρ:Rho)(H:Hp)(P:Po)(E:Ends):Prop where
 nx:∀ρ' σ' H',P.nx ρ'->Rep X.K ρ' σ' H'->Fr0 ρ ρ' H H'->E.nx σ' H'
 bk:∀ρ' σ' H',P.bk ρ'->Rep X.K ρ' σ' H'->Fr0 ρ ρ' H H'->E.bk σ' H'
 ct:∀ρ' σ' H',P.ct ρ'->Rep X.K ρ' σ' H'->Fr0 ρ ρ' H H'->E.ct σ' H'
 rt:∀r v H',P.rt r->Dw X.K ρ H H' v r->E.rt v H'
 ex:∀x ρ' σ' H',P.ex x ρ'->Rep X.K ρ' σ' H'->Fr0 ρ ρ' H H'->Ui X σ' H' x
def Dw.step{K:k8v}{ρ ρ1:Rho}{H H1 H':Hp}{v:V}{r:Rt}(f:Fr0 ρ ρ1 H H1)(h:Dw K ρ1 H1 H' v r):Dw K ρ H H' v r:=by
 cases r with
 |val d=>exact⟨f.trans h.1,h.2⟩
 |fresh ds=>obtain⟨a,xs,e,g,m,l⟩:=h;exact⟨a,xs,e,f.trans g,m,l⟩
theorem EndsOk.step{X:Cx}{ρ ρ1:Rho}{H H1:Hp}{P:Po}{E:Ends}(h:EndsOk X ρ H P E)(f:Fr0 ρ ρ1 H H1):EndsOk X ρ1 H1 P E :=
 ⟨λρ' σ' H' n R g=>h.nx ρ' σ' H' n R (f.trans g),λρ' σ' H' n R g=>h.bk ρ' σ' H' n R (f.trans g),λρ' σ' H' n R g=>h.ct ρ' σ' H' n R (f.trans g),λr v H' n g=>h.rt r v H' n (Dw.step f g),λx ρ' σ' H' n R g=>h.ex x ρ' σ' H' n R (f.trans g)⟩
def Fr0.grow{ρ:Rho}{H H':Hp}(g:j0 H H'):Fr0 ρ ρ H H':=jf g
theorem Fr0.refl(ρ:Rho)(H:Hp):Fr0 ρ ρ H H:=j0.refl _
def Fr0.drop{ρ ρ':Rho}{H:Hp}(h:∀b∈owns ρ',b∈owns ρ):Fr0 ρ ρ' H H:=J7 h
def Fr0.new{ρ:Rho}{H H':Hp}{i:Nat}{a:ai}{ds:List D}{K:k8v}{σ:St}(R:Rep K ρ σ H)(g:j0 H H')(n:H a=af):Fr0 ρ (ρ.set i (.own a ds)) H H':=λb o q=>by
 obtain⟨nb,q⟩:=of_del q;rw[j7];exact g b o q;intro z;rcases(Jt (ds:=ds) (i:=i) R.nd (R.fresh n)).2 b z with e|z
 .subst e;rw[n]at q;cases q
 .exact nb z
def DS(X:Cx)(ρ:Rho)(st:aP)(P:Po):Prop:=∀σ H E,Rep X.K ρ σ H->EndsOk X ρ H P E->Ff X st E σ H
def DSs(X:Cx)(ρ:Rho)(sts:List aP)(P:Po):Prop:=∀σ H E,Rep X.K ρ σ H->EndsOk X ρ H P E->Jr X sts E σ H
section
variable{X:Cx}{ρ:Rho}{e a b c:au}{es:List au}{st:aP}{rest sa sb body:List aP}{P:Po}{d:D}{ds ds':List D}{pos p p1 p2 p3:aO}{x:ar}{i:Nat}
def DSs.nil(h:P.nx ρ):DSs X ρ [] P:=λσ H E R q=>Uq.to (q.nx ρ σ H h R (Fr0.refl ρ H))
def DSs.cons{N:Rho->Prop}(h1:DS X ρ st { P with nx:=N })(h2:∀ρ1,N ρ1->DSs X ρ1 rest P):DSs X ρ (st::rest) P:=λσ H E R q =>(qw psS Jc).to (h1 σ H { E with nx:=Jr X rest E } R ⟨λρ' σ' H' n R' f=>h2 ρ' n σ' H' E R' (q.step f),q.bk,q.ct,q.rt,q.ex⟩)
theorem DSs.freeze(i:Nat){l:ai}(h:ρ[i]?=a8 (.own l ds))(h2:DSs X (ρ.set i (.val (.lst ds))) body P):DSs X ρ body P:=λσ H E R q =>h2 σ H E (R.freeze h) (q.step (.drop λb hb=>(jg rfl).subset hb))
theorem DS.set(i:Nat)(he:DE X ρ e d)(h:P.nx (ρ.set i (.val d)))(hN:X.N.Nodup)(hi:X.N[i]?=a8 x:=by rfl)(hx:Loc X.env.scope x:=by first|exact aV rfl|exact cA rfl)
  (hs:aJ e (a8 (.Name x p)) pos.line X.env=pure aa:=by rfl) (hf:X.fn x=ae\/X.env.scope.names.lookup x=a8 .local:=by first|exact .inl rfl|exact .inr rfl):DS X ρ (.Assign [.Name x p] e pos) P:=λσ H E R q =>
 (Qx hN hi hx peS hs hf).to (he σ H _ R λv H1 g1 e1=>q.nx _ _ H1 h ((R.grow g1).set_val e1) (j0.trans (Fr0.grow g1) (Fr0.drop λb hb=>(jg rfl).subset hb)))
def DS.setO(i:Nat)(he:DO X ρ e ds)(h:∀l,P.nx (ρ.set i (.own l ds)))(hN:X.N.Nodup)(hi:X.N[i]?=a8 x:=by rfl)(hx:Loc X.env.scope x:=by first|exact aV rfl|exact cA rfl)
  (hs:aJ e (a8 (.Name x p)) pos.line X.env=pure aa:=by rfl) (hf:X.fn x=ae\/X.env.scope.names.lookup x=a8 .local:=by first|exact .inl rfl|exact .inr rfl):DS X ρ (.Assign [.Name x p] e pos) P:=λσ H E R q =>
 (Qx hN hi hx peS hs hf).to (he σ H _ R λl xs H1 g1 n m e1=>q.nx _ _ H1 (h l) (R.set_own g1 n m e1) (.new R g1 n))
def DS.if{k:Bool}(hc:DB X ρ c k)(ha:k=ae->DSs X ρ sa P)(hb:k=aa->DSs X ρ sb P):DS X ρ (.If c sa sb pos) P:=λσ H E R q =>
 (Kf ptS Jc Jc).to (hc σ H _ R λH1 g1=>by
  cases k with
  |true=>exact W7 (ha rfl σ H1 E (R.grow g1) (q.step (.grow g1)))
  |false=>exact Uc (hb rfl σ H1 E (R.grow g1) (q.step (.grow g1))))
def DS.ret(he:DT X ρ e d)(h:P.rt (.val d)):DS X ρ (.Return (a8 e) pos) P:=λσ H E R q =>(Zj peS).to (he σ H _ R λv H1 g1 e1=>q.rt _ v H1 h ⟨je.trans g1,e1⟩)
def DS.retO(he:DO X ρ e ds)(h:P.rt (.fresh ds)):DS X ρ (.Return (a8 e) pos) P:=λσ H E R q =>
 (Zj peS).to (he σ H _ R λl xs H1 g1 n m e1=>q.rt _ _ H1 h ⟨l,xs,rfl,(λb o z=>by
  obtain⟨nb,z⟩:=of_del z
  rw[j7];exact g1 b o z
  intro y;rw[xg.mp y,n]at z;cases z),m,e1.mono (J7 λb hb=>by rw[xg.mp hb];exact xr ..)⟩)
def DS.retV(k:Nat){l:ai}(hk:ρ[k]?=a8 (.own l ds))(h:P.rt (.fresh ds))(hN:X.N[k]?=a8 x:=by rfl)(hv:Vis X.env.scope x:=by first|exact aV rfl|exact cA (aV rfl)|exact cA (cA rfl))
  (hd:(x==k8z)=aa:=by decide) (hcd:(x==k90)=aa:=by decide):DS X ρ (.Return (a8 (.Name x p)) pos) P:=λσ H E R q=>by
 obtain⟨hs,xs,m,en⟩:=R.own k l ds hk;have g:j0 (del H (owns ρ)) (del H [l]):=J7 λb hb=>by rw[xg.mp hb];exact Jp hk
 exact(Zj (v4 hN hv hd hcd)).to ⟨_,hs,q.rt _ _ H h ⟨l,xs,rfl,g,m,en.mono g⟩⟩
def DS.expr(he:DT X ρ e d)(h:P.nx ρ)(hs:aJ e af pos.line X.env=pure aa:=by rfl):DS X ρ (.Expr e pos) P:=λσ H E R q =>(Y5 peS hs).to (he σ H _ R λv H1 g1 e1=>q.nx ρ σ H1 h (R.grow g1) (.grow g1))
def j02{σ:St}{H H':Hp}{l:ai}{o:HO}(hk:ρ[i]?=a8 (.own l ds))(g:j0 H H'):Fr0 ρ (ρ.set i (.own l ds')) H (upd H' l o):=by unfold Fr0;rw[Z3 hk,Zg (Jp hk)];exact jf g
theorem DS.append(i:Nat){l:ai}(hk:ρ[i]?=a8 (.own l ds))(he:DE X ρ e d)(hl:ds.length<aw)(h:P.nx (ρ.set i (.own l (ds++[d]))))
  (hN:X.N[i]?=a8 x:=by rfl) (hv:Vis X.env.scope x:=by first|exact aV rfl|exact cA (aV rfl)|exact cA (cA rfl)) (hd:(x==k8z)=aa:=by decide) (hcd:(x==k90)=aa:=by decide)
  (hst:ah [e] X.env=[(aa,aD e X.env)]:=by rfl) (hline:(p1.endLine==p2.line)=ae:=by rfl)
  (hbase:aR (.Name x p) "append" X.env (aD (.Name x p) X.env)=aD (.Name x p) X.env:=by rfl) (hfew:((aU p2 (ah [e] X.env)).all (λx=>!x.1)&&(cC p2 (bF [] X.env)).all (λx=>x.1.isSome)
   && decide (([e]:List au).length+([]:List bq).length+(if ([]:List bq).isEmpty then 0 else 1)<30))=ae:=by rfl)
  (hs:aJ (.Call (.Attribute (.Name x p) "append" p1) [e] [] p2) af pos.line X.env=pure aa:=by rfl) :
  DS X ρ (.Expr (.Call (.Attribute (.Name x p) "append" p1) [e] [] p2) pos) P:=λσ H E R q=>by
 obtain⟨hσ,xs,m,en⟩:=R.own i l ds hk;refine(Y5 (Bp cO iW PySem.F.type_list_append Ra (v4 hN hv hd hcd) (jc peS jn hst) hbase hfew hline hst rfl) hs).to ?_;refine⟨_,hσ,.inl ⟨rfl,xs,.inl (.inl m)⟩,he σ H _ R λv H1 g1 e1=>⟨l,xs,v,rfl,rfl,g1 _ _ m,by rw[en.length];exact hl,?_⟩⟩;exact q.nx _ σ _ h ((R.grow g1).upd_own hk ((en.mono (jf g1)).append (.one e1))) (j02 (σ:=σ) hk g1)
theorem DS.extend(i:Nat){l:ai}(hk:ρ[i]?=a8 (.own l ds))(he:DO X ρ e ds')(hl:ds.length+ds'.length<=aw)(h:P.nx (ρ.set i (.own l (ds++ds'))))
  (hN:X.N[i]?=a8 x:=by rfl) (hv:Vis X.env.scope x:=by first|exact aV rfl|exact cA (aV rfl)|exact cA (cA rfl)) (hd:(x==k8z)=aa:=by decide) (hcd:(x==k90)=aa:=by decide)
  (hst:ah [e] X.env=[(aa,aD e X.env)]:=by rfl) (hline:(p1.endLine==p2.line)=ae:=by rfl)
  (hbase:aR (.Name x p) "extend" X.env (aD (.Name x p) X.env)=aD (.Name x p) X.env:=by rfl) (hfew:((aU p2 (ah [e] X.env)).all (λx=>!x.1)&&(cC p2 (bF [] X.env)).all (λx=>x.1.isSome)
   && decide (([e]:List au).length+([]:List bq).length+(if ([]:List bq).isEmpty then 0 else 1)<30))=ae:=by rfl)
  (hs:aJ (.Call (.Attribute (.Name x p) "extend" p1) [e] [] p2) af pos.line X.env=pure aa:=by rfl) :
  DS X ρ (.Expr (.Call (.Attribute (.Name x p) "extend" p1) [e] [] p2) pos) P:=λσ H E R q=>by
 obtain⟨hσ,xs,m,en⟩:=R.own i l ds hk;refine(Y5 (Bp cO iV PySem.F.type_list_extend j4s (v4 hN hv hd hcd) (jc peS jn hst) hbase hfew hline hst rfl) hs).to ?_;refine⟨_,hσ,.inl ⟨rfl,xs,.inl (.inl m)⟩,he σ H _ R λb ys H1 g1 n1 m1 e1=>⟨l,b,xs,ys,rfl,rfl,g1 _ _ m,m1,by rw[en.length,e1.length];exact hl,?_⟩⟩;exact q.nx _ σ _ h ((R.grow g1).upd_own hk ((en.mono (jf g1)).append (e1.mono (J7 λc hc=>xm _ hc)))) (j02 (σ:=σ) hk g1)
def Ze(K:k8v)(F:Hp)(J:It)(ds:List D):Prop:=∀(i:Nat)(H:Hp)(A:List ai),j0 F (del H A)->(∀a∈A,H a≠af) ->
 (i<ds.length->J.go i H)/\(ds.length<=i->J.stop i H)/\∀x H',J.yld i H x H'->j0 H H'/\∀d,ds[i]?=a8 d->Enc K (del H' A) d x
def DI(X:Cx)(ρ:Rho)(tg it:au)(ds:List D):Prop:=∀σ H R,Rep X.K ρ σ H->(∀J H',j0 H H'->Ze X.K (del H' (owns ρ)) J ds->R J H')->Ww X tg it σ H R
variable{tg it:au}
def j53{K:k8v}{F:Hp}{l:ai}{xs:List V}(sq:SqL K F l xs)(en:j4 K F ds xs):Ze K F (Itl K l) ds:=λi H A g hA=>by
 have sq':SqL K H l xs:=je.seq (g.seq sq);refine⟨λh=>?_,λh=>⟨xs,sq',by rw[en.length];exact h⟩,λx H' ⟨e,y⟩=>?_⟩
 .obtain⟨v,hv,_⟩:=en.get (kh h);exact⟨xs,v,sq',hv⟩
 .subst e;refine⟨j0.refl _,λd hd=>?_⟩;obtain⟨v,hv,ev⟩:=en.get hd;have e:=y xs sq';rw[hv]at e;cases e;exact ev.mono g
def j7m{K:k8v}{F:Hp}{l:ai}{xs:List V}(sq:SqT K F l xs)(en:j4 K F ds xs):Ze K F (Itt K l) ds:=λi H A g hA=>by
 have sq':SqT K H l xs:=je.seqT (g.seqT sq);refine⟨λh=>?_,λh=>⟨xs,sq',by rw[en.length];exact h⟩,λx H' ⟨e,y⟩=>?_⟩
 .obtain⟨v,hv,_⟩:=en.get (kh h);exact⟨xs,v,sq',hv⟩
 .subst e;refine⟨j0.refl _,λd hd=>?_⟩;obtain⟨v,hv,ev⟩:=en.get hd;have e:=y xs sq';rw[hv]at e;cases e;exact ev.mono g
theorem DI.lst(h:DE X ρ it (.lst ds)):DI X ρ tg it ds:=λσ H R r q=>(jb7 peS).to (h σ H _ r λv H1 g1 ⟨l,xs,e,sq,en⟩=>⟨l,e,⟨xs,je.seq sq⟩,q _ H1 g1 (j53 sq en)⟩)
theorem DI.tup(h:DE X ρ it (.tup ds)):DI X ρ tg it ds:=λσ H R r q=>(jed peS).to (h σ H _ r λv H1 g1 ⟨l,xs,e,sq,en⟩=>⟨l,e,⟨xs,je.seqT sq⟩,q _ H1 g1 (j7m sq en)⟩)
noncomputable def upto(lo:Int)(n:Nat):List D:=(aA n).map λk=>D.int (lo+(k:Nat))
def Bu{K:k8v}{F:Hp}(lo:Int)(n:Nat):Ze K F (Itr lo n) (upto lo n):=λi H A g hA=>by
 have hl:(upto lo n).length=n:=by unfold upto;rw[xf,Xe]
 rw[hl];refine⟨λh=>h,λh=>h,λx H' ⟨e,y⟩=>?_⟩;subst e;refine⟨j0.refl _,λd hd=>?_⟩;unfold upto at hd;rw[xn]at hd;cases z:(aA n)[i]? with
 |none=>rw[z]at hd;cases hd
 |some k =>
  rw[z]at hd;have ek:k=i:=by have:=Pg (n:=n) (i:=i) (by have:=(X4.mp z).1;rwa [Xe]at this);rw[this]at z;exact(ax z).symm
  subst ek;cases hd;exact y
def DI.range1 {n:Int} (h:DT X ρ a (.int n)) (hm:X.mg "range" = af) (h1:-(2^62)<=n) (h2:n<2^62) (hg:Gl X "range":=by rfl) (hs:ah [a] X.env=[(aa,aD a X.env)]:=by rfl):DI X ρ tg (.Call (.Name "range" p) [a] [] pos) (upto 0 n.toNat):=λσ H R r q =>(j4f hg hm (jc peS jn hs) hs).to (h σ H _ r λv H1 g1 e=>⟨n,by rw[show v=.int n from e],h1,h2,q _ H1 g1 (Bu 0 _)⟩)
def DI.range2 {m n:Int} (h:DT X ρ a (.int m)) (h':DT X ρ b (.int n)) (hm:X.mg "range" = af) (h1:-(2^62)<=m) (h2:m<2^62) (h3:-(2^62)<=n) (h4:n<2^62) (hg:Gl X "range":=by rfl) (hs:ah [a,b] X.env=[(aa,aD a X.env),(aa,aD b X.env)]:=by rfl)
  (hs2:ah [b] X.env=[(aa,aD b X.env)]:=by rfl) (hs3:ah [a,b] X.env=(aa,aD a X.env)::ah [b] X.env:=by rfl):DI X ρ tg (.Call (.Name "range" p) [a,b] [] pos) (upto m (n-m).toNat):=λσ H R r q =>
 (j4e hg hm (jc peS (jc peS jn hs2) hs3) hs hs2).to (h σ H _ r λv H1 g1 e=>h' σ H1 _ (r.grow g1) λu H2 g2 e2=>⟨m,n,by rw[show v=.int m from e,show u=.int n from e2],⟨h1,h2,h3,h4⟩,q _ H2 (g1.trans g2) (Bu m _)⟩)
def j6o(X:Cx)(tg:au):TG:=λv σ H Q=>∀pins s u,Inv X pins σ H s->RelV v u->av (aC X.prog X.w) X.A (gp tg X.env u) (λ_ s'=>∃σ' H',Inv X pins σ' H' s'/\Q σ' H') X.xe s
def pgS:PG X tg (j6o X tg):=λpins s σ H v u Q I r h=>h pins s u I r
def PG.to{t:TG}{σ:St}{H:Hp}{v:V}{Q:St->Hp->Prop}(h:PG X tg t)(q:t v σ H Q):j6o X tg v σ H Q:=λpins s u I r=>h pins s σ H v u Q I r q
def DG(X:Cx)(ρ:Rho)(tg:au)(d:D)(ρ':Rho):Prop:=(∀b∈owns ρ',b∈owns ρ)/\∀σ H v Q,Rep X.K ρ σ H->Enc X.K (del H (owns ρ)) d v->(∀σ',Rep X.K ρ' σ' H->Q σ' H)->j6o X tg v σ H Q
def DG.name(i:Nat)(hN:X.N.Nodup)(hi:X.N[i]?=a8 x:=by rfl)(hx:Loc X.env.scope x:=by first|exact aV rfl|exact cA rfl)(hf:X.fn x=ae\/X.env.scope.names.lookup x=a8 .local:=by first|exact .inl rfl|exact .inr rfl):DG X ρ (.Name x p) d (ρ.set i (.val d)) :=
 ⟨λb hb=>(jg rfl).subset hb,λσ H v Q R en q=>(Y6 hN hi hx hf).to (q _ (R.set_val en))⟩
def DS.for(W:Nat->Rho->Prop)(hi:DI X ρ tg it ds)(h0:W 0 ρ)(hs:∀i d ρ',ds[i]?=a8 d->W i ρ'->∃ρ2,DG X ρ' tg d ρ2/\DSs X ρ2 body { nx:=W (i+1),rt:=P.rt,bk:=P.nx,ct:=W (i+1),ex:=P.ex })
  (hd:∀ρ',W ds.length ρ'->P.nx ρ') (hc:X.calm=ae) (hp:fv (aC X.prog X.w) X.A X.env X.xe) (hf:∀x,aI it X.env x=pure x:=by intro _;rfl):DS X ρ (.For tg it body [] pos) P:=λσ H E R q=>by
 refine(j4b hp hc piS pgS Jc hf).to (hi σ H _ R λJ H1 g1 ok=>?_);refine⟨λi m σ' H'=>∃ρ',W i ρ'/\Rep X.K ρ' σ' H'/\Fr0 ρ ρ' H1 H'/\m=ds.length-i/\i<=ds.length,⟨ds.length,ρ,h0,R.grow g1,Fr0.refl _ _,rfl,Xw _⟩,?_⟩;rintro i m σ' H' ⟨ρ',w,R',f,rfl,hle⟩;obtain⟨go,stop,yld⟩:=ok i H' (owns ρ') f λa ha=>by obtain⟨xs,e⟩:=R'.owned a ha;rw[e];simp
 by_cases hlt:i<ds.length
 .refine .inr ⟨go hlt,λσ2 H2=>∃ρ2,W (i+1) ρ2/\Rep X.K ρ2 σ2 H2/\Fr0 ρ ρ2 H1 H2,λσ2 H2 ⟨ρ2,w2,R2,f2⟩=>⟨ds.length-(i+1),by omega,ρ2,w2,R2,f2,rfl,hlt⟩,λx H2 y=>?_⟩;obtain⟨g2,en⟩:=yld x H2 y;obtain⟨ρ2,⟨sub,hG⟩,hB⟩:=hs i ds[i] ρ' (kh hlt) w;refine hG σ' H2 x _ (R'.grow g2) (en _ (kh hlt)) λσ3 R3=>?_;have f2:Fr0 ρ ρ2 H1 H2:=j0.trans f (j0.trans (Fr0.grow g2) (Fr0.drop sub));refine hB σ3 H2 _ R3 ⟨λρ3 σ4 H4 n R4 f4=>⟨ρ3,n,R4,f2.trans f4⟩,λρ3 σ4 H4 n R4 f4=>q.nx ρ3 σ4 H4 n R4 ((Fr0.grow g1).trans (f2.trans f4)),λρ3 σ4 H4 n R4 f4=>⟨ρ3,n,R4,f2.trans f4⟩,λr v H4 n z=>q.rt r v H4 n (Dw.step ((Fr0.grow g1).trans f2) z),λx ρ3 σ4 H4 n R4 f4=>q.ex x ρ3 σ4 H4 n R4 ((Fr0.grow g1).trans (f2.trans f4))⟩
 .have e:i=ds.length:=by omega
  subst e;exact .inl ⟨stop (xu _),q.nx ρ' σ' H' (hd ρ' w) R' ((Fr0.grow g1).trans f)⟩
end
noncomputable def qj(N:List ar)(ds:List D):Rho:=ds.map Sl.val++ay (N.length-ds.length) Sl.un
def Qz(N:List ar)(ds:List D):owns (qj N ds)=[]:=by
 unfold owns qj;rw[List.filterMap_append];have h1:(ds.map Sl.val).filterMap Sl.addr=[]:=List.filterMap_eq_nil_iff.mpr λs hs=>by obtain⟨d,_,rfl⟩:=Xj.mp hs;rfl
 have h2:(ay (N.length-ds.length) Sl.un).filterMap Sl.addr=[]:=List.filterMap_eq_nil_iff.mpr λs hs=>by rw[(List.mem_replicate.mp hs).2];rfl
 rw[h1,h2];rfl
def Ve{K:k8v}{H:Hp}{N:List ar}{ds:List D}{vs:List V}(tb:TabOk K H)(h:j4 K H ds vs):Rep K (qj N ds) (start N vs) H:=by
 have ho:=Qz N ds;have hl:=h.length;refine⟨by unfold qj start;simp[hl],λi d e=>?_,λi a l e=>?_,by rw[ho];exact d8,λi a o y e=>?_,tb⟩
 .rw[ho,qt];unfold qj at e;by_cases z:i<ds.length
  .rw[Tc (by simpa using z),xn]at e;rw[kh z]at e;cases e;obtain⟨v,hv,en⟩:=h.get (kh z);refine⟨v,?_,en⟩;unfold start;rw[Tc (by rw[xf,hl];exact z),xn,hv];rfl
  .rw[dP (by simpa using z)]at e;have:=Xl e;cases(List.mem_replicate.mp this).2
 .have:=Jp e;rw[ho]at this;cases this
 .unfold qj at e;rcases Xp.mp (Xl e)with z|z
  .obtain⟨d,_,q⟩:=Xj.mp z;cases q
  .cases(List.mem_replicate.mp z).2
section
variable{P:az}{w:aE}{K:k8v}{mg:k8y}{base:aH}{x qual:ar}{st:aP}{f:ai}{fd:aM}{N ps:List ar}{k:Nat}
def Wr(K:k8v)(f:ai)(cdv:aj):Prop:=∃(oc:aj)(od:Option ai)(fd:aM)(sl:Array (Option aj)),K.lookup f=a8 ⟨oc,od,.func fd,sl⟩/\fd.code=cdv
def Fun.okC{sp:Sp}(F:Fun K x qual st f fd)(S:FnScope N ps (j9 st))(len:∀vs H Q E,sp vs H Q E->vs.length=ps.length)
  (hbody:∀(cdv:aj)(A:aF)(outer:List dO)(s:aq)(H:Hp)(vs:List V)(Q:VK) (E:XK),Wr K f cdv->Room k (A.deeper (bQ qual (j9 st) s.heap.objs.size f cdv))->sp vs H Q E ->
   ∃t,PSs (zp CX0 P w K mg base N qual (j9 st) f cdv A outer s H E).nox (jz st) t/\t { nx:=λ_ H'=>Q .non H',rt:=Q } (start N vs) H):FnOk P w K mg base CX0 (k+1) f fd ps sp:=by
 obtain⟨oc,od,dV,kV,doc,pm,an,cdv,ct,osl,rfl,lk,hcd⟩:=F.ex;refine j9t lk hcd S len λA outer s H vs Q E hr hsp=>?_;obtain⟨t,h,q⟩:=hbody cdv A outer s H vs Q E ⟨oc,od,_,osl,lk,rfl⟩ hr hsp;exact⟨t,h.nox,q⟩
def Dj{S:List D->D->Prop}(F:Fun K x qual st f fd)(Sc:FnScope N ps (j9 st))(hl:∀ds d,S ds d->ds.length=ps.length)
  (hbody:∀(cdv:aj)(A:aF)(outer:List dO)(s:aq)(H:Hp)(E:XK),Wr K f cdv->Room k (A.deeper (bQ qual (j9 st) s.heap.objs.size f cdv))->∀ds d,S ds d ->
   DSs (zp CX0 P w K mg base N qual (j9 st) f cdv A outer s H E).nox (qj N ds) (jz st) { nx:=λ_=>d=.non,rt:=λr=>r.d=d }):FnOk P w K mg base CX0 (k+1) f fd ps (spP K S):=by
 refine FnOk.toP (F.okC Sc (λvs H Q E ⟨ds,d,tb,en,hS,_⟩=>by rw[en.length];exact hl ds d hS) λcdv A outer s H vs Q E hcv hr ⟨ds,d,tb,en,hS,q⟩=>⟨_,Jc,?_⟩);have ho:=Qz N ds;refine hbody cdv A outer s H E hcv hr ds d hS (start N vs) H _ (Ve tb en) ⟨λρ' σ' H' n R f=>?_,λ_ _ _ z=>z.elim,λ_ _ _ z=>z.elim,λr v H' n z=>?_,λ_ _ _ _ z=>z.elim⟩
 .subst n;unfold Fr0 at f;rw[ho,qt]at f;exact q _ H' (f.trans je) rfl
 .cases r with
  |val d' =>cases(show d'=d from n);obtain⟨g,en'⟩:=z;rw[ho,qt]at g;exact q v H' g en'
  |fresh l =>cases(show D.lst l=d from n);obtain⟨a,xs,e,g,m,en'⟩:=z;rw[ho,qt]at g;exact q v H' (g.trans je) ⟨a,xs,e,.inl (.inl m),en'.mono je⟩
def j87{S:List D->List D->Prop}(F:Fun K x qual st f fd)(Sc:FnScope N ps (j9 st))(hl:∀ds d,S ds d->ds.length=ps.length)
  (hbody:∀(cdv:aj)(A:aF)(outer:List dO)(s:aq)(H:Hp)(E:XK),Wr K f cdv->Room k (A.deeper (bQ qual (j9 st) s.heap.objs.size f cdv))->∀ds l,S ds l ->
   DSs (zp CX0 P w K mg base N qual (j9 st) f cdv A outer s H E).nox (qj N ds) (jz st) { nx:=λ_=>False,rt:=λr=>r=.fresh l }):FnOk P w K mg base CX0 (k+1) f fd ps (spF K S):=by
 refine FnOk.toF (F.okC Sc (λvs H Q E ⟨ds,d,tb,en,hS,_⟩=>by rw[en.length];exact hl ds d hS) λcdv A outer s H vs Q E hcv hr ⟨ds,l,tb,en,hS,q⟩=>⟨_,Jc,?_⟩);have ho:=Qz N ds;refine hbody cdv A outer s H E hcv hr ds l hS (start N vs) H _ (Ve tb en) ⟨λρ' σ' H' n R f=>n.elim,λ_ _ _ z=>z.elim,λ_ _ _ z=>z.elim,λr v H' n z=>?_,λ_ _ _ _ z=>z.elim⟩;cases(show r=.fresh l from n);obtain⟨a,xs,e,g,m,en'⟩:=z;rw[ho,qt]at g;subst e;refine q a xs H' (g.trans je) ?_ m en';cases y:H a with
 |none=>rfl
 |some o=>have:=g a o y;rw[qp (xg.mpr rfl)]at this;cases this
end
section
variable{prog:az}{w:aE}{A:aF}{R:f6->aq->Prop}{s:aq}
def Rx{elt target iter:au}{ifs:List au}{scope:bH}{pos:aO}{it acc:aj}{env:dO}(I:Nat->aq->Prop)
  (turn:∀n s,I n s->av (aC prog w) A (cD it) (λr s₁=>match r with
   |none=>R (.ok .next) s₁
   |some v=>av (aC prog w) A (fK target it v) (λ_ s₁'=>av (aC prog w) A (gp target env v) (λ_ s₂ =>
     av (aC prog w) A (forIn ifs ae λc r=>if r=ae then do let ok <-i4 c env (aD c env);pure (cJ ok)else pure (cJ r)) (λok s₃ =>
      if ok=ae then av (aC prog w) A (aD elt env) (λx s₄ =>
       av (aC prog w) A (call (.builtin "list.append") [acc,x]) (λ_ s₅=>∃m,m<n/\I m s₅) (λ_ _=>False) s₄) (λ_ _=>False) s₃
      else ∃m,m<n/\I m s₃) (λ_ _=>False) s₂) (λ_ _=>False) s₁') (λ_ _=>False) s₁) (λ_ _=>False) s)
  (n:Nat) (h:I n s) :
  bY (aC prog w) A (.compLoop (.ListComp elt [⟨target,iter,ifs,0⟩] scope pos) 0 it acc env) R s:=by
 refine codeAny_loop rfl I (λn s hI=>?_) n h;show av _ A ((compTurn (.ListComp elt [⟨target,iter,ifs,0⟩] scope pos) 0 it acc env).onRaise (λx=>do noteFrame x env;theTreesLotGoes x)) _ _ s;refine wpAny_noted ?_;rw[compTurn_list];refine a9 (eX (a9 (bV (turn n s hI) (λr s₁ h₁=>?_) λ_ _ h'=>h'.elim)));cases r with
 |none=>exact ak h₁
 |some v =>
  refine a9 (bV h₁ (λ_ s₁' h₁'=>?_) λ_ _ h'=>h'.elim);refine a9 (bV h₁' (λ_ s₂ h₂=>a9 (bV h₂ (λok s₃ h₃=>?_) λ_ _ h'=>h'.elim)) λ_ _ h'=>h'.elim);cases ok with
  |false=>exact ak ⟨rfl,h₃⟩
  |true =>exact a9 (a9 (bV h₃ (λx s₄ h₄=>a9 (bV h₄ (λ_ s₅ h₅=>ak (ak ⟨rfl,h₅⟩)) λ_ _ h'=>h'.elim)) λ_ _ h'=>h'.elim))
end
noncomputable def zb(env:dO):List (ar×bP)->List (ar×ai)->List (ar×ai)
 |[],acc=>acc
 |(n,k)::r,acc=>zb env r (if k==.free then(match env.cells.lookup n with|some a=>(n,a)::acc|none=>acc)else acc)
def Wh{scope:bH}{env:dO}(h:∀y∈scope.names,y.2=.free->(env.cells.lookup y.1).isSome=ae):closureFor scope env=pure (zb env scope.names []):=by
 simp only[closureFor];have step:∀(names:List (ar×bP)) (acc:List (ar×ai)),(∀y∈names,y.2=.free->(env.cells.lookup y.1).isSome=ae) ->
   (forIn names acc (λx r=>(do if (x.2==bI)=ae then(do let a <-cellOf env x.1;pure (cJ ((x.1,a)::r)))else pure (cJ r):nG _)):nG _)=pure (zb env names acc):=by
  intro names;induction names with
  |nil=>intro acc _;rfl
  |cons y r ih =>
   intro acc hy;obtain⟨n,k⟩:=y;rw[ff];by_cases e:(k==bI)=ae
   .have hk:k=.free:=by simpa using e
    have hs:=hy (n,k) (xr ..) hk;obtain⟨a,ha⟩:=Xz.mp hs;have hc:cellOf env n=pure a:=by unfold cellOf;rw[ha]
    simp only[e,if_true,hc,pure_bind];rw[ih _ λz hz=>hy z (xm _ hz)];simp only[zb,e,if_true,ha]
   .have e':(k==bI)=aa:=by simpa using e
    simp only[e',Xr,if_false,pure_bind];rw[ih _ λz hz=>hy z (xm _ hz)];simp only[zb,e',Xr,if_false]
 have:=step scope.names [] h;rw[show(forIn scope.names ([]:List (ar×ai)) λx r=>_)=_ from this];rfl
theorem Lh{env:dO}{y:ar}{c:ai}:∀{names:List (ar×bP)} {acc:List (ar×ai)},(∀y c,acc.lookup y=a8 c->env.cells.lookup y=a8 c)->(zb env names acc).lookup y=a8 c->env.cells.lookup y=a8 c
 |[],acc,h,q=>h y c q
 |(n,k)::r,acc,h,q=>by
  unfold zb at q;refine Lh (acc:=_) ?_ q;intro z d hz;split at hz
  .split at hz
   .rename_i a ha;rw[Xm]at hz;split at hz
    .rename_i e;have e':z=n:=by simpa using e
     subst e';cases hz;exact ha
    .exact h z d hz
   .exact h z d hz
  .exact h z d hz
theorem Nj{env:dO}{y:ar}:∀{names:List (ar×bP)} {acc:List (ar×ai)},(acc.lookup y).isSome=ae->((zb env names acc).lookup y).isSome=ae
 |[],acc,h=>h
 |(n,k)::r,acc,h=>by
  unfold zb;refine Nj ?_;split
  .split
   .rw[Xm];split
    .rfl
    .exact h
   .exact h
  .exact h
theorem Wi{env:dO}{y:ar}(hs:(env.cells.lookup y).isSome=ae):∀{names:List (ar×bP)} {acc:List (ar×ai)},(y,bI)∈names->((zb env names acc).lookup y).isSome=ae
 |[],acc,h=>nomatch h
 |(n,k)::r,acc,h=>by
  unfold zb;rcases xq.mp h with e|h
  .cases e;refine Nj ?_;obtain⟨a,ha⟩:=Xz.mp hs;rw[if_pos (by rfl),ha];rw[Xm];simp
  .exact Wi hs h
noncomputable def v7(scope:bH)(env:dO)(N:List ar)(cs:List Nat):Bool :=
 scope.names.all (λy=>(y.2 != .cell || scope.names.lookup y.1==a8 .cell)&&(y.2 != .local || scope.names.lookup y.1==a8 .local)&&(y.2 != .free || ((env.cells.lookup y.1).isSome&&(env.kindOf y.1==a8 .cell || env.kindOf y.1==a8 .free)))) &&
 (aA N.length).all (λj=>cs.contains j || (match N[j]? with|some y=>scope.names.lookup y != a8 .local&&scope.names.lookup y != a8 .cell|none=>ae))
def lookup_mem{α β:Type}[BEq α][LawfulBEq α]{l:List (α×β)}{a:α}{b:β}(h:l.lookup a=a8 b):(a,b)∈l:=by
 induction l with
 |nil=>cases h
 |cons x r ih =>
  obtain⟨c,d⟩:=x;rw[Xm]at h;split at h
  .rename_i e;cases h;have e':a=c:=by simpa using e
   subst e';exact xr ..
  .exact xm _ (ih h)
theorem Jl{env:dO}{x:ar}{k':bP}:∀{names:List (ar×bP)},
  (names.map λ(n,k)=>if (k==bI&&env.scope.kind==.function&&env.kindOf n==a8 .cell) then(n,bX) else(n,k)).lookup x=a8 k' ->
  ∃k,names.lookup x=a8 k/\(k'=k\/(k=.free/\k'=.cell))
 |[],h=>by cases h
 |(n,k)::r,h=>by
  rw[X6]at h;rw[Xm];by_cases hc:(k==bI&&env.scope.kind==.function&&env.kindOf n==a8 .cell)=ae
  .dsimp only at h;rw[if_pos hc,Xm]at h;cases e:x==n with
   |true =>
    rw[e]at h;cases h;have:(k==bI)=ae:=by
     cases z:k==bI with
     |true=>rfl
     |false=>rw[z]at hc;simp at hc
    exact⟨k,rfl,.inr ⟨by simpa using this,rfl⟩⟩
   |false=>rw[e]at h;exact Jl h
  .dsimp only at h;rw[if_neg hc,Xm]at h;cases e:x==n with
   |true=>rw[e]at h;cases h;exact⟨_,rfl,.inl rfl⟩
   |false=>rw[e]at h;exact Jl h
theorem Ys:∀(names:List (ar×bP)) (n:Nat) (acc:List (ar×ai)),aT n names acc=aT n names []++acc
 |[],_,_=>rfl
 |(x,k)::r,n,acc=>by
  unfold aT;split
  .rw[Ys r (n+1) ((x,n)::acc),Ys r (n+1) [(x,n)],T9];rfl
  .exact Ys r n acc
theorem Nk:∀{names:List (ar×bP)} {n:Nat} {x:ar} {c:ai},(x,c)∈aT n names []->(x,bX)∈names/\n<=c
 |[],_,_,_,h=>nomatch h
 |(y,k)::r,n,x,c,h=>by
  unfold aT at h;split at h
  .rename_i hk;rw[Ys]at h;rcases Xp.mp h with h|h
   .have q:=Nk h;exact⟨xm _ q.1,Nat.le_of_succ_le q.2⟩
   .cases xg.mp h;have hk:k=bX:=by simpa using hk
    subst hk;exact⟨xr ..,xu _⟩
  .have q:=Nk h;exact⟨xm _ q.1,q.2⟩
theorem Vx{β:Type}:∀{l m:List (ar×β)} {y:ar},(l++m).lookup y=(l.lookup y).or (m.lookup y)
 |[],m,y=>rfl
 |(x,b)::r,m,y=>by
  rw[gZ,Xm,Xm];split
  .rfl
  .exact Vx
def Li{names:List (ar×bP)}{n:Nat}{acc:List (ar×ai)}{y:ar}{c:ai}(h:(aT n names acc).lookup y=a8 c) :
  ((y,c)∈aT n names []/\(y,bX)∈names/\n<=c)\/((aT n names []).lookup y=af/\acc.lookup y=a8 c):=by
 rw[Ys,Vx]at h;cases e:(aT n names []).lookup y with
 |some c'=>rw[e]at h;cases h;have q:=lookup_mem e;exact .inl ⟨q,Nk q⟩
 |none=>rw[e]at h;exact .inr ⟨rfl,h⟩
def jgs{names:List (ar×bP)}{n:Nat}{acc:List (ar×ai)}{y:ar}(h:(y,bX)∉names):(aT n names acc).lookup y=acc.lookup y:=by
 rw[Ys,Vx];cases e:(aT n names []).lookup y with
 |some c'=>exact absurd (Nk (lookup_mem e)).1 h
 |none=>rfl
def jcv{names:List (ar×bP)}{n:Nat}{acc:List (ar×ai)}{y:ar}(h:(acc.lookup y).isSome=ae):∃c,(aT n names acc).lookup y=a8 c:=by
 rw[Ys,Vx];cases e:(aT n names []).lookup y with
 |some c'=>exact⟨c',rfl⟩
 |none=>obtain⟨c,hc⟩:=Xz.mp h;exact⟨c,hc⟩
def Ek{M:jT}{A:aF}{E:k8w}{s:aq}{scope:bH}{globals:ai}{closure:List (ar×ai)}{qual:ar}{env:dO}{Q:dO->aq->Prop}
  (hQ:Q { scope:=scope,locals:=s.heap.objs.size,globals:=globals,cells:=aT (s.heap.objs.size+1) scope.names closure,qual:=qual,func:=af,code:=env.code,frame:=env.frame,builtins:=env.builtins }
   { s with heap:=jO (s.heap.push { cls:=.type "dict",data:=.dict #[] }) scope.names }) :
  av M A (eK scope globals closure [] qual af .none (a8 env)) Q E s:=by
 simp only[eK,fN,if_true];refine a9 (wpAny_alloc ?_);refine a9 (wpAny_layCells _ (λname kind cells=>by cases hkc:kind==bX<;>simp[hkc]) _ _ _ _ ?_);rw[show({ s with heap:=s.heap.push { cls:=.type "dict",data:=.dict #[] } }:aq).heap.objs.size=s.heap.objs.size+1 from Pa ..];exact a9 (ak (ak hQ))
noncomputable abbrev cCx(X:Cx)(scope:bH)(C:ai)(s:aq)(H:Hp)(fp:List ai)(pn:k8x):Cx :=
 { X with env:=kH scope (aT (C+1) scope.names (zb X.env scope.names [])) C X.env,s₀:=s,H₀:=H,outer:=X.stack,stack:=X.stack,ex:=fp,fn:=λx=>scope.names.lookup x==a8 .cell,pn:=pn,xe:=λ_ _=>False }
noncomputable def V9(scope:bH)(y:ar):Bool:=scope.names.lookup y==a8 .local || scope.names.lookup y==a8 .cell
theorem V1{env:dO}:∀{names:List (ar×bP)} {x:ar},names.lookup x=a8 .cell ->
  (names.map λ(n,k)=>if (k==bI&&env.scope.kind==.function&&env.kindOf n==a8 .cell) then(n,bX) else(n,k)).lookup x=a8 .cell
 |[],_,h=>by simp at h
 |(n,k)::r,x,h=>by
  have ih:=@V1 env r x;rw[X6];cases hx:x==n with
  |true =>simp only[Xm,hx]at h;cases h;simp[Xm,hx]
  |false =>
   simp only[Xm,hx]at h;dsimp only;by_cases hc:(k==bI&&env.scope.kind==.function&&env.kindOf n==a8 .cell)=ae
   .rw[if_pos hc];simp only[Xm,hx];exact ih h
   .rw[if_neg hc];simp only[Xm,hx];exact ih h
def V4{X:Cx}{scope:bH}{C:ai}{s:aq}{H:Hp}{fp:List ai}{pn:k8x}{y:ar}(h:V9 scope y=ae):Loc (cCx X scope C s H fp pn).env.scope y:=by
 unfold V9 at h;rw[Tw]at h;rcases h with h|h
 .exact .inl (kE (by simpa using h))
 .exact .inr (V1 (by simpa using h))
def Yd{X:Cx}{scope:bH}{C:ai}{s:aq}{H:Hp}{fp:List ai}{pn:k8x}{y:ar}(h:V9 scope y=ae):(cCx X scope C s H fp pn).fn y=ae\/(cCx X scope C s H fp pn).env.scope.names.lookup y=a8 .local:=by
 unfold V9 at h;rw[Tw]at h;rcases h with h|h
 .exact .inr (kE (by simpa using h))
 .exact .inl h
def DTs(X:Cx)(ρ:Rho)(ifs:List au)(b:Bool):Prop:=match ifs with
 |[]=>b=ae
 |[c]=>DB X ρ c b
 |_=>False
def DTs.nil{X:Cx}{ρ:Rho}:DTs X ρ [] ae:=rfl
def DTs.one{X:Cx}{ρ:Rho}{c:au}{b:Bool}(h:DB X ρ c b):DTs X ρ [c] b:=h
def DTs.run{X:Cx}{ρ:Rho}{ifs:List au}{b:Bool}(h:DTs X ρ ifs b){pins:k8x}{σ:St}{H:Hp}{s:aq}(I:Inv X pins σ H s)(R:Rep X.K ρ σ H) :
  av (aC X.prog X.w) X.A (forIn ifs ae λc r=>if r=ae then do let ok <-i4 c X.env (aD c X.env);pure (cJ ok)else pure (cJ r)) (λok s'=>ok=b/\∃H',Inv X pins σ H' s'/\j0 H H') X.xe s:=by
 match ifs,h with
 |[],h=>exact wpAny_tests_nil ⟨h.symm,H,I,j0.refl H⟩
 |[c],h=>exact wpAny_tests_one (thn (h σ H (λk H'=>k=b/\j0 H H') R (λH' g=>⟨rfl,g⟩) pins s I) λk s' ⟨H',I',e,g⟩=>⟨e,H',I',g⟩)
def Rep.weaken{K:k8v}{ρ:Rho}{σ σ':St}{H:Hp}(R:Rep K ρ σ H)(hl:σ'.length=σ.length)(h:∀(i:Nat),ρ[i]?≠a8 .un->σ'[i]?=σ[i]?):Rep K ρ σ' H :=
 ⟨by rw[hl,R.len],λi d e=>let ⟨v,q,z⟩:=R.val i d e;⟨v,by rw[h i (by rw[e];simp)];exact q,z⟩,λi a ds e=>let ⟨q,z⟩:=R.own i a ds e;⟨by rw[h i (by rw[e];simp)];exact q,z⟩,R.nd,λi a o x e=>let ⟨q,z⟩:=R.raw i a o x e;⟨by rw[h i (by rw[e];simp)];exact q,z⟩,R.tb⟩
noncomputable def mask(cs:List Nat)(σ:St):St:=σ.mapIdx λj v=>if cs.contains j then af else v
def Ub(cs:List Nat)(σ:St):(mask cs σ).length=σ.length:=by unfold mask;simp
def j7c{cs:List Nat}{σ:St}{j:Nat}{v:V}(h:(mask cs σ)[j]?=a8 (a8 v)):j∉cs/\σ[j]?=a8 (a8 v):=by
 unfold mask at h;rw[jC]at h;cases e:σ[j]? with
 |none=>rw[e]at h;cases h
 |some u =>
  rw[e]at h;have h':(if cs.contains j then af else u)=a8 v:=ax h;by_cases z:cs.contains j=ae
  .rw[if_pos z]at h';cases h'
  .rw[if_neg z]at h';subst h';exact⟨λy=>z (by simpa using y),rfl⟩
def Oj{cs:List Nat}{σ:St}{j:Nat}(h:j∉cs):(mask cs σ)[j]?=σ[j]?:=by
 unfold mask;rw[jC];cases e:σ[j]? with
 |none=>rfl
 |some u=>simp[h]
def Wk(ρ2 ρ:Rho):Prop:=∀K σ H,Rep K ρ2 σ H->Rep K ρ σ H
def Jy(H:Hp)(A B:List ai):del (del H A) B=del H (A++B):=funext λb=>by unfold del;by_cases h1:b∈A<;>by_cases h2:b∈B<;>simp[h1,h2]
structure Loose(X:Cx)(pins:k8x)(H:Hp)(C:ai):Prop where
 free:H C=af
 loc:C≠X.env.locals
 new:X.s₀.heap.objs.size<=C
 cell:∀x c,X.env.cells.lookup x=a8 c->c≠C
 pin:∀p∈X.pn++pins,p.1≠C
section
variable{X:Cx}{pins:k8x}{σ:St}{H2:Hp}{s2:aq}{ρ:Rho}{tg elt iter:au}{ifs:List au}{scope:bH}{pos:aO}{ds:List D}{cs:List Nat}{p:D->Bool}{g:D->D}
def j0c{J:It}{fp:List ai}{it:ai}{tn:Nat->aH->Prop}(I2:Inv X pins σ H2 s2)(T:Turn X.prog X.w X.K tg J fp it tn)(st2:tn 0 s2.heap)(f2:∀b∈fp,v6 X pins H2 b)
  (hkind:scope.kind=.function) (hok:v7 scope X.env X.N cs=ae) {E:k8w} {RR:aj->ai->f6->aq->Prop}
  (hk:∀(C Dd:ai)(h₁:aH),(cCx X scope C s2 H2 fp (X.pn++pins)).Ok->Inv (cCx X scope C s2 H2 fp (X.pn++pins)) [] (mask cs σ) (upd H2 Dd (.lst [])) { s2 with heap:=h₁ }->s2.heap.objs.size=Dd->Dd<C->H2 Dd=af->(∀b o,s2.heap.get? b=a8 o->h₁.get? b=a8 o) ->
   bY (aC X.prog X.w) X.A (.compLoop (.ListComp elt [⟨tg,iter,ifs,0⟩] scope pos) 0 (.ref it) (.ref Dd) (kH scope (aT (C+1) scope.names (zb X.env scope.names [])) C X.env)) (RR (.ref Dd) C) { s2 with heap:=h₁ }) :
  av (aC X.prog X.w) X.A (lQ []) (λacc s₃=>av (aC X.prog X.w) X.A (eK scope X.env.globals (zb X.env scope.names []) [] X.env.qual af .none (a8 X.env)) (λcenv s₄=>cenv.frame=X.env.frame /\
   bY (aC X.prog X.w) X.A (.compStart (.ListComp elt [⟨tg,iter,ifs,0⟩] scope pos) 0 (.ref it) acc { cenv with scope:=ka scope X.env }) (RR acc cenv.locals) s₄) E s₃) E s2:=by
 unfold v7 at hok;rw[Xg]at hok;obtain⟨hn,hN⟩:=hok;have hn':∀y∈scope.names,(y.2=.cell->scope.names.lookup y.1=a8 .cell)/\(y.2=.free->(X.env.cells.lookup y.1).isSome=ae/\(X.env.kindOf y.1=a8 .cell\/X.env.kindOf y.1=a8 .free)):=λy hy=>by have:=T6.mp hn y hy;simp only[Xg,bne_iff_ne,ne_eq,Tw,beq_iff_eq]at this;obtain⟨⟨a,_⟩,c⟩:=this;exact⟨λe=>a.elim (λz=>absurd e z) id,λe=>c.elim (λz=>absurd e z) id⟩
 have nocell:∀{y:ar},scope.names.lookup y=a8 .free->(y,bX)∉scope.names:=λ{y} h z=>by have q:=(hn' _ z).1 rfl;rw[h]at q;cases q
 have hloc:∀(j:Nat)(y:ar),X.N[j]?=a8 y->j∉cs->scope.names.lookup y≠a8 .local/\scope.names.lookup y≠a8 .cell:=λj y hj hc=>by
  have hlt:j<X.N.length:=(X4.mp hj).1;have:=T6.mp hN j (Xc.mpr hlt);rw[hj]at this;simp only[Tw,Xg,bne_iff_ne,ne_eq]at this;rcases this with z|z
  .exact absurd (by simpa using z) hc
  .exact z
 have cl_of:∀{y:ar}{c:ai},(zb X.env scope.names []).lookup y=a8 c->X.env.cells.lookup y=a8 c:=λ{y c} h=>Lh (λ_ _ z=>by cases z) h;refine bf (Ek ?_);dsimp only;generalize hH2:s2.heap.push { cls:=.type "list",dict:=af,data:=.seq ([]:List aj).toArray }=hp2;have keep1:∀b o,hp2.get? b=a8 o->(jO (hp2.push { cls:=.type "dict",data:=.dict #[] }) scope.names).get? b=a8 o:=λb o e=>nF _ _ b o (kj _ e);have hns₁:(jO (hp2.push { cls:=.type "dict",data:=.dict #[] }) scope.names).Ns hp2.objs.size (λ_=>af):=(Heap.Ns.new hp2 (.type "dict")).keeps (nF _ _);have okl:=cellsFrom_ok scope.names (hp2.push { cls:=.type "dict",data:=.dict #[] }) (hp2.objs.size+1) [] ⟨λ_ _ hm=>(nomatch hm),List.Pairwise.nil⟩ (by rw[Pa];exact xu _);rw[Pa]at okl;generalize jO (hp2.push { cls:=.type "dict",data:=.dict #[] }) scope.names=h₁ at keep1 hns₁ okl ⊢;have hC:hp2.objs.size=s2.heap.objs.size+1:=by rw[<-hH2,Pa]
 have hDC:s2.heap.objs.size≠hp2.objs.size:=by rw[hC];exact Xa (Ti _)
 have hCle:s2.heap.objs.size<=hp2.objs.size:=by rw[hC];exact Pk _
 have below:∀b,b<s2.heap.objs.size->b≠hp2.objs.size/\b≠s2.heap.objs.size:=λb hb=>⟨by rw[hC];exact Xa (S5 hb),Xa hb⟩
 have old:∀b o,s2.heap.get? b=a8 o->h₁.get? b=a8 o:=λb o e=>keep1 b o (hH2▸kj _ e);have hacc:h₁.get? s2.heap.objs.size=a8 { cls:=.type "list",dict:=af,data:=.seq ([]:List aj).toArray }:=keep1 _ _ (hH2▸X3 _ rfl);have none_of:∀b,s2.heap.objs.size<=b->s2.heap.get? b=af:=λb hb=>by
  cases e:s2.heap.get? b with
  |none=>rfl
  |some o'=>exact absurd (xx e) (Nat.not_lt.mpr hb)
 have hD0:H2 s2.heap.objs.size=af:=I2.fresh;generalize hDd:s2.heap.objs.size=Dd at *;generalize hCc:hp2.objs.size=C at *;have hC0:H2 C=af:=I2.hok.fresh (by rw[hDd];exact hCle);have pinlt:∀p∈X.pn++pins,p.1<Dd:=λp hp=>by rw[<-hDd];exact xx (I2.pin p hp).1
 have celllt:∀y c,X.env.cells.lookup y=a8 c->c<Dd:=λy c h=>by obtain⟨v,o,e,_⟩:=I2.cell y c h;rw[<-hDd];exact xx e
 have loclt:X.env.locals<Dd:=by rw[<-hDd];exact I2.lt
 have fplt:∀b∈fp,b<Dd:=λb hb=>by obtain⟨o,e,_⟩:=T.obj _ _ st2 b hb;rw[<-hDd];exact xx e
 have hDlt:Dd<C:=by omega
 have cellD:∀{y:ar}{c:ai},(aT (C+1) scope.names (zb X.env scope.names [])).lookup y=a8 c->((y,c)∈aT (C+1) scope.names []/\C+1<=c)\/X.env.cells.lookup y=a8 c:=λ{y c} h=>by
  rcases Li h with ⟨q,_,z⟩|⟨_,q⟩
  .exact .inl ⟨q,z⟩
  .exact .inr (cl_of q)
 have celln:∀{y:ar}{c b:ai},(aT (C+1) scope.names (zb X.env scope.names [])).lookup y=a8 c->b<Dd->(∀c,X.env.cells.lookup y=a8 c->c≠b)->c≠b:=λ{y c b} h hb ho=>by
  rcases cellD h with ⟨_,z⟩|q
  .exact P0 (ph hb (ph hDlt (S6 z)))
  .exact ho c q
 have okc:(cCx X scope C s2 H2 fp (X.pn++pins)).Ok:={
  mod:=I2.ok.mod
  kind:=hkind
  glob:=I2.ok.glob
  blt:=I2.ok.blt
  above:=by show s2.heap.objs.size<=C;rw[hDd];exact hCle
  inj:=λx y c h1 h2=>by
   rcases cellD h1 with ⟨m1,z1⟩|q1<;>rcases cellD h2 with ⟨m2,z2⟩|q2
   .exact name_of_addr okl.apart m1 m2
   .exact absurd (ph (celllt y c q2) (ph hDlt (S6 z1))) (tu _)
   .exact absurd (ph (celllt x c q1) (ph hDlt (S6 z2))) (tu _)
   .exact I2.ok.inj x y c q1 q2
  has:=λx h=>by
   have key:∀k',(ka scope X.env).names.lookup x=a8 k'->(k'=.cell\/k'=.free)->∃c,(aT (C+1) scope.names (zb X.env scope.names [])).lookup x=a8 c:=λk' hk hk'=>by
    obtain⟨k,hl,e⟩:=Jl hk
    have hm:=lookup_mem hl
    have hk0:k=.free\/k=.cell:=by
     rcases e with e|e
     .subst e
      exact hk'.symm
     .exact .inl e.1
    rcases hk0 with hk0|hk0
    .subst hk0
     exact jcv (Wi ((hn' _ hm).2 rfl).1 hm)
    .subst hk0
     exact Xz.mp (W.cellsFrom_some _ _ _ (.inl hl))
   rcases h with h|h
   .exact key _ h (.inl rfl)
   .exact key _ h (.inr rfl)
  cab:=λx c h h2=>by
   have hx:scope.names.lookup x=a8 .cell:=by simpa using h
   show s2.heap.objs.size<=c
   rw[hDd]
   rcases Li h2 with ⟨_,_,z⟩|⟨z,_⟩
   .exact f7 (ph hDlt (S6 z))
   .obtain⟨c',hc'⟩:=Xz.mp (W.cellsFrom_some scope.names (C+1) [] (.inl hx))
    rw[z]at hc';cases hc'
  hd:=I2.ok.hd
  frames:=I2.ok.frames
  stk:=.inl rfl
  exf:=λb hb=>⟨Xa (ph (fplt b hb) hDlt),λx c h=>celln h (fplt b hb) λc q=>(f2 b hb).2.2.2.2.1 x c q⟩
  bs:=I2.bs
  bsz:=Xd I2.ok.bsz I2.sz
  noex:=λb o e hb=>by
   rcases(f2 b hb).2.2.2.1 with z|z
   .exact I2.ok.noex b o e z
   .exact absurd (xx e) (Nat.not_lt.mpr (Xd I2.ok.bsz z))
  exfs:=λb hb hf=>by
   rcases xq.mp (I2.stkSub b hf)with z|z
   .exact(f2 b hb).2.1 z
   .exact(f2 b hb).2.2.1 z
  funs:=I2.stack
  frf:=I2.stkFree }
 have hpush:HOk X.prog X.w (upd H2 Dd (.lst [])) h₁:=HOk.laid I2.hok old (by rw[hDd];exact xu _) ⟨Xw _,[],_,.nil,hacc⟩;have I0:Inv (cCx X scope C s2 H2 fp (X.pn++pins)) [] (mask cs σ) (upd H2 Dd (.lst [])) { s2 with heap:=h₁ }:={
  ok:=okc
  os:=rfl
  bare:=I2.bare
  base:=Un.laid old (by rw[hDd];exact xu _) hD0
  loc:=by
   refine⟨_,hns₁,λj y v hj hv hvis=>?_⟩
   obtain⟨hjc,hσ⟩:=j7c hv
   obtain⟨m,hm,hlook⟩:=I2.loc
   have key:∀k',(ka scope X.env).names.lookup y=a8 k'->scope.names.lookup y=a8 .free:=λk' hk=>by
    obtain⟨k,hl,e⟩:=Jl hk
    have hmm:=lookup_mem hl
    have:k=.free:=by
     rcases e with e|e
     .subst e
      rcases hvis with z|z|z
      .have z:=hk.symm.trans z;cases z;exact absurd hl (hloc j y hj hjc).1
      .have z:=hk.symm.trans z;cases z;exact absurd hl (hloc j y hj hjc).2
      .have z:=hk.symm.trans z;cases z;rfl
     .exact e.1
    rw[hl,this]
   have hfree:scope.names.lookup y=a8 .free:=by rcases hvis with z|z|z<;>exact key _ z
   have hmm:=lookup_mem hfree
   obtain⟨hs,hk⟩:=(hn' _ hmm).2 rfl
   have hvis':Vis X.env.scope y:=by rcases hk with z|z;exact .inr (.inl z);exact .inr (.inr z)
   obtain⟨u,ru,look⟩:=hlook j y v hj hσ hvis'
   refine⟨u,ru,?_⟩
   rcases look with ⟨z,_⟩|⟨_,c,hcl,hcv⟩
   .rcases hk with y'|y'<;>rw[y']at z<;>cases z
   .refine .inr ⟨?_,c,?_,?_⟩
    .rcases hvis with z|z|z
     .exfalso
      obtain⟨k,hl,e⟩:=Jl z
      rw[hfree]at hl;cases hl
      rcases e with e|e
      .cases e
      .cases e.2
     .exact .inl z
     .exact .inr z
    .obtain⟨c',hc'⟩:=Xz.mp (Wi (acc:=[]) hs hmm)
     have:=cl_of hc'
     rw[hcl]at this;cases this
     exact(jgs (nocell hfree)).trans hc'
    .obtain⟨o,e,d⟩:=hcv
     exact⟨o,old _ _ e,d⟩
  cell:=λx c h=>by
   rcases cellD h with ⟨q,_⟩|q
   .exact⟨_,(okl.empty x c q).1⟩
   .obtain⟨v,o,e,d⟩:=I2.cell x c q
    exact⟨v,o,old _ _ e,d⟩
  free:=by show upd H2 Dd (.lst []) C=af;rw[jd (P0 hDlt)];exact hC0
  freeC:=λx c h=>by
   rcases cellD h with ⟨_,z⟩|q
   .rw[jd (P0 (ph hDlt (S6 z)))];exact I2.hok.fresh (by rw[hDd];exact f7 (ph hDlt (S6 z)))
   .rw[jd (Xa (celllt x c q))];exact I2.freeC x c q
  pin:=λp hp=>by
   rw[Xy]at hp
   obtain⟨h1,h2,h3,h4,h5⟩:=I2.pin p hp
   have hlt:=pinlt p hp
   refine⟨old _ _ h1,by rw[jd (Xa hlt)];exact h2,Xa (ph hlt hDlt),λz=>?_,h5⟩
   rcases xq.mp (I2.stkSub _ z)with y|y
   .exact h3 y
   .exact h4 y
  hok:=hpush
  len:=by rw[Ub];exact I2.len }
 have go:=hk C Dd h₁ okc I0 rfl hDlt hD0 old;exact⟨rfl,codeAny_compStart_list go (T.self _ 0 _ _ _ (T.keep _ _ _ st2 (λb _ o e=>old b o e)) go)⟩
def Ld{J:It}{fp:List ai}{it:ai}{tn:Nat->aH->Prop}(I2:Inv X pins σ H2 s2)(R2:Rep X.K ρ σ H2)(T:Turn X.prog X.w X.K tg J fp it tn)(st2:tn 0 s2.heap)(f2:∀b∈fp,v6 X pins H2 b)
  (ok:Ze X.K (del H2 (owns ρ)) J ds) (hc:X.calm=ae) (hkind:scope.kind=.function) (hok:v7 scope X.env X.N cs=ae) (hcs:∀j∈cs,ρ[j]?=a8 .un) (hsz:ds.length<=aw)
  (hb:∀C s H fp pn,∀d∈ds,∃ρ2,DG (cCx X scope C s H fp pn) ρ tg d ρ2/\Wk ρ2 ρ/\owns ρ2=owns ρ/\DTs (cCx X scope C s H fp pn) ρ2 ifs (p d)/\(p d=ae->DE (cCx X scope C s H fp pn) ρ2 elt (g d)))
  {E:k8w} {RR:aj->ai->f6->aq->Prop}
  (hRR:∀D C xs H' s' m,Inv X pins σ H' s'->j0 H2 H'->H2 D=af->H' D=a8 (.lst xs)->j4 X.K (del H' (D::owns ρ)) ((ds.filter p).map g) xs->s'.heap.Ns C m->Loose X pins H' C->RR (.ref D) C (.ok .next) s') :
  av (aC X.prog X.w) X.A (lQ []) (λacc s₃=>av (aC X.prog X.w) X.A (eK scope X.env.globals (zb X.env scope.names []) [] X.env.qual af .none (a8 X.env)) (λcenv s₄ =>
   bY (aC X.prog X.w) X.A (.compStart (.ListComp elt [⟨tg,iter,ifs,0⟩] scope pos) 0 (.ref it) acc { cenv with scope:=ka scope X.env }) (RR acc cenv.locals) s₄) E s₃) E s2:=by
 refine thn (j0c (RR:=RR) I2 T st2 f2 hkind hok λC Dd h₁ okc I0 hDd hDlt hD0 old=>?_) λacc s₃ h=>thn h λcenv s₄ h=>h.2;have hDlt:@LT.lt Nat _ Dd C:=hDlt;have pinlt:∀p∈X.pn++pins,p.1<Dd:=λp hp=>by rw[<-hDd];exact xx (I2.pin p hp).1
 have celllt:∀y c,X.env.cells.lookup y=a8 c->c<Dd:=λy c h=>by obtain⟨v,o,e,_⟩:=I2.cell y c h;rw[<-hDd];exact xx e
 have loclt:X.env.locals<Dd:=by rw[<-hDd];exact I2.lt
 have fplt:∀b∈fp,b<Dd:=λb hb=>by obtain⟨o,e,_⟩:=T.obj _ _ st2 b hb;rw[<-hDd];exact xx e
 have hDo:Dd∉owns ρ:=R2.fresh hD0;have fpok:∀{H':Hp},(∀b∈fp,H' b=af)->∀b∈fp,v6 (cCx X scope C s2 H2 fp (X.pn++pins)) [] H' b:=λ{H'} hn b hb =>⟨hn b hb,(okc.exf b hb).1,okc.exfs b hb,.inl hb,(okc.exf b hb).2,λp hp=>by rw[Xy]at hp;exact(f2 b hb).2.2.2.2.2 p hp⟩
 have R0:Rep X.K ρ (mask cs σ) H2:=R2.weaken (Ub _ _) λj hj=>Oj λz=>hj (hcs j z);have e0:del (upd H2 Dd (.lst [])) [Dd]=H2:=by
  rw[Zg (xg.mpr rfl)]
  funext b
  by_cases z:b∈[Dd]
  .rw[qp z,xg.mp z,hD0]
  .exact j7 z
 have loop:∀s₃:aq,s₃={ s2 with heap:=h₁ } ->
   bY (aC X.prog X.w) X.A (.compLoop (.ListComp elt [⟨tg,iter,ifs,0⟩] scope pos) 0 (.ref it) (.ref Dd) (kH scope (aT (C+1) scope.names (zb X.env scope.names [])) C X.env)) (RR (.ref Dd) C) s₃:=by
  rintro s₃ rfl;refine Rx (λn s=>∃i σ' H' ys,Inv (cCx X scope C s2 H2 fp (X.pn++pins)) [] σ' H' s/\tn i s.heap/\(∀b∈fp,H' b=af)/\i<=ds.length/\n=ds.length-i/\Rep X.K ρ σ' (del H' [Dd])/\j0 H2 (del H' [Dd])/\H' Dd=a8 (.lst ys) /\
   j4 X.K (del H' (Dd::owns ρ)) (((ds.take i).filter p).map g) ys) ?_ ds.length
   ⟨0,mask cs σ,upd H2 Dd (.lst []),[],I0,T.keep _ _ _ st2 (λb _ o e=>old b o e),λb hb=>by rw[jd (Xa (fplt b hb))];exact(f2 b hb).1,Xw _,rfl,by rw[e0];exact R0,by rw[e0];exact j0.refl _,jb,rfl⟩
  rintro n s3 ⟨i,σ3,H3,ys,I3,st3,fr3,hle,rfl,R3,g3,m3,en3⟩;have F3:j0 (del H2 (owns ρ)) (del H3 (Dd::owns ρ)):=by
   have:del H3 (Dd::owns ρ)=del (del H3 [Dd]) (owns ρ):=by rw[Jy];rfl
   rw[this];exact jf g3
  obtain⟨go,stop,yld⟩:=ok i H3 (Dd::owns ρ) F3 λa ha=>by
   rcases xq.mp ha with e|ha
   .rw[e,m3];simp
   .obtain⟨xs,e⟩:=R3.owned a ha;rw[(of_del e).2];simp
  by_cases hlt:i<ds.length
  .refine thn (T.item (cCx X scope C s2 H2 fp (X.pn++pins)) rfl rfl rfl hc i [] s3 σ3 H3 (λ_ _=>False) I3 (fpok fr3) st3 (go hlt)) λr s4 ⟨u,hr,h4⟩=>?_;subst hr;refine thn h4 λ_ s5 ⟨x,H5,I5,r5,y5,st5,fr5⟩=>?_;obtain⟨g5,en5⟩:=yld x H5 y5;have hd:ds[i]?=a8 ds[i]:=kh hlt;obtain⟨ρ2,⟨sub,hG⟩,wk,eo,hT,hE⟩:=hb C s2 H2 fp (X.pn++pins) ds[i] (Xo hlt);have m5:H5 Dd=a8 (.lst ys):=g5 _ _ m3;have hA:∀a∈[Dd],Hd (H5 a):=λa ha=>.inl ⟨ys,by rw[xg.mp ha];exact m5⟩;have I5p:=I5.pinned (fpok fr5) (T.obj _ _ st5);have I5h:=I5p.hide hA;have R5:Rep X.K ρ σ3 (del H5 [Dd]):=R3.grow (jf g5);have en5':Enc X.K (del (del H5 [Dd]) (owns ρ)) ds[i] x:=by rw[Jy];exact en5 _ hd
   refine thn (hG σ3 (del H5 [Dd]) x (λσ6 F6=>F6=del H5 [Dd]/\Rep X.K ρ2 σ6 F6) R5 en5' (λσ6 R6=>⟨rfl,R6⟩) _ s5 u I5h r5) λ_ s6 ⟨σ6,F6,I6,e6,R6⟩=>?_;subst e6;refine thn (hT.run I6 R6) λokv s7 ⟨e7,F7,I7,g7⟩=>?_;subst e7;have R7:Rep X.K ρ σ6 F7:=wk _ _ _ (R6.grow g7);have g27:j0 H2 F7:=g3.trans ((jf g5).trans g7);have en7:j4 X.K (del F7 (owns ρ)) (((ds.take i).filter p).map g) ys:=en3.mono (by
    have:del H3 (Dd::owns ρ)=del (del H3 [Dd]) (owns ρ):=by rw[Jy];rfl
    rw[this];exact jf ((jf g5).trans g7))
   have jS:∀{F:Hp}{s':aq},Inv (cCx X scope C s2 H2 fp (X.pn++pins)) ([]++Qy fp s5.heap) σ6 F s'->Inv (cCx X scope C s2 H2 fp (X.pn++pins)) [] σ6 F s'/\tn (i+1) s'.heap/\∀b∈fp,F b=af:=λ{F s'} I=>by refine⟨I.unpinned,T.keep _ _ _ st5 λb hb o e=>(I.pin (b,o) (Xb _ (Xb _ (Jk hb e)))).1,λb hb=>?_⟩;obtain⟨o,e,d⟩:=T.obj _ _ st5 b hb;exact(I.pin (b,o) (Xb _ (Xb _ (Jk hb e)))).2.1
   have tk:ds.take (i+1)=ds.take i++[ds[i]]:=by rw[d7,hd];rfl
   cases hp:p ds[i] with
   |false =>
    rw[if_neg xj];obtain⟨hF,I8⟩:=I5p.unhide hA I7;obtain⟨I9,st9,fr9⟩:=jS I8;refine⟨ds.length-(i+1),by omega,i+1,σ6,_,ys,I9,st9,fr9,hlt,rfl,by rw[V6 hF];exact R7,by rw[V6 hF];exact g27,by rw[vz (xg.mpr rfl)];exact m5,?_⟩;have:del (mrg [Dd] H5 F7) (Dd::owns ρ)=del F7 (owns ρ):=by
     have e:del (mrg [Dd] H5 F7) (Dd::owns ρ)=del (del (mrg [Dd] H5 F7) [Dd]) (owns ρ):=by rw[Jy];rfl
     rw[e,V6 hF]
    rw[this,tk,fW];have e:[ds[i]].filter p=[]:=by simp[hp]
    rw[e,Xy];exact en7
   |true =>
    rw[if_pos rfl];refine thn (hE hp σ6 F7 (λv F8=>j0 F7 F8/\Enc X.K (del F8 (owns ρ2)) (g ds[i]) v) (R6.grow g7) (λv F8 g8 e8=>⟨g8,e8⟩) _ s7 I7) λy s8 ⟨v,F8,I8,r8,g8,e8⟩=>?_;obtain⟨hF,I8'⟩:=I5p.unhide hA I8;rw[eo]at e8;have eH:del (mrg [Dd] H5 F8) (Dd::owns ρ)=del F8 (owns ρ):=by
     have e:del (mrg [Dd] H5 F8) (Dd::owns ρ)=del (del (mrg [Dd] H5 F8) [Dd]) (owns ρ):=by rw[Jy];rfl
     rw[e,V6 hF]
    have hlen:ys.length<aw:=by have e1:=en7.length;have e2:((ds.take i).filter p).length<=(ds.take i).length:=Td _ _;rw[xf]at e1;rw[Py]at e2;omega
    refine thn (Ra _ s8 σ6 (mrg [Dd] H5 F8) (.ref Dd) [v] (.ref Dd) [y] (λ_ H9=>H9=upd (mrg [Dd] H5 F8) Dd (.lst (ys++[v]))) I8' rfl (.cons r8 .nil)
     ⟨Dd,ys,v,rfl,rfl,by rw[vz (xg.mpr rfl)];exact m5,hlen,rfl⟩) λ_ s9 ⟨_,H9,I9,_,e9⟩=>?_
    subst e9;obtain⟨I10,st10,fr10⟩:=jS I9;have ed:del (upd (mrg [Dd] H5 F8) Dd (.lst (ys++[v]))) [Dd]=F8:=by rw[Zg (xg.mpr rfl),V6 hF]
    refine⟨ds.length-(i+1),by omega,i+1,σ6,_,ys++[v],I10,st10,fr10,hlt,rfl,by rw[ed];exact R7.grow g8,by rw[ed];exact g27.trans g8,jb,?_⟩;rw[Zg (xr ..),eH,tk,fW,Xu];have e:[ds[i]].filter p=[ds[i]]:=by simp[hp]
    rw[e];exact(en7.mono (jf g8)).append (.one e8)
  .have hi:i=ds.length:=by omega
   subst hi;refine thn (T.done (cCx X scope C s2 H2 fp (X.pn++pins)) rfl rfl rfl hc ds.length [] s3 σ3 H3 (λ_ _=>False) I3 (fpok fr3) st3 (stop (xu _))) λr s4 ⟨hr,I4⟩=>?_;subst hr;rw[Tj]at en3;obtain⟨m,hm,_⟩:=I4.loc;refine hRR Dd C ys H3 s4 m ?_ (g3.trans je) hD0 m3 en3 hm ⟨I4.free,P0 (ph loclt hDlt),?_,λx c h=>Xa (ph (celllt x c h) hDlt),λp hp=>Xa (ph (pinlt p hp) hDlt)⟩
   .exact I2.call' (ch:=fp) I4.os I4.base I4.hok I4.bare λb hb=>⟨(f2 b hb).2.2.2.1,(f2 b hb).2.1,(f2 b hb).2.2.2.2.1,(f2 b hb).2.2.2.2.2⟩
   .have:=I2.sz;omega
 exact loop _ rfl
end
section
variable{X:Cx}{ρ:Rho}{tg elt iter:au}{ifs:List au}{scope:bH}{pos p1 spos:aO}{ds:List D}{cs:List Nat}{p:D->Bool}{g:D->D}{x:ar}{P:Po}
def Uh{env:dO}{N:List ar}(h:v7 scope env N cs=ae):∀y∈scope.names,y.2=.free->(env.cells.lookup y.1).isSome=ae:=λy hy e=>by unfold v7 at h;rw[Xg]at h;have:=T6.mp h.1 y hy;simp only[Xg,bne_iff_ne,ne_eq,Tw]at this;exact this.2.elim (λz=>absurd e z) λz=>z.1
def Yr{env:dO}{N:List ar}(h:v7 scope env N cs=ae):∀y∈scope.names,y.2=.local->scope.names.lookup y.1=a8 .local:=λy hy e=>by unfold v7 at h;rw[Xg]at h;have:=T6.mp h.1 y hy;simp only[Xg,bne_iff_ne,ne_eq,Tw,beq_iff_eq]at this;exact this.1.2.elim (λz=>absurd e z) λz=>z
def Inv.loose{pins:k8x}{σ:St}{H:Hp}{s:aq}{C:ai}{h':aH}(I:Inv X pins σ H s)(L:Loose X pins H C)(sb:d5 C s.heap h'):Inv X pins σ H { s with heap:=h' } :=
 I.turned (t':=s.toks) (λb o hb e=>sb.extBut b o hb e) L.free L.loc (.inr L.new) L.cell L.pin
def DO.comp(cs:List Nat)(p:D->Bool)(g:D->D)(hi:DI X ρ tg iter ds)
  (hb:∀C s H fp pn,∀d∈ds,∃ρ2,DG (cCx X scope C s H fp pn) ρ tg d ρ2/\Wk ρ2 ρ/\owns ρ2=owns ρ/\DTs (cCx X scope C s H fp pn) ρ2 ifs (p d)/\(p d=ae->DE (cCx X scope C s H fp pn) ρ2 elt (g d)))
  (hcs:∀j∈cs,ρ[j]?=a8 .un) (hsz:ds.length<=aw) (hc:X.calm=ae:=by rfl) (hkind:scope.kind=.function:=by rfl) (hok:v7 scope X.env X.N cs=ae:=by rfl)
  (hs:∀x,aI iter X.env x=pure x:=by intro _;rfl):DO X ρ (.ListComp elt [⟨tg,iter,ifs,0⟩] scope pos) ((ds.filter p).map g):=λσ H Q R q pins s I=>by
 rw[o8];refine eY (use:=af) rfl hs (Wh (Uh hok)) hkind (Yr hok) (thn (hi σ H (λJ H'=>j0 H H'/\Ze X.K (del H' (owns ρ)) J ds) R (λJ H' g1 ok=>⟨g1,ok⟩) pins s I) λv s1 h1=>thn h1 λitv s2 h2=>?_);obtain⟨it,fp,tn,J,H2,e,I2,T,st2,f2,g2,ok⟩:=h2;subst e;refine Ld (RR:=λacc C=>nX (aC X.prog X.w) X.A X.xe af (EP X pins σ Q) acc C) I2 (R.grow g2) T st2 f2 ok hc hkind hok hcs hsz hb ?_;intro D C xs H' s' m I' gg n m' en hm L;exact⟨m,hm,λh' sb=>⟨.ref D,H',I'.loose L sb,rfl,q D xs H' (g2.trans gg) (g2.free n) m' en⟩⟩
theorem Wk.set{i:Nat}{d:D}(h:ρ[i]?=a8 .un):Wk (ρ.set i (.val d)) ρ:=λK σ H R=>by
 have q:=R.set_un (i:=i) (v:=(σ[i]?).join);have e:σ.set i ((σ[i]?).join)=σ:=by
  apply de;intro j;rw[gy];split
  .rename_i h;subst h;split
   .rename_i h;rw[kh h];rfl
   .rename_i h;rw[Pj (by omega)]
  .rfl
 have e2:(ρ.set i (.val d)).set i .un=ρ:=by
  rw[iS];apply de;intro j;rw[gy];split
  .rename_i z;subst z;split
   .rw[h]
   .rename_i z;rw[Pj (by omega)]at h;cases h
  .rfl
 rw[e,e2]at q;exact q
def Z0{i:Nat}{d:D}(h:ρ[i]?=a8 .un):owns (ρ.set i (.val d))=owns ρ:=O1 rfl λa l z=>by rw[h]at z;cases z
end
section
variable{prog:az}{w:aE}{A:aF}{E:k8w}{s:aq}
def j3d{j t:ai}{k:Nat}{its:Array aj}{y:aj}{Q:k8w}(hj:s.heap.IsTupleIter j t k)(ht:s.heap.IsTuple t its)(hy:its[k]?=a8 y)
  (q:∀h',h'.IsTupleIter j t (k+1)->d5 j s.heap h'->Q y { s with heap:=h' }):av (aC prog w) A (aL (.ref j)) Q E s:=by
 obtain⟨o,ho,hc,hd⟩:=id hj;obtain⟨ot,hot,_,m,hdt⟩:=ht;unfold aL;refine a9 (b9 (name:=aQ "__next__") hj.typeIs cK (b7 cK hj.typeIs iG ?_ (iw _)));show av _ _ (jP (.ref j) 0 >>= _) _ _ s;refine a9 (bo ho hd (x:=.ref t) rfl ?_);show av _ _ (if (aK t==b8)=ae then _ else _) _ _ s;rw[if_neg (show ¬((aK t==b8)=ae)from xj)];show av _ _ (jP (.ref j) 1 >>= _) _ _ s;refine a9 (bo ho hd (x:=.int k 0) rfl ?_);show av _ _ (dD (.ref t) >>= _) _ _ s;refine a9 (aS hot hdt ?_);simp only[X8,hy];refine a9 (gc ho hd (by simp) (ak ⟨y,rfl,ak (q _ ?_ (Ph ..))⟩));exact⟨_,dn _ ho (Obj.isFreed_of_fields (jZ hd _)),(Obj.cls_mapFields ..).trans hc,by rw[jZ hd];simp[eZ]⟩
def j5e{j t:ai}{k:Nat}{its:Array aj}{Q:k8w}(hh:A.handled=af)(hj:s.heap.IsTupleIter j t k)(ht:s.heap.IsTuple t its)(hy:its[k]?=af)
  (q:∀h' x,fB j s.heap h'->(∃o,h'.get? x=a8 o/\o.cls=.type "StopIteration")->E (.ref x) { s with heap:=h' }):av (aC prog w) A (aL (.ref j)) Q E s:=by
 obtain⟨o,ho,hc,hd⟩:=id hj;obtain⟨ot,hot,_,m,hdt⟩:=ht;unfold aL;refine a9 (b9 (name:=aQ "__next__") hj.typeIs cK (b7 cK hj.typeIs iG ?_ (iw _)));show av _ _ (jP (.ref j) 0 >>= _) _ _ s;refine a9 (bo ho hd (x:=.ref t) rfl ?_);show av _ _ (if (aK t==b8)=ae then _ else _) _ _ s;rw[if_neg (show ¬((aK t==b8)=ae)from xj)];show av _ _ (jP (.ref j) 1 >>= _) _ _ s;refine a9 (bo ho hd (x:=.int k 0) rfl ?_);show av _ _ (dD (.ref t) >>= _) _ _ s;refine a9 (aS hot hdt ?_);simp only[X8,hy];refine a9 (iX (a9 (gc ho hd (by simp) ?_)));show av _ _ (nU (.type "StopIteration") [] >>= _) _ _ _;refine a9 ?_;simp only[nU,newTuple];refine a9 (bf ?_ (by size_fits));refine a9 (m:=gk _ _) (gf (a:=b8) (by first|rfl|(simp only[gk];rfl)) ?_);refine bf ?_ (by size_fits);simp only[raiseNew];refine a9 (o6 ?_)
 first|rw[show A.in1.handled=af from hh]|rw[hh]
 refine a9 (ak (wpAny_throw ?_));exact q _ _ (((Ph ..).extBut.push _).push _) ⟨_,X3 _ rfl,rfl⟩
end
def jk(lst:Bool)(h:aH)(j t:ai)(k:Nat):Prop:=if lst=ae then h.IsListIter j t k else h.IsTupleIter j t k
def jj(lst:Bool)(h:aH)(t:ai)(its:Array aj):Prop:=if lst=ae then h.IsList t its else h.IsTuple t its
section
variable{prog:az}{w:aE}{A:aF}{E:k8w}{s:aq}{lst:Bool}{h h':aH}{j t b:ai}{k:Nat}{its:Array aj}
def jk.ext(x:jk lst h j t k)(e:fB b h h')(n:j≠b):jk lst h' j t k:=by
 unfold jk at x ⊢;cases lst with
 |true=>rw[if_pos rfl]at x ⊢;exact x.extBut e n
 |false=>rw[if_neg xj]at x ⊢;exact x.extBut e n
def jk.stay(x:jk lst h j t k)(e:∀o,h.get? j=a8 o->h'.get? j=a8 o):jk lst h' j t k:=by
 unfold jk at x ⊢;cases lst with
 |true=>rw[if_pos rfl]at x ⊢;exact x.at e
 |false=>rw[if_neg xj]at x ⊢;exact x.at e
def jk.obj(x:jk lst h j t k):∃o,h.get? j=a8 o/\∀v,o.data≠.cell v:=by
 unfold jk at x;cases lst with
 |true=>rw[if_pos rfl]at x;obtain⟨o,e,c,d⟩:=x;exact⟨o,e,λv z=>by rw[d]at z;cases z⟩
 |false=>rw[if_neg xj]at x;obtain⟨o,e,c,d⟩:=x;exact⟨o,e,λv z=>by rw[d]at z;cases z⟩
def jj.ext(x:jj lst h t its)(e:fB b h h')(n:t≠b):jj lst h' t its:=by
 unfold jj at x ⊢;cases lst with
 |true=>rw[if_pos rfl]at x ⊢;exact x.extBut e n
 |false=>rw[if_neg xj]at x ⊢;exact x.extBut e n
def Yw{y:aj}{Q:k8w}(hj:jk lst s.heap j t k)(ht:jj lst s.heap t its)(hy:its[k]?=a8 y)
  (q:∀h',jk lst h' j t (k+1)->d5 j s.heap h'->Q y { s with heap:=h' }):av (aC prog w) A (aL (.ref j)) Q E s:=by
 unfold jk at hj q;unfold jj at ht;cases lst with
 |true=>rw[if_pos rfl]at hj ht;simp only[if_true]at q;exact wpAny_nextOf_list_item hj ht hy q
 |false=>rw[if_neg xj]at hj ht;simp only[Xr,if_false]at q;exact j3d hj ht hy q
def Uy{Q:k8w}(hh:A.handled=af)(hj:jk lst s.heap j t k)(ht:jj lst s.heap t its)(hy:its[k]?=af)
  (q:∀h' x,fB j s.heap h'->(∃o,h'.get? x=a8 o/\o.cls=.type "StopIteration")->E (.ref x) { s with heap:=h' }):av (aC prog w) A (aL (.ref j)) Q E s:=by
 unfold jk at hj;unfold jj at ht;cases lst with
 |true=>rw[if_pos rfl]at hj ht;exact wpAny_nextOf_list_end hh hj ht hy q
 |false=>rw[if_neg xj]at hj ht;exact j5e hh hj ht hy q
end
section
variable{prog:az}{w:aE}{A:aF}{E:k8w}{s:aq}{l1 l2:Bool}{z TI TO i1 i2 t1 t2:ai}{k:Nat}{us vs:Array aj}{x y a b:aj}
def j3t{Q:k8w}(D:iZ z TI TO i1 i2 t1 t2)(hz:fw s.heap z TI TO .none)(hTI:cE s.heap TI (.ref i1) (.ref i2))(hTO:cE s.heap TO a b)
  (h1:jk l1 s.heap i1 t1 k) (h2:jk l2 s.heap i2 t2 k) (q1:jj l1 s.heap t1 us) (q2:jj l2 s.heap t2 vs) (hx:us[k]?=a8 x) (hy:vs[k]?=a8 y)
  (q:∀h',fw h' z TI TO (eZ s.heap.objs.size)->cE h' TO x y->jk l1 h' i1 t1 (k+1)->jk l2 h' i2 t2 (k+1)->cE h' s.heap.objs.size x y->h'.objs.size=s.heap.objs.size+1 ->
   (∀c o,c≠z->c≠TO->c≠i1->c≠i2->s.heap.get? c=a8 o->h'.get? c=a8 o)->Q (.ref s.heap.objs.size) { s with heap:=h' }) :
  av (aC prog w) A (cS.«zip.__next__» ⟨[.ref z],[]⟩) (λfin s'=>∃v,fin=.done (.ret v)/\Q v s') E s:=by
 show av _ _ (jP (.ref z) 2 >>= _) _ _ _;refine a9 (bo hz rfl (x:=.bool aa) rfl ?_);show av _ _ (jP (.ref z) 3 >>= _) _ _ _;refine a9 (bo hz rfl (x:=.ref TI) rfl (a9 (aS hTI rfl ?_)));show av _ _ (bD (.ref z) >>= _) _ _ _;refine a9 ?_;unfold bD;refine a9 (bo hz rfl (x:=.none) rfl (ak ?_));simp only[if_true];refine a9 (iX (a9 (bo hz rfl (x:=.ref TO) rfl (a9 (cf hz (by simp) λg₁ z₁ s₁=>?_)))));have z₁:fw g₁ z TI TO .ellipsis:=z₁;refine a9 ?_;simp only[kq,kO,ff,fE];refine a9 (a9 (gR ?_));show av _ _ (aL (.ref i1) >>= _) _ _ _;refine a9 (Yw (h1.ext s₁.extBut D.i1z) (q1.ext s₁.extBut D.l1z) hx λg₂ h1₂ s₂=>ak ?_);have o₂:cE g₂ TO a b:=s₂.extBut _ _ D.TOi1 (s₁.extBut _ _ D.TOz hTO);refine a9 (aS o₂ rfl (a9 (gb o₂ λg₃ o₃ s₃=>?_)));have o₃:cE g₃ TO x b:=o₃;refine a9 (bJ (ak (a9 (a9 (gR ?_)))));show av _ _ (aL (.ref i2) >>= _) _ _ _;refine a9 (Yw (((h2.ext s₁.extBut D.i2z).ext s₂.extBut D.i12.symm).ext s₃.extBut D.TOi2.symm) (((q2.ext s₁.extBut D.l2z).ext s₂.extBut D.l2i1).ext s₃.extBut D.l2TO) hy λg₄ h2₄ s₄=>ak ?_);have o₄:cE g₄ TO x b:=s₄.extBut _ _ D.TOi2 o₃;refine a9 (aS o₄ rfl (a9 (gb o₄ λg₅ o₅ s₅=>?_)));have o₅:cE g₅ TO x y:=o₅;refine a9 (bJ (ak (ak (a9 (aS o₅ rfl (a9 (wpAny_newTuple ?_)))))));have sz:g₅.objs.size=s.heap.objs.size:=by rw[s₅.1,s₄.1,s₃.1,s₂.1,s₁.1]
 have z₅:fw g₅ z TI TO .ellipsis:=s₅.extBut _ _ D.TOz.symm (s₄.extBut _ _ D.i2z.symm (s₃.extBut _ _ D.TOz.symm (s₂.extBut _ _ D.i1z.symm z₁)));have kp:∀c o,c≠z->c≠TO->c≠i1->c≠i2->s.heap.get? c=a8 o->g₅.get? c=a8 o:=λc o n1 n2 n3 n4 e=>s₅.extBut _ _ n2 (s₄.extBut _ _ n4 (s₃.extBut _ _ n2 (s₂.extBut _ _ n3 (s₁.extBut _ _ n1 e))));have h1₅:jk l1 g₅ i1 t1 (k+1):=((h1₂.ext s₃.extBut D.TOi1.symm).ext s₄.extBut D.i12).ext s₅.extBut D.TOi1.symm;have h2₅:jk l2 g₅ i2 t2 (k+1):=h2₄.ext s₅.extBut D.TOi2.symm;have zlt:z<g₅.objs.size:=xx z₅;show av _ _ (dN (.ref z) (.ref g₅.objs.size) >>= _) _ _ _;refine a9 ?_;unfold dN;have z₆:fw (g₅.push { cls:=.type "tuple",data:=.seq #[x,y] }) z TI TO .ellipsis:=kj _ z₅;refine a9 (cf z₆ (by simp) λg₇ z₇ s₇=>?_);have z₇:fw g₇ z TI TO (eZ g₅.objs.size):=z₇;refine cf z₇ (by simp) λg₈ z₈ s₈=>?_;have z₈:fw g₈ z TI TO (eZ g₅.objs.size):=z₈;have up:∀c o,c≠z->g₅.get? c=a8 o->g₈.get? c=a8 o:=λc o n e=>s₈.extBut _ _ n (s₇.extBut _ _ n (kj _ e));have p₈:cE g₈ g₅.objs.size x y:=s₈.extBut _ _ (P0 zlt) (s₇.extBut _ _ (P0 zlt) (X3 _ rfl));have e₈:g₈.objs.size=g₅.objs.size+1:=by rw[s₈.1,s₇.1,Pa]
 rw[sz]at z₈ p₈ e₈;refine ak ⟨_,rfl,?_⟩;show Q (.ref g₅.objs.size) _;rw[sz];exact q g₈ z₈ (up _ _ D.TOz o₅) (h1₅.stay λo e=>up _ o D.i1z e) (h2₅.stay λo e=>up _ o D.i2z e) p₈ e₈ λc o n1 n2 n3 n4 e=>up c o n1 (kp c o n1 n2 n3 n4 e)
def j69{Q:nI->aq->Prop}(hh:A.handled=af)(D:iZ z TI TO i1 i2 t1 t2)(hz:fw s.heap z TI TO .none)(hTI:cE s.heap TI (.ref i1) (.ref i2))(hTO:cE s.heap TO a b)
  (h1:jk l1 s.heap i1 t1 k) (h2:jk l2 s.heap i2 t2 k) (q1:jj l1 s.heap t1 us) (q2:jj l2 s.heap t2 vs) (hend:us[k]?=af\/vs[k]?=af)
  (q:∀h' e,(∀c o,c≠z->c≠TO->c≠i1->c≠i2->s.heap.get? c=a8 o->h'.get? c=a8 o)->(∃o,h'.get? e=a8 o/\o.cls=.type "StopIteration")->E (.ref e) { s with heap:=h' }) :
  av (aC prog w) A (cS.«zip.__next__» ⟨[.ref z],[]⟩) Q E s:=by
 show av _ _ (jP (.ref z) 2 >>= _) _ _ _;refine a9 (bo hz rfl (x:=.bool aa) rfl ?_);show av _ _ (jP (.ref z) 3 >>= _) _ _ _;refine a9 (bo hz rfl (x:=.ref TI) rfl (a9 (aS hTI rfl ?_)));show av _ _ (bD (.ref z) >>= _) _ _ _;refine a9 ?_;unfold bD;refine a9 (bo hz rfl (x:=.none) rfl (ak ?_));simp only[if_true];refine a9 (iX (a9 (bo hz rfl (x:=.ref TO) rfl (a9 (cf hz (by simp) λg₁ z₁ s₁=>?_)))));have z₁:fw g₁ z TI TO .ellipsis:=z₁;refine a9 ?_;simp only[kq,kO,ff,fE];refine a9 (a9 (gR ?_));show av _ _ (aL (.ref i1) >>= _) _ _ _;cases hx:us[k]? with
 |none =>
  refine a9 (Uy hh (h1.ext s₁.extBut D.i1z) (q1.ext s₁.extBut D.l1z) hx λg₂ e s₂ he=>?_);obtain⟨oe,hoe,hce⟩:=he;have z₂:fw g₂ z TI TO .ellipsis:=s₂ _ _ D.i1z.symm z₁;have ez:e≠z:=λx=>by subst x;rw[z₂]at hoe;cases hoe;simp at hce
  exact cf z₂ (by simp) λg₃ _ s₃=>q g₃ e (λc o n1 _ n3 _ x=>s₃.extBut _ _ n1 (s₂ _ _ n3 (s₁.extBut _ _ n1 x))) ⟨oe,s₃.extBut _ _ ez hoe,hce⟩
 |some x =>
  have hy:vs[k]?=af:=by rcases hend with h|h;rw[hx]at h;cases h;exact h
  refine a9 (Yw (h1.ext s₁.extBut D.i1z) (q1.ext s₁.extBut D.l1z) hx λg₂ h1₂ s₂=>ak ?_);have o₂:cE g₂ TO a b:=s₂.extBut _ _ D.TOi1 (s₁.extBut _ _ D.TOz hTO);refine a9 (aS o₂ rfl (a9 (gb o₂ λg₃ o₃ s₃=>?_)));refine a9 (bJ (ak (a9 (a9 (gR ?_)))));show av _ _ (aL (.ref i2) >>= _) _ _ _;refine a9 (Uy hh (((h2.ext s₁.extBut D.i2z).ext s₂.extBut D.i12.symm).ext s₃.extBut D.TOi2.symm) (((q2.ext s₁.extBut D.l2z).ext s₂.extBut D.l2i1).ext s₃.extBut D.l2TO) hy λg₄ e s₄ he=>?_);obtain⟨oe,hoe,hce⟩:=he;have z₄:fw g₄ z TI TO .ellipsis:=s₄ _ _ D.i2z.symm (s₃.extBut _ _ D.TOz.symm (s₂.extBut _ _ D.i1z.symm z₁));have ez:e≠z:=λx=>by subst x;rw[z₄]at hoe;cases hoe;simp at hce
  exact cf z₄ (by simp) λg₅ _ s₅=>q g₅ e (λc o n1 n2 n3 n4 x=>s₅.extBut _ _ n1 (s₄ _ _ n4 (s₃.extBut _ _ n2 (s₂.extBut _ _ n3 (s₁.extBut _ _ n1 x))))) ⟨oe,s₅.extBut _ _ ez hoe,hce⟩
def Ej{Q:Option aj->aq->Prop}(D:iZ z TI TO i1 i2 t1 t2)(hz:fw s.heap z TI TO .none)(hTI:cE s.heap TI (.ref i1) (.ref i2))(hTO:cE s.heap TO a b)
  (h1:jk l1 s.heap i1 t1 k) (h2:jk l2 s.heap i2 t2 k) (q1:jj l1 s.heap t1 us) (q2:jj l2 s.heap t2 vs) (hx:us[k]?=a8 x) (hy:vs[k]?=a8 y)
  (q:∀h',fw h' z TI TO (eZ s.heap.objs.size)->cE h' TO x y->jk l1 h' i1 t1 (k+1)->jk l2 h' i2 t2 (k+1)->cE h' s.heap.objs.size x y->h'.objs.size=s.heap.objs.size+1 ->
   (∀c o,c≠z->c≠TO->c≠i1->c≠i2->s.heap.get? c=a8 o->h'.get? c=a8 o)->Q (a8 (.ref s.heap.objs.size)) { s with heap:=h' }):av (aC prog w) A (cD (.ref z)) Q E s:=by
 have T:s.TypeIs (.ref z) "zip":=⟨_,hz,rfl⟩
 unfold cD;exact a9 (gT (b9 (name:=aQ "__next__") T fC (b7 fC T lj
  (j3t D hz hTI hTO h1 h2 q1 q2 hx hy λh' a1 a2 a3 a4 a5 a6 a7=>ak (q h' a1 a2 a3 a4 a5 a6 a7)) (kY _))))
def j11{Q:Option aj->aq->Prop}(hh:A.handled=af)(D:iZ z TI TO i1 i2 t1 t2)(hz:fw s.heap z TI TO .none)(hTI:cE s.heap TI (.ref i1) (.ref i2))(hTO:cE s.heap TO a b)
  (h1:jk l1 s.heap i1 t1 k) (h2:jk l2 s.heap i2 t2 k) (q1:jj l1 s.heap t1 us) (q2:jj l2 s.heap t2 vs) (hend:us[k]?=af\/vs[k]?=af)
  (q:∀h',(∀c o,c≠z->c≠TO->c≠i1->c≠i2->s.heap.get? c=a8 o->h'.get? c=a8 o)->Q af { s with heap:=h' }):av (aC prog w) A (cD (.ref z)) Q E s:=by
 have T:s.TypeIs (.ref z) "zip":=⟨_,hz,rfl⟩
 unfold cD;refine a9 (gT (b9 (name:=aQ "__next__") T fC (b7 fC T lj
  (j69 hh D hz hTI hTO h1 h2 q1 q2 hend λh' e kp he=>?_) (kY _))))
 obtain⟨o,ho,hc⟩:=he;exact a9 (fm (T:="StopIteration") (b:=ae) ⟨o,ho,hc⟩ nV (ak (q _ kp)))
end
noncomputable def Oa(lst:Bool):String:=if lst=ae then "list_iterator" else "tuple_iterator"
noncomputable abbrev zh1(h:aH)(l1:Bool)(t1:ai):aH:=h.push { cls:=.type (Oa l1),data:=.fields #[.ref t1,.int 0 0] }
noncomputable abbrev zh2(h:aH)(l1 l2:Bool)(t1 t2:ai):aH:=(zh1 h l1 t1).push { cls:=.type (Oa l2),data:=.fields #[.ref t2,.int 0 0] }
noncomputable abbrev zh3(h:aH)(l1 l2:Bool)(t1 t2:ai):aH:=(zh2 h l1 l2 t1 t2).push { cls:=.type "tuple",data:=.seq #[.ref h.objs.size,.ref (zh1 h l1 t1).objs.size] }
noncomputable abbrev zh4(h:aH)(l1 l2:Bool)(t1 t2:ai):aH:=(zh3 h l1 l2 t1 t2).push { cls:=.type "tuple",data:=.seq #[.none,.none] }
noncomputable abbrev zh5(h:aH)(l1 l2:Bool)(t1 t2:ai):aH:=(zh4 h l1 l2 t1 t2).push { cls:=.type "zip",data:=.fields #[.none,.bool aa,.bool aa,.ref (zh2 h l1 l2 t1 t2).objs.size,.ref (zh3 h l1 l2 t1 t2).objs.size] }
section
variable{prog:az}{w:aE}{A:aF}{E:k8w}{s:aq}{l1 l2:Bool}{t1 t2:ai}{us vs:Array aj}
def Vh{lst:Bool}{t:ai}{its:Array aj}{Q:k8w}(h:jj lst s.heap t its)(q:Q (.ref s.heap.objs.size) { s with heap:=zh1 s.heap lst t }):av (aC prog w) A (iA (.ref t)) Q E s:=by
 unfold jj at h;cases lst with
 |true=>rw[if_pos rfl]at h;exact bu h q
 |false=>rw[if_neg xj]at h;exact hJ h q
theorem jj.push{lst:Bool}{h:aH}{t:ai}{its:Array aj}(x:jj lst h t its)(o:dF):jj lst (h.push o) t its:=by
 unfold jj at x ⊢;cases lst with
 |true=>rw[if_pos rfl]at x ⊢;exact x.push o
 |false=>rw[if_neg xj]at x ⊢;exact x.push o
def ja8 (t1 t2:ai) (us vs:Array aj):kK (cS.«zip.__new__» ⟨[.type "zip",.ref t1,.ref t2],[]⟩) (λ_ R s=>jj l1 s.heap t1 us/\jj l2 s.heap t2 vs /\
   R (.ok (.ret (.ref (zh4 s.heap l1 l2 t1 t2).objs.size))) { s with heap:=zh5 s.heap l1 l2 t1 t2 }) :=
 .of_wp λprog w A R s h=>by
  obtain⟨hp,g,d,tk,os⟩:=s;obtain⟨h1,h2,h⟩:=h;have hsub:=sub_zip;have e1:jj l1 (iP ⟨hp,g,d,tk,os⟩) t1 us:=h1;have e2:jj l2 (iP ⟨zh1 hp l1 t1,g,d,tk,os⟩) t2 vs:=h2.push _
  wp_walk using Vh e1,Vh e2
  exact⟨_,rfl,h⟩
end
def SqB(K:k8v)(lst:Bool)(H:Hp)(a:ai)(xs:List V):Prop:=if lst=ae then SqL K H a xs else SqT K H a xs
section
variable{X:Cx}{pins:k8x}{σ:St}{H:Hp}{s:aq}{a p:ai}{xs ys:List V}{lst:Bool}{ch:List ai}{h':aH}
def j0.seqB{K:k8v}{H':Hp}(e:j0 H H')(h:SqB K lst H a xs):SqB K lst H' a xs:=by
 unfold SqB at h ⊢;cases lst with
 |true=>rw[if_pos rfl]at h ⊢;exact e.seq h
 |false=>rw[if_neg xj]at h ⊢;exact e.seqT h
def Inv.side(I:Inv X pins σ H s)(h:SqB X.K lst H a xs):∃us:List aj,Vals xs us/\jj lst s.heap a us.toArray/\xs.length<=aw:=by
 unfold SqB at h;unfold jj;cases lst with
 |true=>rw[if_pos rfl]at h;obtain⟨its,r,q,l⟩:=I.list h;exact⟨its,r,by rw[if_pos rfl];exact q.isList,l⟩
 |false=>rw[if_neg xj]at h;obtain⟨its,r,q,l⟩:=I.tuple h;exact⟨its,r,by rw[if_neg xj];exact q,l⟩
def Inv.side_inj(I:Inv X pins σ H s)(h:SqB X.K lst H a xs)(h':SqB X.K lst H a ys):xs=ys:=by
 unfold SqB at h h';cases lst with
 |true=>rw[if_pos rfl]at h h';exact I.list_inj h h'
 |false=>rw[if_neg xj]at h h';exact I.tuple_inj h h'
def Inv.chg(I:Inv X pins σ H s)(hf:∀b∈ch,v6 X pins H b)(kp:∀c o,c∉ch->s.heap.get? c=a8 o->h'.get? c=a8 o):Inv X pins σ H { s with heap:=h' }:=by
 refine I.step (g':=s.gens) (t':=s.toks) (d':=s.drawn) (ch:=ch) (λb hb=>⟨(hf b hb).2.2.2.1,(hf b hb).2.1,(hf b hb).2.2.2.2.1,(hf b hb).2.2.2.2.2⟩) (λb o _ _ nc e _=>kp b o nc e) (λb o _ _ nc e _=>⟨o.slots,kp b o nc e⟩)
  (λb o _ _ n=>n) (λb o nc e=>⟨o,kp b o nc e⟩) (λb xs e=>e) (λb o u e=>e) (λb ps e=>⟨#[],by rw[e];simp⟩) (λm hm=>hm.at' λo e=>kp _ o (λz=>(hf _ z).2.1 rfl) e) (λc o e=>?_) I.bare
 have out:∀{b:ai}{u:HO},H b=a8 u->b∉ch:=λ{b u} q z=>by rw[(hf b z).1]at q;cases q
 refine jh.stay (I.hok c o e) (λb u hb q=>kp b u ?_ q) (λb q=>q) (λb xs q=>q) (λb _ _ q=>q);rcases hb with hb|hb
 .subst hb;exact out e
 .exact out hb
def Inv.chgT(I:Inv X pins σ H s)(hf:∀b∈ch,v6 X pins H b)(kp:∀c o,c∉ch->s.heap.get? c=a8 o->h'.get? c=a8 o){us:List aj}(rv:Vals xs us)(hl:xs.length<=aw)
  (hp:iJ h' s.heap.objs.size us.toArray) (hq:Zz h' s.heap.objs.size):Inv X pins σ (upd H s.heap.objs.size (.tup xs)) { s with heap:=h' }:=by
 have hn:=I.fresh;have nz:∀{b:ai}{o:dF},s.heap.get? b=a8 o->b≠s.heap.objs.size:=λ{b o} e=>Xa (xx e);have tr:∀{b:ai}{u:HO},H b=a8 u->upd H s.heap.objs.size (.tup xs) b=a8 u:=λ{b u} e=>by rw[jd (Jj e hn)];exact e
 refine I.step (g':=s.gens) (t':=s.toks) (d':=s.drawn) (ch:=ch) (λb hb=>⟨(hf b hb).2.2.2.1,(hf b hb).2.1,(hf b hb).2.2.2.2.1,(hf b hb).2.2.2.2.2⟩) (λb o _ _ nc e _=>kp b o nc e) (λb o _ _ nc e _=>⟨o.slots,kp b o nc e⟩)
  (λb o _ e n=>by rw[jd (nz e)];exact n) (λb o nc e=>⟨o,kp b o nc e⟩) (λb xs e=>tr e) (λb o u e=>tr e) (λb ps e=>⟨#[],by rw[tr e];simp⟩) (λm hm=>hm.at' λo e=>kp _ o (λz=>(hf _ z).2.1 rfl) e) (λc o e=>?_) I.bare
 have out:∀{b:ai}{u:HO},H b=a8 u->b∉ch:=λ{b u} q z=>by rw[(hf b z).1]at q;cases q
 by_cases z:c=s.heap.objs.size
 .subst z;rw[jb]at e;cases e;exact⟨hl,us,rv,hp,hq⟩
 .rw[jd z]at e;refine jh.stay (I.hok c o e) (λb u hb q=>kp b u ?_ q) (λb q=>tr q) (λb xs q=>tr q) (λb _ _ q=>tr q);rcases hb with hb|hb
  .subst hb;exact out e
  .exact out hb
end
noncomputable def Itz(K:k8v)(l1 l2:Bool)(t1 t2:ai):It :=
 ⟨λi H=>∃xs ys x y,SqB K l1 H t1 xs/\SqB K l2 H t2 ys/\xs[i]?=a8 x/\ys[i]?=a8 y,
 λi H v H'=>∃p x y,v=.ref p/\H p=af/\H'=upd H p (.tup [x,y])/\(∀xs,SqB K l1 H t1 xs->xs[i]?=a8 x)/\∀ys,SqB K l2 H t2 ys->ys[i]?=a8 y,
 λi H=>∃xs ys,SqB K l1 H t1 xs/\SqB K l2 H t2 ys/\(xs.length<=i\/ys.length<=i)⟩
def j6c{P:az}{w:aE}{K:k8v}{es:List au}{n:Nat}{pos:aO}{l1 l2:Bool}{z TI TO i1 i2 t1 t2:ai}(D:iZ z TI TO i1 i2 t1 t2) :
  Turn P w K (.Tuple es n pos) (Itz K l1 l2 t1 t2) [z,TI,TO,i1,i2] z (λi h=>fw h z TI TO .none/\cE h TI (.ref i1) (.ref i2)/\(∃a b,cE h TO a b)/\jk l1 h i1 t1 i/\jk l2 h i2 t2 i) where
 mem:=by simp
 obj:=λi h ⟨hz,hTI,⟨a,b,hTO⟩,h1,h2⟩ c hc=>by
  simp at hc;rcases hc with rfl|rfl|rfl|rfl|rfl
  .exact⟨_,hz,λv e=>by cases e⟩
  .exact⟨_,hTI,λv e=>by cases e⟩
  .exact⟨_,hTO,λv e=>by cases e⟩
  .exact h1.obj
  .exact h2.obj
 keep:=λi h h' ⟨hz,hTI,⟨a,b,hTO⟩,h1,h2⟩ k=>⟨k z (by simp) _ hz,k TI (by simp) _ hTI,⟨a,b,k TO (by simp) _ hTO⟩,h1.stay λo e=>k i1 (by simp) o e,h2.stay λo e=>k i2 (by simp) o e⟩
 item:=by
  rintro X hP hw hK hc i pins s σ H E I hf ⟨hz,hTI,⟨a,b,hTO⟩,h1,h2⟩ ⟨xs,ys,x,y,sx,sy,hx,hy⟩;subst hP hw hK;obtain⟨us,ru,qu,_⟩:=I.side sx;obtain⟨vs,rv,qv,_⟩:=I.side sy;obtain⟨u,hu,rx⟩:=ru.get hx;obtain⟨v,hv,ry⟩:=rv.get hy;refine Ej D hz hTI hTO h1 h2 qu qv (by simpa using hu) (by simpa using hv) λh' z' o' j1 j2 p' sz kp=>⟨_,rfl,?_⟩
  refine wpAny_letOwnedTupleGo_zip (s:={ s with heap:=h' }) z' λh'' z'' sb=>?_;have zlt:z<s.heap.objs.size:=xx hz;have kp':∀c o,c∉[z,TO,i1,i2]->s.heap.get? c=a8 o->h''.get? c=a8 o:=λc o nc e=>by simp at nc;exact sb.extBut _ _ nc.1 (kp c o nc.1 nc.2.1 nc.2.2.1 nc.2.2.2 e)
  have hf':∀c∈[z,TO,i1,i2],v6 X pins H c:=λc hc=>hf c (by simp at hc ⊢;rcases hc with h|h|h|h<;>simp[h]);have pt:iJ h'' s.heap.objs.size [u,v].toArray:=⟨_,sb.extBut _ _ (P0 zlt) p',rfl,_,rfl⟩
  refine⟨.ref s.heap.objs.size,_,I.chgT hf' kp' (xs:=[x,y]) (.cons rx (.cons ry .nil)) (by show 2<=aw;decide) pt (Zz.of (sb.extBut _ _ (P0 zlt) p')),rfl,⟨_,x,y,rfl,I.fresh,rfl,λws hw=>by rw[I.side_inj hw sx];exact hx,λws hw=>by rw[I.side_inj hw sy];exact hy⟩,?_,λc hc=>?_⟩
  .refine⟨z'',?_,⟨u,v,sb.extBut _ _ D.TOz o'⟩,j1.ext sb.extBut D.i1z,j2.ext sb.extBut D.i2z⟩;exact sb.extBut _ _ D.TIz (kp TI _ D.TIz D.TITO D.TIi1 D.TIi2 hTI)
  .obtain⟨o,e,_⟩:∃o,s.heap.get? c=a8 o/\True:=by
    simp at hc;rcases hc with rfl|rfl|rfl|rfl|rfl
    .exact⟨_,hz,trivial⟩
    .exact⟨_,hTI,trivial⟩
    .exact⟨_,hTO,trivial⟩
    .obtain⟨o,e,_⟩:=h1.obj;exact⟨o,e,trivial⟩
    .obtain⟨o,e,_⟩:=h2.obj;exact⟨o,e,trivial⟩
   rw[jd (Xa (xx e))];exact(hf c hc).1
 done:=by
  rintro X hP hw hK hc i pins s σ H E I hf ⟨hz,hTI,⟨a,b,hTO⟩,h1,h2⟩ ⟨xs,ys,sx,sy,hend⟩;subst hP hw hK;obtain⟨us,ru,qu,_⟩:=I.side sx;obtain⟨vs,rv,qv,_⟩:=I.side sy;have e1:=ru.length;have e2:=rv.length;have hf':∀c∈[z,TO,i1,i2],v6 X pins H c:=λc hc=>hf c (by simp at hc ⊢;rcases hc with h|h|h|h<;>simp[h]);refine j11 (I.ok.hd hc) D hz hTI hTO h1 h2 qu qv ?_ λh' kp=>⟨rfl,I.chg hf' λc o nc e=>?_⟩
  .rcases hend with h|h
   .left;simp;omega
   .right;simp;omega
  .simp at nc;exact kp c o nc.1 nc.2.1 nc.2.2.1 nc.2.2.2 e
 self:=λ_ _ _ _ _ st h=>mj st.1 h
section
variable{X:Cx}{ρ:Rho}{a b:au}{es:List au}{n:Nat}{pos p q1 q2:aO}{ds ds':List D}{l1 l2:Bool}
noncomputable def D.seq(lst:Bool)(ds:List D):D:=if lst=ae then .lst ds else .tup ds
def Qv{K:k8v}{H:Hp}{lst:Bool}{v:V}(h:Enc K H (D.seq lst ds) v):∃t xs,v=.ref t/\SqB K lst H t xs/\j4 K H ds xs:=by
 unfold D.seq at h;unfold SqB;cases lst with
 |true=>rw[if_pos rfl]at h;obtain⟨t,xs,e,s,l⟩:=h;exact⟨t,xs,e,by rw[if_pos rfl];exact s,l⟩
 |false=>rw[if_neg xj]at h;obtain⟨t,xs,e,s,l⟩:=h;exact⟨t,xs,e,by rw[if_neg xj];exact s,l⟩
noncomputable def V3(ds ds':List D):List D:=(ds.zip ds').map λp=>D.tup [p.1,p.2]
def j7l{K:k8v}{F:Hp}{t1 t2:ai}{xs ys:List V}(s1:SqB K l1 F t1 xs)(s2:SqB K l2 F t2 ys)(e1:j4 K F ds xs)(e2:j4 K F ds' ys):Ze K F (Itz K l1 l2 t1 t2) (V3 ds ds'):=λi H A g hA=>by
 have s1':SqB K l1 H t1 xs:=je.seqB (g.seqB s1);have s2':SqB K l2 H t2 ys:=je.seqB (g.seqB s2);have hl:(V3 ds ds').length=min ds.length ds'.length:=by unfold V3;rw[xf,kR]
 refine⟨λh=>?_,λh=>⟨xs,ys,s1',s2',?_⟩,λv H' ⟨p,x,y,ev,np,eH,hx,hy⟩=>?_⟩
 .rw[hl]at h;obtain⟨x,hx,_⟩:=e1.get (kh (show i<ds.length by omega));obtain⟨y,hy,_⟩:=e2.get (kh (show i<ds'.length by omega));exact⟨xs,ys,x,y,s1',s2',hx,hy⟩
 .rw[hl]at h;rw[e1.length,e2.length];omega
 .subst eH;refine⟨j6 np,λd hd=>?_⟩;unfold V3 at hd;rw[xn]at hd;cases z:(ds.zip ds')[i]? with
  |none=>rw[z]at hd;cases hd
  |some pr =>rw[z]at hd;cases hd;obtain⟨h1,h2⟩:=List.getElem?_zip_eq_some.mp z;obtain⟨x',hx',ex⟩:=e1.get h1;obtain⟨y',hy',ey⟩:=e2.get h2;have q1:=hx xs s1';have q2:=hy ys s2';rw[hx']at q1;cases q1;rw[hy']at q2;cases q2;have pA:p∉A:=λz=>hA p z np;have gg:j0 F (del (upd H p (.tup [x,y])) A):=g.trans (jf (j6 np));exact⟨p,[x,y],ev,.inl (.inl (by rw[j7 pA];exact jb)),x,[y],rfl,ex.mono gg,y,[],rfl,ey.mono gg,rfl⟩
theorem DI.zip (l1 l2:Bool) (ha:DE X ρ a (D.seq l1 ds)) (hb:DE X ρ b (D.seq l2 ds')) (hm:X.mg "zip" = af) (hg:Gl X "zip":=by rfl) (hs:ah [a,b] X.env=(aa,aD a X.env)::ah [b] X.env:=by rfl)
  (hs2:ah [b] X.env=(aa,aD b X.env)::ah [] X.env:=by rfl) (hpl:(aU pos (ah [b] X.env)).any (·.1)=aa:=by rfl):DI X ρ (.Tuple es n q1) (.Call (.Name "zip" p) [a,b] [] pos) (V3 ds ds'):=λσ H R r q pins s I=>by
 have args:Ua X [a,b] σ H (λvs H'=>∃v u,vs=[v,u]/\j0 H H'/\Enc X.K (del H' (owns ρ)) (D.seq l1 ds) v/\Enc X.K (del H' (owns ρ)) (D.seq l2 ds') u) :=
  (jc peS (jc peS jn hs2) hs).to (ha σ H _ r λv H1 g1 e1=>hb σ H1 _ (r.grow g1) λu H2 g2 e2=>⟨v,u,rfl,g1.trans g2,e1.mono (jf g2),e2⟩)
 refine Call_ (Jx I hg hm boot_zip (callWith_type1 (thn (args pos pins s I) λus s1 h1=>?_) hs hpl));obtain⟨vs,H1,I1,r1,v,u,ev,g1,e1,e2⟩:=h1;subst ev;obtain⟨t1,xs,et1,sq1,en1⟩:=Qv e1;obtain⟨t2,ys,et2,sq2,en2⟩:=Qv e2;subst et1 et2;obtain⟨u1,u2,eu,ru1,ru2⟩:=r1.two;subst eu;cases ru1;cases ru2;obtain⟨w1,rw1,qw1,_⟩:=I1.side (je.seqB sq1);obtain⟨w2,rw2,qw2,_⟩:=I1.side (je.seqB sq2);refine callType_new F.called_zip (by decide) (F.typeCall_zip_2 _ _) (F.newCall_zip_2 _ _) (λobj=>F.args_object_init_3 obj _ _) F.entry_zip_new (ja8 (l1:=l1) (l2:=l2) t1 t2 w1.toArray w2.toArray) ⟨qw1,qw2,?_⟩;have z1:(zh1 s1.heap l1 t1).objs.size=s1.heap.objs.size+1:=Pa ..;have z2:(zh2 s1.heap l1 l2 t1 t2).objs.size=s1.heap.objs.size+2:=by rw[Pa,z1]
 have z3:(zh3 s1.heap l1 l2 t1 t2).objs.size=s1.heap.objs.size+3:=by rw[Pa,z2]
 have z4:(zh4 s1.heap l1 l2 t1 t2).objs.size=s1.heap.objs.size+4:=by rw[Pa,z3]
 have z5:(zh5 s1.heap l1 l2 t1 t2).objs.size=s1.heap.objs.size+5:=by rw[Pa,z4]
 have b5:(zh5 s1.heap l1 l2 t1 t2).get? (zh4 s1.heap l1 l2 t1 t2).objs.size=a8 _:=X3 _ rfl;have b4:(zh5 s1.heap l1 l2 t1 t2).get? (zh3 s1.heap l1 l2 t1 t2).objs.size=a8 _:=kj _ (X3 _ rfl);have b3:(zh5 s1.heap l1 l2 t1 t2).get? (zh2 s1.heap l1 l2 t1 t2).objs.size=a8 _:=kj _ (kj _ (X3 _ rfl));have b2:(zh5 s1.heap l1 l2 t1 t2).get? (zh1 s1.heap l1 t1).objs.size=a8 _:=kj _ (kj _ (kj _ (X3 _ rfl)));have b1:(zh5 s1.heap l1 l2 t1 t2).get? s1.heap.objs.size=a8 _:=kj _ (kj _ (kj _ (kj _ (X3 _ rfl))));have kp:∀c o,s1.heap.get? c=a8 o->(zh5 s1.heap l1 l2 t1 t2).get? c=a8 o:=λc o e=>kj _ (kj _ (kj _ (kj _ (kj _ e))));show _/\_;rw[z2,z3,z4]at b5;rw[z1,z2]at b3;rw[z3]at b4;rw[z1]at b2;rw[z4];have I2:Inv X pins σ H1 { s1 with heap:=zh5 s1.heap l1 l2 t1 t2 }:=I1.kept (t':=s1.toks) kp;have lt1:t1<s1.heap.objs.size:=by
  unfold jj at qw1;cases l1 with
  |true=>rw[if_pos rfl]at qw1;obtain⟨_,e,_⟩:=qw1;exact xx e
  |false=>rw[if_neg xj]at qw1;obtain⟨_,e,_⟩:=qw1;exact xx e
 have lt2:t2<s1.heap.objs.size:=by
  unfold jj at qw2;cases l2 with
  |true=>rw[if_pos rfl]at qw2;obtain⟨_,e,_⟩:=qw2;exact xx e
  |false=>rw[if_neg xj]at qw2;obtain⟨_,e,_⟩:=qw2;exact xx e
 have side:∀{l:Bool}{j t:ai},(zh5 s1.heap l1 l2 t1 t2).get? j=a8 { cls:=.type (Oa l),data:=.fields #[.ref t,.int 0 0] }->jk l (zh5 s1.heap l1 l2 t1 t2) j t 0:=λ{l j t} e=>by
  unfold jk;cases l with
  |true=>rw[if_pos rfl];exact⟨_,e,rfl,rfl⟩
  |false=>rw[if_neg xj];exact⟨_,e,rfl,rfl⟩
 refine⟨⟨_,b5,rfl⟩,mj (s:={ s1 with heap:=zh5 s1.heap l1 l2 t1 t2 }) b5 ?_⟩;refine⟨_,_,_,Itz X.K l1 l2 t1 t2,H1,rfl,I2,j6c (zipApart_new lt1 lt2),⟨b5,b3,⟨_,_,b4⟩,side b1,side b2⟩,λc hc=>?_,q _ H1 g1 (j7l sq1 sq2 en1 en2)⟩;have hc':c=s1.heap.objs.size+4\/c=s1.heap.objs.size+2\/c=s1.heap.objs.size+3\/c=s1.heap.objs.size\/c=s1.heap.objs.size+1:=by simpa using hc
 have hge:s1.heap.objs.size<=c:=by rcases hc' with e|e|e|e|e<;>rw[e]<;>first|exact xu _|exact kN _ _
 obtain⟨f0,f1,f2,f3,f4,f5⟩:=I1.fpOk hge (I1.hok.fresh hge);exact⟨f0,f1,f2,f3,f4,f5⟩
def DG.pair{x y:ar}(i j:Nat){d d':D}(hij:i≠j)(hN:X.N.Nodup)(hi:X.N[i]?=a8 x:=by rfl)(hj:X.N[j]?=a8 y:=by rfl)(hx:Loc X.env.scope x:=by first|exact aV rfl|exact cA rfl)(hy:Loc X.env.scope y:=by first|exact aV rfl|exact cA rfl)
  (fx:X.fn x=ae\/X.env.scope.names.lookup x=a8 .local:=by first|exact .inl rfl|exact .inr rfl) (fy:X.fn y=ae\/X.env.scope.names.lookup y=a8 .local:=by first|exact .inl rfl|exact .inr rfl) (hc:X.calm=ae:=by rfl)
  (hn:(cn [.Name x q1,.Name y q2] X.env).length=2:=by rfl) (hst:(cn [.Name x q1,.Name y q2] X.env).findIdx? (·.1)=af:=by rfl)
  (e1:(cn [.Name x q1,.Name y q2] X.env).map (·.2)=gp (.Name x q1) X.env::(cn [.Name y q2] X.env).map (·.2):=by rfl) (e2:(cn [.Name y q2] X.env).map (·.2)=gp (.Name y q2) X.env::(cn [] X.env).map (·.2):=by rfl) :
  DG X ρ (.Tuple [.Name x q1,.Name y q2] n pos) (.tup [d,d']) ((ρ.set i (.val d)).set j (.val d')):=by
 refine⟨λb hb=>(jg rfl).subset ((jg rfl).subset hb),λσ H v Q R en q=>?_⟩;obtain⟨t,xs,ev,sq,u,r,e,eu,u',r',e',eu',er⟩:=en;subst e e' ev er;refine(jee hc (Iz (Y6 hN hi hx fx) (Iz (Y6 hN hj hy fy) jb8 e2) e1) hn hst).to ⟨t,[u,u'],rfl,je.seqT sq,rfl,u,[u'],rfl,u',[],rfl,rfl,?_⟩;refine q _ ?_;have R1:Rep X.K (ρ.set i (.val d)) (σ.set i (a8 u)) H:=R.set_val eu;exact R1.set_val (eu'.mono (J7 λb hb=>(jg rfl).subset hb))
end
noncomputable def D.ty:D->String
 |.non=>"NoneType"
 |.bl _=>"bool"
 |.int _=>"int"
 |.str _=>"str"
 |.tup _=>"tuple"
 |.lst _=>"list"
 |.dct _ _=>"dict"
 |.sct _=>"dict"
 |.fn _ _=>"function"
section
variable{X:Cx}{pins:k8x}{σ:St}{H:Hp}{s:aq}{A:aF}{E:k8w}{Q:k8w}{c:aj}{b:Bool}
def j51 {d:D} {v:V} {u:aj} (I:Inv X pins σ H s) (en:Enc X.K H d v) (r:RelV v u) (nf:d.ty ≠ "function"):∃P:aH->Prop,PySem.W.KitX X.K u (.type d.ty) P/\P s.heap/\u≠.builtin "__main__.__loader__#opaque":=by
 cases d with
 |non=>cases(show v=.non from en);cases(show u=b8 from r);exact⟨_,W.kitx_none,trivial,λz=>nomatch z⟩
 |bl k=>cases(show v=.bl k from en);cases(show u=bW k from r);exact⟨_,W.kitx_bool,trivial,λz=>nomatch z⟩
 |int k=>cases(show v=.int k from en);obtain⟨t,q⟩:=(show ∃t,u=bC k t from r);cases q;exact⟨_,W.kitx_int,trivial,λz=>nomatch z⟩
 |str k=>cases(show v=.str k from en);obtain⟨t,q⟩:=(show ∃t,u=bZ k t from r);cases q;exact⟨_,W.kitx_str,trivial,λz=>nomatch z⟩
 |tup l =>obtain⟨a,xs,e,sq,_⟩:=en;subst e;cases(show u=aK a from r);obtain⟨its,_,⟨o,h1,h2,_⟩,_⟩:=I.tuple sq;exact⟨_,W.kitx_tuple,⟨o,h1,h2⟩,λz=>nomatch z⟩
 |lst l =>obtain⟨a,xs,e,sq,_⟩:=en;subst e;cases(show u=aK a from r);obtain⟨its,_,⟨o,n,h1,h2,_⟩,_⟩:=I.list sq;exact⟨_,W.kitx_list,⟨o,h1,h2⟩,λz=>nomatch z⟩
 |dct ks l =>
  obtain⟨a,xs,ep,vs,e,hx,_⟩:=en;subst e;cases(show u=aK a from r);obtain⟨_,_,_,o,es,h1,h2,_⟩:=(show jh X.prog X.w H s.heap a (.dI xs ep)from I.hok _ _ hx)
  exact⟨_,W.kitx_dict,⟨o,h1,h2.1⟩,λz=>nomatch z⟩
 |sct k =>
  obtain⟨a,e,hx⟩:=en;subst e;cases(show u=aK a from r);obtain⟨_,_,vs,_,o,es,ep,h1,h2,_⟩:=(show jh X.prog X.w H s.heap a (.dK (kvI k))from I.hok _ _ hx)
  exact⟨_,W.kitx_dict,⟨o,h1,h2.1⟩,λz=>nomatch z⟩
 |fn x l=>exact absurd rfl nf
def j60:J5 X (.builtin "isinstance") (λxs H Q=>∃v d c b,xs=[v,.ty c]/\Enc X.K H d v/\d.ty ≠ "function"/\W.kitOne X.K (.type d.ty) (.type c)=a8 b/\Q (.bl b) H):=by rintro pins s σ H xs us Q I r ⟨v,d,c,b,e,en,nf,k,q⟩;subst e;obtain⟨u,u',eu,r1,r2⟩:=vals2 r;subst eu;cases(show u'=dk c from r2);obtain⟨P,Z,hp,hn⟩:=j51 I en r1 nf;exact W.kia_one Z I.kIn hp k hn λtk=>⟨.bl b,H,I.tok tk,rfl,q⟩
def j5z:J5 X (.builtin "isinstance") (λxs H Q=>∃(v:V)(t:ai)(d:D)(cs:List String)(b:Bool),xs=[v,.ref t]/\Enc X.K H d v/\d.ty ≠ "function"/\SqT X.K H t (cs.map V.ty)/\W.kitAny X.K (.type d.ty) (cs.map dk)=a8 b/\Q (.bl b) H):=by
 rintro pins s σ H xs us Q I r ⟨v,t,d,cs,b,e,en,nf,sq,k,q⟩;subst e;obtain⟨u,u',eu,r1,r2⟩:=vals2 r;subst eu;cases(show u'=aK t from r2);obtain⟨P,Z,hp,hn⟩:=j51 I en r1 nf;obtain⟨its,rv,⟨⟨cl,dd,da,sl⟩,h1,h2,n,h3⟩,_⟩:=I.tuple sq;have h2:cl=.type "tuple":=h2;have h3:da=.seq its.toArray n:=h3;subst h2 h3;have ei:∀{cs:List String}{its:List aj},Vals (cs.map V.ty) its->its=cs.map dk:=λ{cs}=>by
  induction cs with
  |nil=>intro its h;exact h.zero
  |cons c cs ih=>intro its h;cases h with|cons a b=>cases a;rw[ih b];rfl
 rw[ei rv]at h1;exact W.kia_tup Z I.kIn hp h1 k hn λtk=>⟨.bl b,H,I.tok tk,rfl,q⟩
end
section
variable{X:Cx}{ρ:Rho}{a b:au}{d:D}{pos p p1 p2 p3:aO}{T T1 T2:ar}{c c1 c2:String}{k:Bool}{n:Nat}
def j2t (hg:Gl X T) (hm:X.mg T=af) (hv:bA T=a8 (.type c)) (hn:T ≠ "__name__":=by decide) (hd:(T==k8z)=aa:=by decide):PE X (.Name T p) (tC (.ty c)):=jbb hg hm hv rfl hn hd
def DE.isi1 (ha:DT X ρ a d) (nf:d.ty ≠ "function") (hm:X.mg "isinstance" = af) (hT:X.mg T=af) (hv:bA T=a8 (.type c)) (hk:W.kitOne X.K (.type d.ty) (.type c)=a8 k) (hg:Gl X "isinstance":=by rfl) (hg2:Gl X T:=by rfl)
  (hn:T ≠ "__name__":=by decide) (hd:(T==k8z)=aa:=by decide)
  (hs:ah [a,.Name T p2] X.env=(aa,aD a X.env)::ah [.Name T p2] X.env:=by rfl) (hs2:ah [.Name T p2] X.env=(aa,aD (.Name T p2) X.env)::ah [] X.env:=by rfl) (hpl:(aU pos (ah [.Name T p2] X.env)).any (·.1)=aa:=by rfl) :
  DE X ρ (.Call (.Name "isinstance" p) [a,.Name T p2] [] pos) (.bl k):=λσ H Q R q =>
 (v5 j60 hg hm nJ (jc peS (jc (j2t hg2 hT hv hn hd) jn hs2) hs) (by decide) (by decide) hs hpl).to (ha σ H _ R λv H1 g1 e1=>⟨v,d,c,k,rfl,e1,nf,hk,q _ H1 g1 rfl⟩)
def DE.isi2 {m:Nat} (ha:DT X ρ a d) (nf:d.ty ≠ "function") (hm:X.mg "isinstance" = af) (hT1:X.mg T1=af) (hT2:X.mg T2=af) (hv1:bA T1=a8 (.type c1)) (hv2:bA T2=a8 (.type c2))
  (hk:W.kitAny X.K (.type d.ty) [.type c1,.type c2]=a8 k) (hg:Gl X "isinstance":=by rfl) (hg1:Gl X T1:=by rfl) (hg2:Gl X T2:=by rfl)
  (hn1:T1 ≠ "__name__":=by decide) (hd1:(T1==k8z)=aa:=by decide) (hn2:T2 ≠ "__name__":=by decide) (hd2:(T2==k8z)=aa:=by decide)
  (hs:ah [a,.Tuple [.Name T1 p1,.Name T2 p2] m p3] X.env=(aa,aD a X.env)::ah [.Tuple [.Name T1 p1,.Name T2 p2] m p3] X.env:=by rfl)
  (hs2:ah [.Tuple [.Name T1 p1,.Name T2 p2] m p3] X.env=(aa,aD (.Tuple [.Name T1 p1,.Name T2 p2] m p3) X.env)::ah [] X.env:=by rfl) (hpl:(aU pos (ah [.Tuple [.Name T1 p1,.Name T2 p2] m p3] X.env)).any (·.1)=aa:=by rfl)
  (hs3:ah [.Name T1 p1,.Name T2 p2] X.env=(aa,aD (.Name T1 p1) X.env)::ah [.Name T2 p2] X.env:=by rfl) (hs4:ah [.Name T2 p2] X.env=(aa,aD (.Name T2 p2) X.env)::ah [] X.env:=by rfl) :
  DE X ρ (.Call (.Name "isinstance" p) [a,.Tuple [.Name T1 p1,.Name T2 p2] m p3] [] pos) (.bl k):=λσ H Q R q =>
 (v5 j5z hg hm nJ (jc peS (jc (Ea (jc (j2t hg1 hT1 hv1 hn1 hd1) (jc (j2t hg2 hT2 hv2 hn2 hd2) jn hs4) hs3)) jn hs2) hs) (by decide) (by decide) hs hpl).to
  (ha σ H _ R λv H1 g1 e1=>⟨by show 2<=aw;decide,λt ht=>⟨v,t,d,[c1,c2],k,rfl,e1.mono (j6 ht),nf,.inl (.inl jb),hk,q _ _ (g1.trans (j6 ht)) rfl⟩⟩)
end
mutual
noncomputable def deq:D->D->Bool
 |.non,.non=>ae
 |.bl a,.bl b=>a==b
 |.bl a,.int b=>(if a then 1 else 0)==b
 |.int a,.bl b=>a==(if b then 1 else 0)
 |.int a,.int b=>a==b
 |.str a,.str b=>a==b
 |.tup xs,.tup ys=>vm xs ys
 |.lst xs,.lst ys=>vm xs ys
 |.dct k xs,.dct m ys=>decide (k=m)&&vm xs ys
 |.sct k,.sct m=>decide (k=m)
 |_,_=>aa
noncomputable def vm:List D->List D->Bool
 |[],[]=>ae
 |x::xs,y::ys=>deq x y&&vm xs ys
 |_,_=>aa
end
def jgm{a b:Bool}:deq (.bl a) (.bl b)=(a==b):=(rfl)
def j5g{a b:Int}:deq (.int a) (.int b)=(a==b):=(rfl)
def j5f{a b:ar}:deq (.str a) (.str b)=(a==b):=(rfl)
def j07{a b:List D}:deq (.tup a) (.tup b)=vm a b:=(rfl)
def j08{a b:List D}:deq (.lst a) (.lst b)=vm a b:=(rfl)
def Yp:vm [] []=ae:=(rfl)
def Zf{x y:D}{xs ys:List D}:vm (x::xs) (y::ys)=(deq x y&&vm xs ys):=(rfl)
def Mm{y:D}{ys:List D}:vm [] (y::ys)=aa:=(rfl)
def Mp{x:D}{xs:List D}:vm (x::xs) []=aa:=(rfl)
mutual
noncomputable def D.dep:D->Nat
 |.tup xs=>D.depL xs+1
 |.lst xs=>D.depL xs+1
 |.dct _ _=>20000
 |.sct _=>20000
 |.fn _ _=>20000
 |_=>0
noncomputable def D.depL:List D->Nat
 |[]=>0
 |x::xs=>max x.dep (D.depL xs)
end
mutual
theorem Ov:∀d:D,d.dep<10000->deq d d=ae
 |.non,_=>rfl
 |.bl b,_=>by rw[jgm];simp
 |.int i,_=>by rw[j5g];simp
 |.str x,_=>by rw[j5f];simp
 |.tup xs,h=>by rw[j07];exact Ru xs (by simp only[D.dep]at h;omega)
 |.lst xs,h=>by rw[j08];exact Ru xs (by simp only[D.dep]at h;omega)
 |.dct _ _,h=>by simp[D.dep]at h
 |.sct _,h=>by simp[D.dep]at h
 |.fn _ _,h=>by simp[D.dep]at h
theorem Ru:∀ds:List D,D.depL ds<10000->vm ds ds=ae
 |[],_=>rfl
 |d::ds,h=>by rw[D.depL]at h;rw[Zf,Ov d (by omega),Ru ds (by omega)];rfl
end
theorem Yq:∀{xs ys:List D},xs.length≠ys.length->vm xs ys=aa
 |[],[],h=>absurd rfl h
 |[],_::_,_=>by simp[Yp,Zf,Mm,Mp]
 |_::_,[],_=>by simp[Yp,Zf,Mm,Mp]
 |x::xs,y::ys,h=>by have:=Yq (xs:=xs) (ys:=ys) (by simpa using h);simp[Yp,Zf,Mm,Mp,this]
theorem Zt{f:Nat->Bool}:∀{xs ys:List D},xs.length=ys.length->(∀(j:Nat) x y,xs[j]?=a8 x->ys[j]?=a8 y->f j=deq x y)->(aA xs.length).all f=vm xs ys
 |[],[],_,_=>by simp[Yp,Zf,Mm,Mp]
 |[],_::_,h,_=>by simp at h
 |_::_,[],h,_=>by simp at h
 |x::xs,y::ys,h,hf=>by have ih:=Zt (f:=λj=>f (j+1)) (xs:=xs) (ys:=ys) (by simpa using h) (λj a b ha hb=>hf (j+1) a b (by simpa using ha) (by simpa using hb));rw[X7,eW,iK,hf 0 x y rfl rfl,lT];simp only[Zf];rw[<-ih];rfl
section
variable{X:Cx}{pins:k8x}{σ:St}{H:Hp}{s:aq}
def Ed(I:Inv X pins σ H s){a:ai}{xs ys:List V}(h:SqT X.K H a xs)(h':SqL X.K H a ys):False:=by obtain⟨_,_,⟨o,h1,h2,_⟩,_⟩:=I.tuple h;obtain⟨_,_,⟨o',n,h1',h2',_⟩,_⟩:=I.list h';rw[h1]at h1';cases h1';rw[h2]at h2';injection h2' with e;exact absurd e (by decide)
noncomputable def D.atom:D->Option V
 |.non=>a8 .non
 |.bl b=>a8 (.bl b)
 |.int i=>a8 (.int i)
 |.str x=>a8 (.str x)
 |_=>af
def Enc.at_{K:k8v}{d:D}{v u:V}(h:Enc K H d v)(e:d.atom=a8 u):v=u:=by
 cases d with
 |non=>cases e;exact(show v=.non from h)
 |bl b=>cases e;exact(show v=.bl b from h)
 |int i=>cases e;exact(show v=.int i from h)
 |str x=>cases e;exact(show v=.str x from h)
 |_=>cases e
theorem Enc.ref{K:k8v}{d:D}{v:V}(h:Enc K H d v)(e:d.atom=af):∃a,v=.ref a:=by
 cases d with
 |tup l=>obtain⟨a,_,e,_⟩:=h;exact⟨a,e⟩
 |lst l=>obtain⟨a,_,e,_⟩:=h;exact⟨a,e⟩
 |dct k l=>obtain⟨a,_,_,_,e,_⟩:=h;exact⟨a,e⟩
 |sct k=>obtain⟨a,e,_⟩:=h;exact⟨a,e⟩
 |fn x l=>obtain⟨a,_,_,_,_,e,_⟩:=h;exact⟨a,e⟩
 |_=>cases e
def j91{d d':D}{u:V}(h:d.atom=a8 u)(h':d'.atom=a8 u):d=d':=by cases d<;>cases d'<;>first|(cases h;done)|(cases h';done)|(cases h;cases h';rfl)|(cases h;cases h')
def j0r{d:D}{a:ai}(h:d.atom=a8 (.ref a)):False:=by cases d<;>cases h
def jft(I:Inv X pins σ H s){d d':D}{v:V}(hd:d.dep<10000)(hd':d'.dep<10000)(h:Enc X.K H d v)(h':Enc X.K H d' v) :
  d=d'\/∃ds ds' xs,((d=.tup ds/\d'=.tup ds')\/(d=.lst ds/\d'=.lst ds'))/\j4 X.K H ds xs/\j4 X.K H ds' xs:=by
 cases e:d.atom with
 |some u =>
  have ev:=h.at_ e;subst ev;cases e':d'.atom with
  |some u'=>exact .inl (j91 e ((h'.at_ e')▸e'))
  |none=>obtain⟨a,ea⟩:=h'.ref e';subst ea;exact(j0r e).elim
 |none =>
  cases e':d'.atom with
  |some u'=>have ev:=h'.at_ e';subst ev;obtain⟨a,ea⟩:=h.ref e;subst ea;exact(j0r e').elim
  |none =>
   cases d with
   |tup ds =>
    obtain⟨a,xs,ea,sq,l⟩:=h;cases d' with
    |tup ds' =>obtain⟨a',ys,eb,sq',l'⟩:=h';rw[ea]at eb;cases eb;rw[I.tuple_inj sq' sq]at l';exact .inr ⟨ds,ds',xs,.inl ⟨rfl,rfl⟩,l,l'⟩
    |lst ds'=>obtain⟨a',ys,eb,sq',l'⟩:=h';rw[ea]at eb;cases eb;exact(Ed I sq sq').elim
    |dct _ _=>simp[D.dep]at hd'
    |sct _=>simp[D.dep]at hd'
    |fn _ _=>simp[D.dep]at hd'
    |_=>cases e'
   |lst ds =>
    obtain⟨a,xs,ea,sq,l⟩:=h;cases d' with
    |lst ds' =>obtain⟨a',ys,eb,sq',l'⟩:=h';rw[ea]at eb;cases eb;rw[I.list_inj sq' sq]at l';exact .inr ⟨ds,ds',xs,.inr ⟨rfl,rfl⟩,l,l'⟩
    |tup ds'=>obtain⟨a',ys,eb,sq',l'⟩:=h';rw[ea]at eb;cases eb;exact(Ed I sq' sq).elim
    |dct _ _=>simp[D.dep]at hd'
    |sct _=>simp[D.dep]at hd'
    |fn _ _=>simp[D.dep]at hd'
    |_=>cases e'
   |dct _ _=>simp[D.dep]at hd
   |sct _=>simp[D.dep]at hd
   |fn _ _=>simp[D.dep]at hd
   |_=>cases e
theorem j82{n:Nat}(ih:∀{d d':D}{v:V},d.dep<=n->d.dep<10000->d'.dep<10000->Enc X.K H d v->Enc X.K H d' v->d=d'):∀{ds ds':List D}{xs:List V},D.depL ds<=n->D.depL ds<10000->D.depL ds'<10000->j4 X.K H ds xs->j4 X.K H ds' xs->ds=ds'
 |[],[],_,_,_,_,_,_=>rfl
 |[],_::_,_,_,_,_,h,⟨x,r,e,_⟩=>by cases h;cases e
 |_::_,[],_,_,_,_,⟨x,r,e,_⟩,h=>by cases h;cases e
 |d::ds,d'::ds',_,m,n1,n2,⟨x,r,e,h,l⟩,⟨x',r',e',h',l'⟩=>by subst e;cases e';rw[D.depL]at m n1 n2;rw[ih (by omega) (by omega) (by omega) h h',j82 ih (by omega) (by omega) (by omega) l l']
theorem j81(I:Inv X pins σ H s):∀(n:Nat){d d':D}{v:V},d.dep<=n->d.dep<10000->d'.dep<10000->Enc X.K H d v->Enc X.K H d' v->d=d'
 |0,d,d',v,hn,hd,hd',h,h'=>by
  rcases jft I hd hd' h h' with e|⟨ds,ds',xs,⟨e,_⟩|⟨e,_⟩,_⟩
  .exact e
  .subst e;simp[D.dep]at hn
  .subst e;simp[D.dep]at hn
 |n+1,d,d',v,hn,hd,hd',h,h'=>by
  rcases jft I hd hd' h h' with e|⟨ds,ds',xs,⟨e,e'⟩|⟨e,e'⟩,l,l'⟩
  .exact e
  .subst e e';simp only[D.dep]at hn hd hd';rw[j82 (λa b c=>j81 I n a b c) (by omega) (by omega) (by omega) l l']
  .subst e e';simp only[D.dep]at hn hd hd';rw[j82 (λa b c=>j81 I n a b c) (by omega) (by omega) (by omega) l l']
def Enc.inj(I:Inv X pins σ H s){d d':D}{v:V}(hd:d.dep<10000)(hd':d'.dep<10000)(h:Enc X.K H d v)(h':Enc X.K H d' v):d=d':=j81 I d.dep (xu _) hd hd' h h'
end
section
variable{X:Cx}{pins:k8x}{σ:St}{H:Hp}{s:aq}
theorem D.depL_le:∀{ds:List D}{j:Nat}{d:D},ds[j]?=a8 d->d.dep<=D.depL ds
 |[],_,_,h=>by simp at h
 |x::xs,0,d,h=>by simp at h;subst h;simp[D.depL];omega
 |x::xs,j+1,d,h=>by have:=D.depL_le (ds:=xs) (j:=j) (d:=d) (by simpa using h);simp[D.depL];omega
theorem Y4(I:Inv X pins σ H s):∀(n:Nat)(A:aF){d d':D}{v v':V}{u u':aj},d.dep<=n->A.units+n<aZ->d'.dep<10000->Enc X.K H d v->RelV v u->Enc X.K H d' v'->RelV v' u' ->
  i9 A s u u' (deq d d')/\dm A s u u' (deq d d')
 |0,A,d,d',v,v',u,u',hn,hu,nd,en,r,en',r'=>by
  have hu0:A.units<aZ:=by omega
  cases d with
  |tup l=>simp[D.dep]at hn
  |lst l=>simp[D.dep]at hn
  |dct ks l=>simp[D.dep]at hn
  |sct k=>simp[D.dep]at hn
  |fn x l=>simp[D.dep]at hn
  |non =>
   cases(show v=.non from en);cases(show u=b8 from r);cases d' with
   |dct ks' l'=>simp[D.dep]at nd
   |sct k'=>simp[D.dep]at nd
   |fn x' l'=>simp[D.dep]at nd
   |non=>cases(show v'=.non from en');cases(show u'=b8 from r');exact⟨.none_none,.same _⟩
   |bl k=>cases(show v'=.bl k from en');cases(show u'=bW k from r');exact⟨.none_bool _,.none_bool _⟩
   |int k=>cases(show v'=.int k from en');obtain⟨t,q⟩:=(show ∃t,u'=bC k t from r');subst q;exact⟨.none_int _ _,.none_int _ _⟩
   |str k=>cases(show v'=.str k from en');obtain⟨t,q⟩:=(show ∃t,u'=bZ k t from r');subst q;exact⟨.none_str _ _,.none_str _ _⟩
   |tup l=>obtain⟨a,xs,e,sq,_⟩:=en';subst e;cases(show u'=aK a from r');obtain⟨_,_,q,_⟩:=I.tuple sq;exact⟨.none_tuple q hu0,.none_tuple q hu0⟩
   |lst l=>obtain⟨a,xs,e,sq,_⟩:=en';subst e;cases(show u'=aK a from r');obtain⟨_,_,q,_⟩:=I.list sq;exact⟨.none_list q.isList hu0,.none_list q.isList hu0⟩
  |bl b =>
   cases(show v=.bl b from en);cases(show u=bW b from r);cases d' with
   |dct ks' l'=>simp[D.dep]at nd
   |sct k'=>simp[D.dep]at nd
   |fn x' l'=>simp[D.dep]at nd
   |non=>cases(show v'=.non from en');cases(show u'=b8 from r');exact⟨.bool_none _,.bool_none _⟩
   |bl k=>cases(show v'=.bl k from en');cases(show u'=bW k from r');exact⟨.bool_bool _ _,.bool_bool _ _⟩
   |int k=>cases(show v'=.int k from en');obtain⟨t,q⟩:=(show ∃t,u'=bC k t from r');subst q;exact⟨.bool_int _ _ _,.bool_int _ _ _⟩
   |str k=>cases(show v'=.str k from en');obtain⟨t,q⟩:=(show ∃t,u'=bZ k t from r');subst q;exact⟨.bool_str _ _ _,.bool_str _ _ _⟩
   |tup l=>obtain⟨a,xs,e,sq,_⟩:=en';subst e;cases(show u'=aK a from r');obtain⟨_,_,q,_⟩:=I.tuple sq;exact⟨.bool_tuple _ q hu0,.bool_tuple _ q hu0⟩
   |lst l=>obtain⟨a,xs,e,sq,_⟩:=en';subst e;cases(show u'=aK a from r');obtain⟨_,_,q,_⟩:=I.list sq;exact⟨.bool_list _ q.isList hu0,.bool_list _ q.isList hu0⟩
  |int b =>
   cases(show v=.int b from en);obtain⟨tk,q0⟩:=(show ∃t,u=bC b t from r);subst q0;cases d' with
   |dct ks' l'=>simp[D.dep]at nd
   |sct k'=>simp[D.dep]at nd
   |fn x' l'=>simp[D.dep]at nd
   |non=>cases(show v'=.non from en');cases(show u'=b8 from r');exact⟨.int_none _ _,.int_none _ _⟩
   |bl k=>cases(show v'=.bl k from en');cases(show u'=bW k from r');exact⟨.int_bool _ _ _,.int_bool _ _ _⟩
   |int k=>cases(show v'=.int k from en');obtain⟨t,q⟩:=(show ∃t,u'=bC k t from r');subst q;exact⟨.int_int _ _ _ _,.int_int _ _ _ _⟩
   |str k=>cases(show v'=.str k from en');obtain⟨t,q⟩:=(show ∃t,u'=bZ k t from r');subst q;exact⟨.int_str _ _ _ _,.int_str _ _ _ _⟩
   |tup l=>obtain⟨a,xs,e,sq,_⟩:=en';subst e;cases(show u'=aK a from r');obtain⟨_,_,q,_⟩:=I.tuple sq;exact⟨.int_tuple _ _ q hu0,.int_tuple _ _ q hu0⟩
   |lst l=>obtain⟨a,xs,e,sq,_⟩:=en';subst e;cases(show u'=aK a from r');obtain⟨_,_,q,_⟩:=I.list sq;exact⟨.int_list _ _ q.isList hu0,.int_list _ _ q.isList hu0⟩
  |str b =>
   cases(show v=.str b from en);obtain⟨tk,q0⟩:=(show ∃t,u=bZ b t from r);subst q0;cases d' with
   |dct ks' l'=>simp[D.dep]at nd
   |sct k'=>simp[D.dep]at nd
   |fn x' l'=>simp[D.dep]at nd
   |non=>cases(show v'=.non from en');cases(show u'=b8 from r');exact⟨.str_none _ _,.str_none _ _⟩
   |bl k=>cases(show v'=.bl k from en');cases(show u'=bW k from r');exact⟨.str_bool _ _ _,.str_bool _ _ _⟩
   |int k=>cases(show v'=.int k from en');obtain⟨t,q⟩:=(show ∃t,u'=bC k t from r');subst q;exact⟨.str_int _ _ _ _,.str_int _ _ _ _⟩
   |str k=>cases(show v'=.str k from en');obtain⟨t,q⟩:=(show ∃t,u'=bZ k t from r');subst q;exact⟨.str_str _ _ _ _,.str_str _ _ _ _⟩
   |tup l=>obtain⟨a,xs,e,sq,_⟩:=en';subst e;cases(show u'=aK a from r');obtain⟨_,_,q,_⟩:=I.tuple sq;exact⟨.str_tuple _ _ q hu0,.str_tuple _ _ q hu0⟩
   |lst l=>obtain⟨a,xs,e,sq,_⟩:=en';subst e;cases(show u'=aK a from r');obtain⟨_,_,q,_⟩:=I.list sq;exact⟨.str_list _ _ q.isList hu0,.str_list _ _ q.isList hu0⟩
 |n+1,A,d,d',v,v',u,u',hn,hu,nd,en,r,en',r'=>by
  have hu0:A.units<aZ:=by omega
  have hu1:A.in1.units+n<aZ:=by show A.units+1+n<aZ;omega
  have low:d.dep<=n->i9 A s u u' (deq d d')/\dm A s u u' (deq d d'):=λh=>Y4 I n A h (by omega) nd en r en' r';cases d with
  |non=>exact low (by simp[D.dep])
  |bl b=>exact low (by simp[D.dep])
  |int b=>exact low (by simp[D.dep])
  |str b=>exact low (by simp[D.dep])
  |dct ks l=>exfalso;have:(9900:Nat)=aZ:=rfl;simp only[D.dep]at hn;omega
  |sct k=>exfalso;have:(9900:Nat)=aZ:=rfl;simp only[D.dep]at hn;omega
  |fn x l=>exfalso;have:(9900:Nat)=aZ:=rfl;simp only[D.dep]at hn;omega
  |tup ds =>
   have hd:D.depL ds<=n:=by simp[D.dep]at hn;omega
   obtain⟨a,xs,e,sq,l⟩:=id en;subst e;cases(show u=aK a from r);obtain⟨us,rv,q,_⟩:=I.tuple sq;cases d' with
   |dct ks' l'=>simp[D.dep]at nd
   |sct k'=>simp[D.dep]at nd
   |fn x' l'=>simp[D.dep]at nd
   |non=>cases(show v'=.non from en');cases(show u'=b8 from r');exact⟨.tuple_none q hu0,.tuple_none q hu0⟩
   |bl k=>cases(show v'=.bl k from en');cases(show u'=bW k from r');exact⟨.tuple_bool _ q hu0,.tuple_bool _ q hu0⟩
   |int k=>cases(show v'=.int k from en');obtain⟨t,q'⟩:=(show ∃t,u'=bC k t from r');subst q';exact⟨.tuple_int _ _ q hu0,.tuple_int _ _ q hu0⟩
   |str k=>cases(show v'=.str k from en');obtain⟨t,q'⟩:=(show ∃t,u'=bZ k t from r');subst q';exact⟨.tuple_str _ _ q hu0,.tuple_str _ _ q hu0⟩
   |lst ds'=>obtain⟨a',ys,e,sq',_⟩:=en';subst e;cases(show u'=aK a' from r');obtain⟨_,_,q',_⟩:=I.list sq';exact⟨.tuple_list q q'.isList hu0,.tuple_list q q'.isList hu0⟩
   |tup ds' =>
    obtain⟨a',ys,e,sq',l'⟩:=id en';subst e;cases(show u'=aK a' from r');obtain⟨us',rv',q',_⟩:=I.tuple sq';have e1:us.length=ds.length:=by rw[<-rv.length,l.length]
    have e2:us'.length=ds'.length:=by rw[<-rv'.length,l'.length]
    have main:i9 A s (.ref a) (.ref a') (deq (.tup ds) (.tup ds')):=by
     have item:∀(j:Nat)(h1:j<us.toArray.size)(h2:j<us'.toArray.size),dm A.in1 s us.toArray[j] us'.toArray[j] (deq (ds.getD j .non) (ds'.getD j .non)):=λj h1 h2=>by
      have k1:j<ds.length:=by rw[<-e1];simpa using h1
      have k2:j<ds'.length:=by rw[<-e2];simpa using h2
      obtain⟨x,hx,ex⟩:=l.get (kh k1);obtain⟨y,hy,ey⟩:=l'.get (kh k2);obtain⟨w1,hw1,rw1⟩:=rv.get hx;obtain⟨w2,hw2,rw2⟩:=rv'.get hy;have g1:us.toArray[j]=w1:=by simp at h1 ⊢;rw[kh (by simpa using h1)]at hw1;exact ax hw1
      have g2:us'.toArray[j]=w2:=by simp at h2 ⊢;rw[kh (by simpa using h2)]at hw2;exact ax hw2
      rw[g1,g2,km,km,kh k1,kh k2];exact(Y4 I n A.in1 (Xd (D.depL_le (kh k1)) hd) hu1 (cW (D.depL_le (kh k2)) (by simp only[D.dep]at nd;omega)) ex rw1 ey rw2).2
     have z:=SeqAt.RcAt.tuples (A:=A) (s:=s) q q' hu0 (e:=λj=>deq (ds.getD j .non) (ds'.getD j .non)) item;have ev:((aA (min us.toArray.size us'.toArray.size)).all (λj=>deq (ds.getD j .non) (ds'.getD j .non))&&us.toArray.size==us'.toArray.size)=deq (.tup ds) (.tup ds'):=by
      simp only[j07,X5,e1,e2];by_cases hl:ds.length=ds'.length
      .rw[hl,mz,beq_self_eq_true,lH,<-hl];exact Zt hl λj x y hx hy=>by rw[km,km,hx,hy];rfl
      .rw[Yq hl,beq_false_of_ne hl,fF]
     rw[ev]at z;exact z
    refine⟨main,?_⟩;by_cases ea:a=a'
    .subst ea;have e9:(9900:Nat)=aZ:=rfl;rw[Enc.inj I (by omega) nd en en',Ov _ nd];exact .same _
    .exact .of_refs ea main
  |lst ds =>
   have hd:D.depL ds<=n:=by simp[D.dep]at hn;omega
   obtain⟨a,xs,e,sq,l⟩:=id en;subst e;cases(show u=aK a from r);obtain⟨us,rv,q0,_⟩:=I.list sq;have q:=q0.isList;cases d' with
   |dct ks' l'=>simp[D.dep]at nd
   |sct k'=>simp[D.dep]at nd
   |fn x' l'=>simp[D.dep]at nd
   |non=>cases(show v'=.non from en');cases(show u'=b8 from r');exact⟨.list_none q hu0,.list_none q hu0⟩
   |bl k=>cases(show v'=.bl k from en');cases(show u'=bW k from r');exact⟨.list_bool _ q hu0,.list_bool _ q hu0⟩
   |int k=>cases(show v'=.int k from en');obtain⟨t,q'⟩:=(show ∃t,u'=bC k t from r');subst q';exact⟨.list_int _ _ q hu0,.list_int _ _ q hu0⟩
   |str k=>cases(show v'=.str k from en');obtain⟨t,q'⟩:=(show ∃t,u'=bZ k t from r');subst q';exact⟨.list_str _ _ q hu0,.list_str _ _ q hu0⟩
   |tup ds'=>obtain⟨a',ys,e,sq',_⟩:=en';subst e;cases(show u'=aK a' from r');obtain⟨_,_,q',_⟩:=I.tuple sq';exact⟨.list_tuple q q' hu0,.list_tuple q q' hu0⟩
   |lst ds' =>
    obtain⟨a',ys,e,sq',l'⟩:=id en';subst e;cases(show u'=aK a' from r');obtain⟨us',rv',q0',_⟩:=I.list sq';have q':=q0'.isList;have e1:us.length=ds.length:=by rw[<-rv.length,l.length]
    have e2:us'.length=ds'.length:=by rw[<-rv'.length,l'.length]
    have main:i9 A s (.ref a) (.ref a') (deq (.lst ds) (.lst ds')):=by
     have item:∀(j:Nat)(h1:j<us.toArray.size)(h2:j<us'.toArray.size),dm A.in1 s us.toArray[j] us'.toArray[j] (deq (ds.getD j .non) (ds'.getD j .non)):=λj h1 h2=>by
      have k1:j<ds.length:=by rw[<-e1];simpa using h1
      have k2:j<ds'.length:=by rw[<-e2];simpa using h2
      obtain⟨x,hx,ex⟩:=l.get (kh k1);obtain⟨y,hy,ey⟩:=l'.get (kh k2);obtain⟨w1,hw1,rw1⟩:=rv.get hx;obtain⟨w2,hw2,rw2⟩:=rv'.get hy;have g1:us.toArray[j]=w1:=by simp at h1 ⊢;rw[kh (by simpa using h1)]at hw1;exact ax hw1
      have g2:us'.toArray[j]=w2:=by simp at h2 ⊢;rw[kh (by simpa using h2)]at hw2;exact ax hw2
      rw[g1,g2,km,km,kh k1,kh k2];exact(Y4 I n A.in1 (Xd (D.depL_le (kh k1)) hd) hu1 (cW (D.depL_le (kh k2)) (by simp only[D.dep]at nd;omega)) ex rw1 ey rw2).2
     simp only[j08];by_cases hl:ds.length=ds'.length
     .have z:=SeqAt.RcAt.lists (A:=A) (s:=s) q q' (by simp[e1,e2,hl]) hu0 (e:=λj=>deq (ds.getD j .non) (ds'.getD j .non)) item;have ev:(aA us.toArray.size).all (λj=>deq (ds.getD j .non) (ds'.getD j .non))=vm ds ds':=by rw[X5,e1];exact Zt hl λj x y hx hy=>by rw[km,km,hx,hy];rfl
      rw[ev]at z;exact z
     .rw[Yq hl];exact .lists_lengths q q' (by simp[e1,e2,hl]) hu0
    refine⟨main,?_⟩;by_cases ea:a=a'
    .subst ea;have e9:(9900:Nat)=aZ:=rfl;rw[Enc.inj I (by omega) nd en en',Ov _ nd];exact .same _
    .exact .of_refs ea main
end
section
variable{X:Cx}{pins:k8x}{σ:St}{H:Hp}{s:aq}{A:aF}
def j7o(I:Inv X pins σ H s){n:Nat}{ds ds':List D}{xs ys:List V}{us us':List aj}(l:j4 X.K H ds xs)(rv:Vals xs us)(l':j4 X.K H ds' ys)(rv':Vals ys us')(hd:D.depL ds<=n)(hu:A.units+1+n<aZ)(nd:D.depL ds'<10000) :
  ∀(j:Nat)(h1:j<us.toArray.size)(h2:j<us'.toArray.size),dm A.in1 s us.toArray[j] us'.toArray[j] (deq (ds.getD j .non) (ds'.getD j .non)):=λj h1 h2=>by
 have k1:j<ds.length:=by rw[<-l.length,rv.length];simpa using h1
 have k2:j<ds'.length:=by rw[<-l'.length,rv'.length];simpa using h2
 obtain⟨x,hx,ex⟩:=l.get (kh k1);obtain⟨y,hy,ey⟩:=l'.get (kh k2);obtain⟨w1,hw1,rw1⟩:=rv.get hx;obtain⟨w2,hw2,rw2⟩:=rv'.get hy;have g1:us.toArray[j]=w1:=by simp at h1 ⊢;rw[kh (by simpa using h1)]at hw1;exact ax hw1
 have g2:us'.toArray[j]=w2:=by simp at h2 ⊢;rw[kh (by simpa using h2)]at hw2;exact ax hw2
 rw[g1,g2,km,km,kh k1,kh k2];exact(Y4 I n A.in1 (Xd (D.depL_le (kh k1)) hd) hu (cW (D.depL_le (kh k2)) nd) ex rw1 ey rw2).2
def j4n(hu:X.A.units+100<aZ):OpR X (aX .Eq) (λx y H Q=>∃d d',Enc X.K H d x/\Enc X.K H d' y/\d.dep<=100/\d'.dep<10000/\Q (.bl (deq d d')) H):=by rintro pins s σ H x y v u Q I rx ry ⟨d,d',en,en',hd,nd,q⟩;exact(Y4 I 100 X.A hd hu nd en rx en' ry).1 X.prog X.w X.xe _ ⟨.bl (deq d d'),H,I,rfl,q⟩
def j4l(hu:X.A.units+100<aZ):OpR X (aX .NotEq) (λx y H Q=>∃ds ds' k,Enc X.K H (D.seq k ds) x/\Enc X.K H (D.seq k ds') y/\D.depL ds<=98/\D.depL ds'<10000/\Q (.bl (!vm ds ds')) H):=by
 rintro pins s σ H x y v u Q I rx ry ⟨ds,ds',k,en,en',hd,nd,q⟩;have h0:X.A.units<aZ:=by omega
 obtain⟨t,xs,e,sq,l⟩:=Qv en;obtain⟨t',ys,e',sq',l'⟩:=Qv en';subst e e';cases rx;cases ry;obtain⟨us,rv,qs,_⟩:=I.side sq;obtain⟨us',rv',qs',_⟩:=I.side sq';have e1:us.length=ds.length:=by rw[<-rv.length,l.length]
 have e2:us'.length=ds'.length:=by rw[<-rv'.length,l'.length]
 have item:=j7o (A:=X.A) I l rv l' rv' hd (by omega) nd;unfold jj at qs qs';cases k with
 |true =>
  rw[if_pos rfl]at qs qs';by_cases hl:ds.length=ds'.length
  .have z:=SeqAt.RcNeAt.lists (A:=X.A) (s:=s) qs qs' (by simp[e1,e2,hl]) h0 (e:=λj=>deq (ds.getD j .non) (ds'.getD j .non)) item;have ev:(aA us.toArray.size).all (λj=>deq (ds.getD j .non) (ds'.getD j .non))=vm ds ds':=by rw[X5,e1];exact Zt hl λj x y hx hy=>by rw[km,km,hx,hy];rfl
   rw[ev]at z;exact z X.prog X.w X.xe _ ⟨.bl (!vm ds ds'),H,I,rfl,q⟩
  .have z:=SeqAt.RcNeAt.lists_lengths (A:=X.A) (s:=s) qs qs' (by simp[e1,e2,hl]) h0;rw[Yq hl]at q;exact z X.prog X.w X.xe _ ⟨.bl ae,H,I,rfl,q⟩
 |false =>
  rw[if_neg xj]at qs qs';have z:=SeqAt.RcNeAt.tuples (A:=X.A) (s:=s) qs qs' h0 (e:=λj=>deq (ds.getD j .non) (ds'.getD j .non)) item;have ev:((aA (min us.toArray.size us'.toArray.size)).all (λj=>deq (ds.getD j .non) (ds'.getD j .non))&&us.toArray.size==us'.toArray.size)=vm ds ds':=by
   simp only[X5,e1,e2];by_cases hl:ds.length=ds'.length
   .rw[hl,mz,beq_self_eq_true,lH,<-hl];exact Zt hl λj x y hx hy=>by rw[km,km,hx,hy];rfl
   .rw[Yq hl,beq_false_of_ne hl,fF]
  rw[ev]at z;exact z X.prog X.w X.xe _ ⟨.bl (!vm ds ds'),H,I,rfl,q⟩
noncomputable def eqW(X:Cx)(H:Hp)(d:D)(y:aj):Bool:=@decide (∃e v,e.dep<10000/\Enc X.K H e v/\RelV v y/\deq e d=ae) (dU _)
def Nb(I:Inv X pins σ H s){d e:D}{v:V}{y:aj}(he:e.dep<10000)(en:Enc X.K H e v)(r:RelV v y):eqW X H d y=deq e d:=by
 unfold eqW;cases h:deq e d with
 |true=>exact @decide_eq_true _ (dU _) ⟨e,v,he,en,r,h⟩
 |false =>refine @decide_eq_false _ (dU _) λ⟨e',v',he',en',r',h'⟩=>?_;rw[r'.inj r]at en';rw[Enc.inj I he' he en' en,h]at h';cases h'
theorem Dt(I:Inv X pins σ H s){d:D}:∀{ds:List D}{xs:List V}{us:List aj},D.depL ds<10000->j4 X.K H ds xs->Vals xs us->us.any (eqW X H d)=ds.any λe=>deq e d
 |[],_,_,_,h,r=>by cases h;cases r;rfl
 |e::ds,_,_,hd,⟨x,r,eq,h,l⟩,rv=>by
  subst eq;rw[D.depL]at hd;cases rv with
  |cons a b=>rw[eE,eE,Dt I (by omega) l b,Nb I (by omega) h a]
theorem Us(I:Inv X pins σ H s){d:D}{v:V}{u:aj}(en:Enc X.K H d v)(r:RelV v u)(nd:d.dep<10000){n:Nat}(hu:A.units+n<aZ):∀{ds:List D}{xs:List V}{us:List aj},D.depL ds<=n->j4 X.K H ds xs->Vals xs us->∀y∈us,dm A s y u (eqW X H d y)
 |[],_,_,_,h,rv,y,hy=>by cases h;cases rv;cases hy
 |e::ds,_,_,hd,⟨x,r',eq,h,l⟩,rv,y,hy=>by
  subst eq;have hd':e.dep<=n/\D.depL ds<=n:=by simp[D.depL]at hd;omega
  cases rv with
  |cons a b =>
   rcases xq.mp hy with rfl|hy
   .have e9:(9900:Nat)=aZ:=rfl;rw[Nb I (by omega) h a];exact(Y4 I n A hd'.1 hu nd h a en r).2
   .exact Us I en r nd hu hd'.2 l b y hy
def j4m(hu:X.A.units+100<aZ):OpR X (aX .In) (λx y H Q=>∃d ds k,Enc X.K H d x/\Enc X.K H (D.seq k ds) y/\D.depL ds<=98/\d.dep<10000/\Q (.bl (ds.any λe=>deq e d)) H):=by
 rintro pins s σ H x y v u Q I rx ry ⟨d,ds,k,en,en',hd,nd,q⟩;obtain⟨t,xs,e,sq,l⟩:=Qv en';subst e;cases ry;obtain⟨us,rv,qs,_⟩:=I.side sq;have me:=λy (hy:y∈us.toArray)=>Us (A:=X.A.in1) I en rx nd (n:=98) (by show X.A.units+1+98<aZ;omega) hd l rv y (by simpa using hy);have ev:us.toArray.any (eqW X H d)=ds.any λe=>deq e d:=by rw[kA];exact Dt I (by omega) l rv
 unfold jj at qs;cases k with
 |true=>rw[if_pos rfl]at qs;exact SeqAt.in_listAt (eqW X H d) qs me (by rw[ev];exact⟨.bl _,H,I,rfl,q⟩)
 |false=>rw[if_neg xj]at qs;exact SeqAt.in_tupleAt (eqW X H d) qs me (by rw[ev];exact⟨.bl _,H,I,rfl,q⟩)
def Cg(hu:X.A.units+100<aZ):OpR X (aX .NotIn) (λx y H Q=>∃d ds k,Enc X.K H d x/\Enc X.K H (D.seq k ds) y/\D.depL ds<=98/\d.dep<10000/\Q (.bl (!ds.any λe=>deq e d)) H):=by
 rintro pins s σ H x y v u Q I rx ry ⟨d,ds,k,en,en',hd,nd,q⟩;obtain⟨t,xs,e,sq,l⟩:=Qv en';subst e;cases ry;obtain⟨us,rv,qs,_⟩:=I.side sq;have me:=λy (hy:y∈us.toArray)=>Us (A:=X.A.in1) I en rx nd (n:=98) (by show X.A.units+1+98<aZ;omega) hd l rv y (by simpa using hy);have ev:us.toArray.any (eqW X H d)=ds.any λe=>deq e d:=by rw[kA];exact Dt I (by omega) l rv
 unfold jj at qs;cases k with
 |true=>rw[if_pos rfl]at qs;exact SeqAt.notIn_listAt (eqW X H d) qs me (by rw[ev];exact⟨.bl _,H,I,rfl,q⟩)
 |false=>rw[if_neg xj]at qs;exact SeqAt.notIn_tupleAt (eqW X H d) qs me (by rw[ev];exact⟨.bl _,H,I,rfl,q⟩)
def j76:OpR X (bB .Add) (λx y H Q=>∃a b xs ys,x=.ref a/\y=.ref b/\SqT X.K H a xs/\SqT X.K H b ys/\xs.length+ys.length<=aw /\
  (xs=[]->Q (.ref b) H)/\(xs≠[]->ys=[]->Q (.ref a) H)/\(xs≠[]->ys≠[]->∀p,H p=af->Q (.ref p) (upd H p (.tup (xs++ys))))):=by
 rintro pins s σ H x y v u Q I rx ry ⟨a,b,xs,ys,e,e',sa,sb,hz,q1,q2,q3⟩;by_cases hx:xs=[]
 .subst e e' hx;cases rx;cases ry;obtain⟨us,ru,⟨⟨c1,d1,f1,g1⟩,h1,k1,n1,m1⟩,_⟩:=I.tuple sa;obtain⟨vs,rv,⟨⟨c2,d2,f2,g2⟩,h2,k2,n2,m2⟩,_⟩:=I.tuple sb;cases ru;have k1:c1=.type "tuple":=k1;have m1:f1=.seq ([]:List aj).toArray n1:=m1;have k2:c2=.type "tuple":=k2;have m2:f2=.seq vs.toArray n2:=m2;subst k1 m1 k2 m2;exact ij ⟨_,h1,rfl⟩ ⟨_,h2,rfl⟩ iB jI eG dY (dR _ _)
   (tuple_addW0 a b ([]:List aj).toArray vs.toArray n1 n2 d1 d2 g1 g2 (by simp)) ⟨h1,h2,⟨.ref b,H,I,rfl,q1 rfl⟩⟩
 .exact jbe pins s σ H x y v u Q I rx ry ⟨a,b,xs,ys,e,e',sa,sb,hx,hz,q2 hx,q3 hx⟩
theorem all_range:∀bs:List Bool,(aA bs.length).all (λi=>(bs[i]?).getD ae)=bs.all id
 |[]=>rfl
 |b::bs=>by rw[X7,eW,iK,lT,iK,<-all_range bs];rfl
def j16 (hc:X.calm=ae):J5 X (.builtin "all") (λxs H Q=>∃(l:ai)(bs:List Bool),xs=[.ref l]/\SqL X.K H l (bs.map V.bl)/\Q (.bl (bs.all id)) H):=by
 rintro pins s σ H xs us Q I r ⟨l,bs,e,sq,q⟩;subst e;obtain⟨u,eu,ru⟩:=vals1 r;subst eu;cases ru;obtain⟨its,rv,pl,_⟩:=I.list sq;have hlt:l<s.heap.objs.size:=by obtain⟨_,_,e,_⟩:=pl;exact xx e
 have hl:its.length=bs.length:=by rw[<-rv.length,xf]
 refine call_all_walk (bu pl.isList ⟨s.heap.objs.size,[s.heap.objs.size,l],[s.heap.objs.size],its.toArray.size,_,_,λi=>(bs[i]?).getD ae,rfl,Walks.list (A:=X.A.in1) (I.ok.hd hc) _ _ (Xa hlt) its.toArray,⟨⟨_,X3 _ rfl,rfl,rfl⟩,pl.isList.push _⟩,?_,λh' tk kp=>?_⟩)
 .intro i v s' Q' E' hv hq;have hi:i<its.length:=by have:=Th.mp hv;obtain⟨h,_⟩:=this;simpa using h
  have hb:i<bs.length:=by omega
  obtain⟨w1,hw,rw1⟩:=rv.get (x:=.bl bs[i]) (i:=i) (by rw[xn,kh hb];rfl);have:its.toArray[i]?=a8 w1:=by simpa using hw
  rw[this]at hv;cases hv;cases rw1;simp only[kh hb,Te]at hq;exact br hq
 .have ev:(aA its.toArray.size).all (λi=>(bs[i]?).getD ae)=bs.all id:=by rw[X5,hl];exact all_range bs
  rw[ev];refine⟨.bl _,H,I.kept (t':=tk) λb o e=>kp b o ?_ (kj _ e),rfl,q⟩;intro z;rw[xg.mp z]at e;exact tu _ (xx e)
end
section
variable{X:Cx}{ρ:Rho}{a b e:au}{d d':D}{ds ds':List D}{i j:Int}{pos p p1 p2:aO}{k:Nat}{x:ar}{P:Po}
def DE.eqD(hu:X.A.units+100<aZ)(ha:DT X ρ a d)(hb:DT X ρ b d')(hd:d.dep<=100)(nd:d'.dep<10000):DE X ρ (.Compare a [.Eq] [b] pos) (.bl (deq d d')):=λσ H Q R q =>(Jf (j4n hu) peS peS (zg _)).to (ha σ H _ R λv H1 g1 e1=>hb σ H1 _ (R.grow g1) λu H2 g2 e2=>⟨d,d',e1.mono g2,e2,hd,nd,q _ H2 (g1.trans g2) rfl⟩)
def DB.eqD(hu:X.A.units+100<aZ)(ha:DT X ρ a d)(hb:DT X ρ b d')(hd:d.dep<=100)(nd:d'.dep<10000):DB X ρ (.Compare a [.Eq] [b] pos) (deq d d'):=λσ H Q R q =>(Je (j4n hu) peS peS (zg _)).to (ha σ H _ R λv H1 g1 e1=>hb σ H1 _ (R.grow g1) λu H2 g2 e2=>⟨d,d',e1.mono g2,e2,hd,nd,_,rfl,q H2 (g1.trans g2)⟩)
def DB.neD(s:Bool)(hu:X.A.units+100<aZ)(ha:DT X ρ a (D.seq s ds))(hb:DT X ρ b (D.seq s ds'))(hd:D.depL ds<=98)(nd:D.depL ds'<10000):DB X ρ (.Compare a [.NotEq] [b] pos) (!vm ds ds'):=λσ H Q R q =>(Je (j4l hu) peS peS (zg _)).to (ha σ H _ R λv H1 g1 e1=>hb σ H1 _ (R.grow g1) λu H2 g2 e2=>⟨ds,ds',s,e1.mono g2,e2,hd,nd,_,rfl,q H2 (g1.trans g2)⟩)
def DB.notIn(s:Bool)(hu:X.A.units+100<aZ)(ha:DT X ρ a d)(hb:DT X ρ b (D.seq s ds))(hd:D.depL ds<=98)(nd:d.dep<10000)(hm:aG .NotIn b=aa:=by with_unfolding_all rfl):DB X ρ (.Compare a [.NotIn] [b] pos) (!ds.any λe=>deq e d):=λσ H Q R q =>(Je (Cg hu) peS peS hm).to (ha σ H _ R λv H1 g1 e1=>hb σ H1 _ (R.grow g1) λu H2 g2 e2=>⟨d,ds,s,e1.mono g2,e2,hd,nd,_,rfl,q H2 (g1.trans g2)⟩)
def DB.in(s:Bool)(hu:X.A.units+100<aZ)(ha:DT X ρ a d)(hb:DT X ρ b (D.seq s ds))(hd:D.depL ds<=98)(nd:d.dep<10000)(hm:aG .In b=aa:=by with_unfolding_all rfl):DB X ρ (.Compare a [.In] [b] pos) (ds.any λe=>deq e d):=λσ H Q R q =>(Je (j4m hu) peS peS hm).to (ha σ H _ R λv H1 g1 e1=>hb σ H1 _ (R.grow g1) λu H2 g2 e2=>⟨d,ds,s,e1.mono g2,e2,hd,nd,_,rfl,q H2 (g1.trans g2)⟩)
theorem DE.min (ha:DT X ρ a (.int i)) (hb:DT X ρ b (.int j)) (hm:X.mg "min" = af) (hc:X.calm=ae:=by rfl) (hg:Gl X "min":=by rfl) (hs:ah [a,b] X.env=(aa,aD a X.env)::ah [b] X.env:=by rfl) (hs2:ah [b] X.env=(aa,aD b X.env)::ah [] X.env:=by rfl)
  (hpl:(aU pos (ah [b] X.env)).any (·.1)=aa:=by rfl):DE X ρ (.Call (.Name "min" p) [a,b] [] pos) (.int (if j<i then j else i)):=λσ H Q R q =>
 (v5 (j5w hc) hg hm kM (jc peS (jc peS jn hs2) hs) (by decide) (by decide) hs hpl).to (ha σ H _ R λv H1 g1 e1=>hb σ H1 _ (R.grow g1) λu H2 g2 e2=>⟨i,j,by rw[show v=.int i from e1,show u=.int j from e2],q _ H2 (g1.trans g2) rfl⟩)
theorem Ot{K:k8v}{H:Hp}:∀{bs:List Bool}{xs:List V},j4 K H (bs.map D.bl) xs->xs=bs.map V.bl
 |[],_,h=>h
 |b::bs,_,⟨x,r,e,h,l⟩=>by subst e;cases(show x=.bl b from h);rw[Ot l];rfl
theorem DE.all {bs:List Bool} (ha:DT X ρ a (.lst (bs.map D.bl))) (hm:X.mg "all" = af) (hc:X.calm=ae:=by rfl) (hg:Gl X "all":=by rfl) (hs:ah [a] X.env=[(aa,aD a X.env)]:=by rfl):DE X ρ (.Call (.Name "all" p) [a] [] pos) (.bl (bs.all id)):=λσ H Q R q =>(v5 (j16 hc) hg hm boot_all (jc peS jn hs) (by decide) (by decide) hs).to (ha σ H _ R λv H1 g1 ⟨l,xs,e,sq,en⟩=>⟨l,bs,by rw[e],by rw[Ot en]at sq;exact sq,q _ H1 g1 rfl⟩)
def jdu(X:Cx)(e:Option au):TO:=λσ H Q=>∀pins s,Inv X pins σ H s->av (aC X.prog X.w) X.A (evalPart e X.env) (λu s'=>∃o H',Inv X pins σ H' s'/\gr u o/\Q o H') X.xe s
def poS{e:Option au}:PO X e (jdu X e):=λpins s σ H Q I h=>h pins s I
def DP(X:Cx)(ρ:Rho)(e:Option au)(o:Option Int):Prop:=∀σ H Q,Rep X.K ρ σ H->(∀H',j0 H H'->Q o H')->jdu X e σ H Q
def DP.none:DP X ρ af af:=λσ H Q R q pins s I=>jb5 pins s σ H Q I (q H (j0.refl H))
def DP.some(h:DT X ρ e (.int i)):DP X ρ (a8 e) (a8 i):=λσ H Q R q pins s I=>jb4 peS pins s σ H Q I (h σ H _ R λv H1 g1 e1=>⟨i,e1,q H1 g1⟩)
variable{lo hi:Option au}{l u:Option Int}
end
def Fz(o:Option HO):Prop:=(∃xs,o=a8 (.lst xs))\/∃oc v,o=a8 (.frz oc (.own 0))/\oc.data=.cell v
def j5a{P:az}{w:aE}{K:k8v}{mg:k8y}{base:aH}{A0:aF}{outer:List dO}{s:aq}{H:Hp}{A:List ai}(e0:Env0 P w K mg base A0 outer s H)(hA:∀a∈A,Fz (H a)) :
  Env0 P w K mg base A0 outer s (del H A)/\∀(Q:VK)(E E':XK)(r:f6)(s':aq),CR CX0 outer P w (del H A) s (λv F=>(∀a∈A,F a=af)->Q v (mrg A H F)) E r s'->CR CX0 outer P w H s Q E' r s':=by
 have nd:∀{b:ai},H b=af->del H A b=af:=λ{b} q=>by
  by_cases z:b∈A
  .exact qp z
  .rw[j7 z];exact q
 have out:∀{b:ai}{o:HO},H b=a8 o->(∀ys,o≠.lst ys)->(∀oc v,o=.frz oc (.own 0)->oc.data≠.cell v)->b∉A:=λ{b o} q z z2 y=>by
  rcases hA b y with ⟨ys,e'⟩|⟨oc,v,e',d⟩
  .rw[q]at e';cases e';exact z ys rfl
  .rw[q]at e';cases e';exact z2 _ _ rfl d
 have e1:Env0 P w K mg base A0 outer s (del H A):=⟨e0.frames,e0.mod,λb o q=>⟨(e0.bs b o q).1,nd (e0.bs b o q).2⟩,e0.bsz,e0.funs,λb hb=>nd (e0.frf b hb),
  λa o q=>by
   obtain⟨_,q⟩:=of_del q
   exact jh.stay (e0.hok a o q) (λb u _ z=>z) (λb z=>by rw[j7 (out z (λ_ y=>by cases y) λ_ _ y=>by cases y)];exact z) (λb xs z=>by rw[j7 (out z (λ_ y=>by cases y) λ_ _ y=>by cases y)];exact z)
    (λb o ⟨vs,d⟩ z=>by rw[j7 (out z (λ_ y=>by cases y) λ_ _ y d'=>by cases y;rw[d]at d';cases d')];exact z),e0.bare⟩
 refine⟨e1,λQ E E' r s' hq=>?_⟩;cases r with
 |error e=>exact(show False from hq).elim
 |ok fl =>
  cases fl with
  |next=>exact(show False from hq).elim
  |brk=>exact(show False from hq).elim
  |cont=>exact(show False from hq).elim
  |ret u =>
   obtain⟨v,H',os,bare,un,hok',rel,q⟩:=(show CE outer P w (del H A) s _ u s' from hq)
   have kept:∀a∈A,∃o,s.heap.get? a=a8 o/\s'.heap.get? a=a8 o/\H' a=af:=λa ha=>by
    have nf:a∉frs outer:=λy=>by have z:=e0.frf a y;rcases hA a ha with ⟨xs,e⟩|⟨oc,v,e,_⟩<;>(rw[z]at e;cases e)
    have ob:∃o,s.heap.get? a=a8 o:=by
     rcases hA a ha with ⟨xs,e⟩|⟨oc,v,e,_⟩
     .obtain⟨_,its,n,_,z⟩:=(show jh P w H s.heap a (.lst xs)from e0.hok _ _ e);exact⟨_,z⟩
     .exact⟨_,(show jh P w H s.heap a (.frz oc (.own 0))from e0.hok _ _ e).1⟩
    obtain⟨o,z⟩:=ob;exact⟨_,z,un.keep a _ z (qp ha) nf (by simp),un.free a _ z (qp ha) (by simp)⟩
   have hF:∀a∈A,H' a=af:=λa ha=>let ⟨_,_,_,z⟩:=kept a ha;z;have outF:∀{b:ai}{o:HO},H' b=a8 o->b∉A:=λ{b o} e z=>by rw[hF b z]at e;cases e
   refine⟨v,mrg A H H',os,bare,?_,λa o e=>?_,rel,q hF⟩
   .exact{
     keep:=λb o e n=>un.keep b o e (nd n)
     slot:=λb o e n=>un.slot b o e (nd n)
     free:=λb o e n hx=>by
      by_cases z:b∈A
      .rw[vz z];exact n
      .rw[ji z];exact un.free b o e (nd n) hx
     there:=un.there
     tups:=λb xs e=>by
      have z:=un.tups b xs (by rw[j7 (out e (λ_ y=>by cases y) λ_ _ y=>by cases y)];exact e)
      rw[ji (outF z)];exact z
     frzs:=λb o u e=>by
      by_cases y:b∈A
      .rw[vz y];exact e
      .have z:=un.frzs b o u (by rw[j7 y];exact e)
       rw[ji y];exact z
     tbls:=λb ps e=>by
      obtain⟨more,z⟩:=un.tbls b ps (by rw[j7 (out e (λ_ y=>by cases y) λ_ _ y=>by cases y)];exact e)
      exact⟨more,by rw[ji (outF z)];exact z⟩ }
   .by_cases z:a∈A
    .rw[vz z]at e;obtain⟨o',q1,q2,_⟩:=kept a z;rcases hA a z with ⟨xs,e'⟩|⟨oc,v,e',_⟩
     .rw[e']at e;cases e;obtain⟨hl,its,n,r,y⟩:=(show jh P w H s.heap a (.lst xs)from e0.hok _ _ e')
      rw[y]at q1;cases q1;exact⟨hl,its,n,r,q2⟩
     .rw[e']at e;cases e;have y:=(show jh P w H s.heap a (.frz oc (.own 0))from e0.hok _ _ e').1;rw[y]at q1;cases q1;exact⟨q2,_,q2⟩
    .rw[ji z]at e;refine jh.stay (hok' a o e) (λb u _ q=>q) (λb q=>?_) (λb xs q=>?_) (λb _ _ q=>?_)
     .rw[ji (outF q)];exact q
     .rw[ji (outF q)];exact q
     .rw[ji (outF q)];exact q
structure LamScope(N ps:List ar)(sc:bH):Prop where
 kind:sc.kind=.function
 co:sc.isCoroutine=aa
 gen:sc.isGenerator=aa
 nd:N.Nodup
 nm:N=Vc sc++ps
 lfr:∀x∈Vc sc,sc.names.lookup x=a8 .free
 lps:∀x∈ps,sc.names.lookup x=a8 .local
 nocell:∀y∈sc.names,y.2≠.cell
 cov:∀x,sc.names.lookup x=a8 .free->x∈Vc sc
noncomputable def U4(P:az)(w:aE)(K:k8v)(mg:k8y)(base:aH)(N:List ar)(qual:ar)(scope:bH)(a:ai)(cd:aj)(cl:List (ar×ai))(A:aF)(outer:List dO)(s:aq)(H:Hp):Cx where
 prog:=P
 w:=w
 K:=K
 mg:=mg
 base:=base
 A:=A.deeper (W.envX qual scope s.heap.objs.size a cd cl)
 N:=N
 s₀:=s
 H₀:=H
 env:=W.envX qual scope s.heap.objs.size a cd cl
 outer:=outer
 stack:=W.envX qual scope s.heap.objs.size a cd cl::outer
 ex:=[]
 calm:=ae
 fn:=λ_=>aa
 pn:=[]
 xe:=λ_ _=>False
def Q3(h:aH):List ai->List V->Prop
 |[],vs=>vs=[]
 |c::cs,vs=>∃v r u,vs=v::r/\h.IsCell c (a8 u)/\RelV v u/\Q3 h cs r
theorem Q3.get{h:aH}:∀{cs:List ai}{vs:List V}{i:Nat}{v:V},Q3 h cs vs->vs[i]?=a8 v->∃c u,cs[i]?=a8 c/\h.IsCell c (a8 u)/\RelV v u
 |[],_,i,v,e,q=>by cases e;simp at q
 |c::cs,_,0,v,⟨x,r,u,e,h1,h2,_⟩,q=>by subst e;simp at q;subst q;exact⟨c,u,rfl,h1,h2⟩
 |c::cs,_,i+1,v,⟨x,r,u,e,_,_,l⟩,q=>by subst e;obtain⟨c',u',z1,z2⟩:=Q3.get l (i:=i) (by simpa using q);exact⟨c',u',by simpa using z1,z2⟩
theorem Q3.length{h:aH}:∀{cs:List ai}{vs:List V},Q3 h cs vs->vs.length=cs.length
 |[],_,e=>by cases e;rfl
 |c::cs,_,⟨x,r,u,e,_,_,l⟩=>by subst e;simp[l.length]
theorem Q3.all{h:aH}:∀{cs:List ai}{vs:List V},Q3 h cs vs->∀c∈cs,∃v,h.IsCell c v
 |c::cs,_,⟨x,r,u,e,h1,_,l⟩,b,hb=>(xq.mp hb).elim (λz=>z▸⟨_,h1⟩) (l.all b)
theorem lookup_at{α:Type}:∀{l:List (ar×α)} {i:Nat} {p:ar×α},(l.map (·.1)).Nodup->l[i]?=a8 p->l.lookup p.1=a8 p.2
 |[],i,p,_,h=>by simp at h
 |q::l,0,p,_,h=>by simp at h;subst h;rw[Xm,beq_self_eq_true]
 |q::l,i+1,p,nd,h=>by rw[X6]at nd;rw[eO]at h;have ne:(p.1==q.1)=aa:=beq_eq_false_iff_ne.mpr λz=>(Xn.mp nd).1 (z▸Tg (Xl h));rw[Xm,ne];exact lookup_at (Xn.mp nd).2 h
def j31{ps:List ar}{us:List aj}{i:Nat}{p:ar}{u:aj}(nd:ps.Nodup)(hl:us.length=ps.length)(h1:ps[i]?=a8 p)(h2:us[i]?=a8 u):(ps.zip us).reverse.lookup p=a8 u:=by
 have hm:(p,u)∈(ps.zip us).reverse:=List.mem_reverse.mpr (Xl (i:=i) (by rw[iC];exact⟨h1,h2⟩));have e:((ps.zip us).reverse.map (·.1))=ps.reverse:=by rw[List.map_reverse,List.map_fst_zip (by omega)]
 obtain⟨j,hj⟩:=List.mem_iff_getElem?.mp hm;exact lookup_at (by rw[e];exact(List.reverse_perm ps).nodup_iff.mpr nd) hj
section
variable{P:az}{w:aE}{K:k8v}{mg:k8y}{base:aH}{A:aF}{outer:List dO}{s:aq}{H:Hp}{x:ar}{a c:ai}{tx:Tx}{cl:List (ar×ai)}{pm ctv:aj}{cvs vs:List V}{us:List aj}{N ps:List ar}{k:Nat}{Q:VK}{E:XK}
def jc7{h1:aH}{tk:Nat}(hh:A.handled=af)(e0:Env0 P w K mg base A outer s H)(S:LamScope N ps tx.2.2)(hn:cl.map (·.1)=Vc tx.2.2)(nd:(cl.map (·.2)).Nodup)(hc:Q3 s.heap (cl.map (·.2)) cvs)(hf:∀q∈cl.map (·.2),H q=af)(rv:Vals vs us)(hl:vs.length=ps.length)
  (ns:h1.Ns s.heap.objs.size λy=>(ps.zip us).reverse.lookup y) (kp:∀b o,s.heap.get? b=a8 o->h1.get? b=a8 o) :
  Inv (U4 P w K mg base N (zm x) tx.2.2 a (.ref c) cl A outer s H) [] (start N (cvs++vs)) H { s with heap:=h1,toks:=tk }:=by
 have ndN:(Vc tx.2.2).Nodup:=by have:=S.nd;rw[S.nm]at this;exact(List.nodup_append.mp this).1
 have ndP:ps.Nodup:=by have:=S.nd;rw[S.nm]at this;exact(List.nodup_append.mp this).2.1
 have ndC:(cl.map (·.1)).Nodup:=by rw[hn];exact ndN
 have lenC:cvs.length=(Vc tx.2.2).length:=by rw[hc.length,<-hn,xf,xf]
 have lenN:N.length=(cvs++vs).length:=by rw[S.nm,Xh,Xh,lenC,hl]
 have noA:∀b:ai,b∉(U4 P w K mg base N (zm x) tx.2.2 a (.ref c) cl A outer s H).ex:=λb z=>absurd (show b∈([]:List ai)from z) (by simp);have mem2:∀{y:ar}{q:ai},cl.lookup y=a8 q->q∈cl.map (·.2):=λ{y q} h=>Xj.mpr ⟨(y,q),Pz h,rfl⟩;have inj:∀(l:List (ar×ai)),(l.map (·.2)).Nodup->∀y z q,(y,q)∈l->(z,q)∈l->y=z:=λl=>by
  induction l with
  |nil=>intro _ y z q h;cases h
  |cons p r ih =>
   intro nd y z q h1 h2;rw[X6]at nd;obtain⟨n1,n2⟩:=Xn.mp nd;rcases xq.mp h1 with e1|h1<;>rcases xq.mp h2 with e2|h2
   .rw[<-e1]at e2;cases e2;rfl
   .exact absurd (Xj.mpr ⟨(z,q),h2,by rw[<-e1]⟩) n1
   .exact absurd (Xj.mpr ⟨(y,q),h1,by rw[<-e2]⟩) n1
   .exact ih n2 y z q h1 h2
 refine⟨⟨e0.mod,S.kind,rfl,rfl,xu _,λy z q h1 h2=>inj cl nd y z q (Pz h1) (Pz h2),λy hy=>?_,λy q h=>(by cases h),λ_=>hh,Around.frames_deeper e0.frames,.inr ⟨rfl,rfl⟩,λb z=>absurd z (noA b),e0.bs,e0.bsz,λb _ _=>noA b,λb z=>absurd z (noA b),e0.funs,e0.frf⟩,
  rfl,e0.bare,Un.kept kp,⟨_,ns,λi y v h1 h2 h3=>?_⟩,λy q h=>?_,e0.hok.fresh (xu _),λy q h=>hf q (mem2 h),λp hp=>absurd (show p∈([]:k8x)from hp) (by simp),e0.hok.kept kp,?_⟩
 .have hy:tx.2.2.names.lookup y=a8 .cell\/tx.2.2.names.lookup y=a8 .free:=hy;rcases hy with hy|hy
  .exact absurd rfl (S.nocell _ (Pz hy))
  .have m:=S.cov y hy;rw[<-hn]at m;obtain⟨p,hp,e⟩:=Xj.mp m;obtain⟨i,hi⟩:=List.mem_iff_getElem?.mp hp;exact⟨p.2,by have:=lookup_at ndC hi;rw[e]at this;exact this⟩
 .have h1:N[i]?=a8 y:=h1;have hi:i<(cvs++vs).length:=by rw[<-lenN];exact(X4.mp h1).1
  have ha:(cvs++vs)[i]?=a8 v:=by
   unfold start at h2;rw[Tc (by simpa using hi),xn]at h2;cases e:(cvs++vs)[i]? with
   |none=>rw[e]at h2;cases h2
   |some a=>rw[e]at h2;cases h2;rfl
  rw[S.nm]at h1;by_cases z:i<cvs.length
  .rw[Tc z]at ha;rw[Tc (by omega)]at h1;obtain⟨q,u,e1,e2,r⟩:=hc.get ha;refine⟨u,r,.inr ⟨.inr (S.lfr y (Xl h1)),q,?_,e2.keeps kp⟩⟩;rw[<-hn,xn]at h1;rw[xn]at e1;obtain⟨p,hp,ep⟩:=Xv.mp h1;rw[hp]at e1;have:=lookup_at ndC hp;rw[ep]at this;show cl.lookup y=a8 q;rw[this];exact e1
  .rw[dP (by omega)]at ha h1;rw[<-lenC]at h1;obtain⟨u,hu,r⟩:=rv.get ha;exact⟨u,r,.inl ⟨S.lps y (Xl h1),j31 ndP (by rw[<-rv.length,hl]) h1 hu⟩⟩
 .obtain⟨v,z⟩:=hc.all q (mem2 h);exact⟨v,z.keeps kp⟩
 .unfold start;show _=N.length;rw[Xh,xf,dr];omega
def j7j (hr:Room (k+1) A) (e0:Env0 P w K mg base A outer s H) (ho:s.heap.get? a=a8 (W.kla_obj "<lambda>" (zm x) tx.1 tx.2.1 tx.2.2 cl pm c ctv)) (hcd:s.heap.CodeRec (.ref c) (zm x))
  (S:LamScope N ps tx.2.2) (hn:cl.map (·.1)=Vc tx.2.2) (nd:(cl.map (·.2)).Nodup) (hc:Q3 s.heap (cl.map (·.2)) cvs) (hf:∀q∈cl.map (·.2),H q=af)
  (hb:gn (W.kla_fn "<lambda>" (zm x) tx.1 tx.2.1 tx.2.2 cl pm (.ref c) ctv) ⟨us,[]⟩=pure (ps.zip us)) (rv:Vals vs us) (hl:vs.length=ps.length)
  (body:Room k (U4 P w K mg base N (zm x) tx.2.2 a (.ref c) cl A outer s H).A->Jo (U4 P w K mg base N (zm x) tx.2.2 a (.ref c) cl A outer s H) tx.2.1 (start N (cvs++vs)) H Q) :
  bY (aC P w) A (.call (.ref a) ⟨us,[]⟩) (CR CX0 outer P w H s Q E) s:=by
 have lim:s.heap.NoLimit:=e0.mod.nolimit.keeps λb o e=>(e0.bs b o e).1;refine W.kla_callFunE (by have:=hr.dp;omega) ho rfl S.co S.gen rfl hcd ?_;rw[hb];refine ak (wpAny_newFunctionEnv S.nocell (λy hy=>S.lps y.1 (f9 (a:=y.1) (b:=y.2) hy).1) (λh1 ns sb=>⟨lim.fresh _ sb,?_⟩) S.kind);show bY _ _ (.expr tx.2.1 (W.envX (zm x) tx.2.2 s.heap.objs.size a (.ref c) cl)) _ _;have kp:∀b o,s.heap.get? b=a8 o->h1.get? b=a8 o:=λb o e=>sb.extBut b o (Xa (xx e)) (kj _ e);have I:=jc7 (x:=x) (a:=a) (c:=c) (tk:=s.toks+(ps.zip us).length) hr.hd e0 S hn nd hc hf rv hl ns kp;refine W.kla_codeExpr (bV (body (hr.deeper _) [] _ I) (λu s' ⟨v,H',J,r,q⟩=>?_) λ_ _ z=>z.elim);exact⟨v,H',J.os,J.bare,J.base,J.hok,r,q⟩
end
mutual
noncomputable def noFn:D->Bool
 |.fn _ _=>aa
 |.tup ds=>Yz ds
 |.lst ds=>Yz ds
 |.dct _ ds=>Yz ds
 |_=>ae
noncomputable def Yz:List D->Bool
 |[]=>ae
 |d::ds=>noFn d&&Yz ds
end
section
variable{K:k8v}{H:Hp}{A:List ai}
def Cel(H:Hp)(A:List ai):Prop:=∀a∈A,∃oc v,H a=a8 (.frz oc (.own 0))/\oc.data=.cell v
def Cel.out(hA:Cel H A){b:ai}{o:HO}(q:H b=a8 o)(h:∀oc,o≠.frz oc (.own 0)):del H A b=a8 o:=by rw[j7];exact q;intro y;obtain⟨oc,v,e,_⟩:=hA b y;rw[q]at e;exact h oc (ax e)
def Cel.seqT(hA:Cel H A){a:ai}{xs:List V}(h:SqT K H a xs):SqT K (del H A) a xs:=by
 rcases h with (h|⟨o,h⟩)|h
 .exact .inl (.inl (hA.out h λ_ z=>by cases z))
 .exact .inl (.inr ⟨o,hA.out h λ_ z=>by cases z⟩)
 .exact .inr h
def Cel.seq(hA:Cel H A){a:ai}{xs:List V}(h:SqL K H a xs):SqL K (del H A) a xs:=by
 rcases h with (h|⟨o,h⟩)|h
 .exact .inl (.inl (hA.out h λ_ z=>by cases z))
 .exact .inl (.inr ⟨o,hA.out h λ_ z=>by cases z⟩)
 .exact .inr h
mutual
theorem Enc.noc(hA:Cel H A):∀{d:D}{v:V},noFn d=ae->Enc K H d v->Enc K (del H A) d v
 |.non,_,_,h=>h
 |.bl _,_,_,h=>h
 |.int _,_,_,h=>h
 |.str _,_,_,h=>h
 |.tup _,_,n,⟨a,xs,e,q,l⟩=>⟨a,xs,e,hA.seqT q,j4.noc hA (by simpa [noFn]using n) l⟩
 |.lst _,_,n,⟨a,xs,e,q,l⟩=>⟨a,xs,e,hA.seq q,j4.noc hA (by simpa [noFn]using n) l⟩
 |.dct _ _,_,n,⟨a,xs,ep,vs,e,q,ek,kt,rv,l⟩=>⟨a,xs,ep,vs,e,hA.out q (λ_ z=>by cases z),ek,λx hx=>hA.seqT (kt x hx),rv,j4.noc hA (by simpa [noFn]using n) l⟩
 |.sct _,_,_,⟨a,e,q⟩=>⟨a,e,hA.out q λ_ z=>by cases z⟩
 |.fn _ _,_,n,_=>by cases n
theorem j4.noc(hA:Cel H A):∀{ds:List D}{xs:List V},Yz ds=ae->j4 K H ds xs->j4 K (del H A) ds xs
 |[],_,_,h=>h
 |d::ds,_,n,⟨x,r,e,h,l⟩=>by rw[Yz,Xg]at n;exact⟨x,r,e,Enc.noc hA n.1 h,j4.noc hA n.2 l⟩
end
theorem Ja.cel:∀{cs:List ai}{vs:List V},Ja H cs vs->Cel H cs
 |[],_,_=>λ_ h=>nomatch h
 |c::cs,_,⟨v,r,o,u,e,h,d,rv,l⟩=>λa ha=>(xq.mp ha).elim (λz=>⟨o,_,z▸h,d⟩) (l.cel a)
theorem Ja.inn{P:az}{w:aE}{h:aH}(ok:HOk P w H h):∀{cs:List ai}{vs:List V},Ja H cs vs->Q3 h cs vs
 |[],_,e=>e
 |c::cs,_,⟨v,r,o,u,e,q,d,rv,l⟩=>⟨v,r,u,e,⟨o,(show jh P w H h c (.frz o (.own 0))from ok _ _ q).1,d⟩,rv,l.inn ok⟩
def Ja.of_del{B:List ai}:∀{cs:List ai}{vs:List V},Ja (del H B) cs vs->Ja H cs vs:=λh=>h.mono je
def TabOk.fz(h:TabOk K H)(hA:∀a∈A,Fz (H a)):TabOk K (L2.del H A):=λx hx c P z=>by have q:=h x hx c P z;rw[j7];exact q;intro y;rcases hA _ y with ⟨xs,e⟩|⟨oc,v,e,_⟩<;>(rw[q]at e;cases e)
end
def j3p(P:az)(w:aE)(K:k8v)(mg:k8y)(base:aH)(k:Nat)(x:ar)(S:List D->D->Prop):Prop :=
 ∀(A:aF)(outer:List dO)(s:aq)(H:Hp)(a:ai)(B:List ai)(cs ds:List D) (d:D) (vs:List V) (us:List aj) (Q:VK) (E:XK),Room k A->Env0 P w K mg base A outer s H->TabOk K H->(∀b∈B,∃xs,H b=a8 (.lst xs)) ->
  Enc K (del H B) (.fn x cs) (.ref a)->j4 K (del H B) ds vs->Yz ds=ae->S (cs++ds) d->Vals vs us->(∀v H',j0 H H'->Enc K (del H' B) d v->Q v H')->bY (aC P w) A (.call (.ref a) ⟨us,[]⟩) (CR CX0 outer P w H s Q E) s
section
variable{P:az}{w:aE}{K:k8v}{mg:k8y}{base:aH}{k:Nat}{x:ar}{S:List D->D->Prop}{tx:Tx}{N ps:List ar}
def jfa(ht:j35 K x=a8 tx)(Sc:LamScope N ps tx.2.2)(hl:∀ds d,S ds d->ds.length=N.length)
  (hb:∀(cl:List (ar×ai)) (pm:aj) (c:ai) (ctv:aj) (us:List aj),us.length=ps.length->gn (W.kla_fn "<lambda>" (zm x) tx.1 tx.2.1 tx.2.2 cl pm (.ref c) ctv) ⟨us,[]⟩=pure (ps.zip us))
  (hbody:∀(a c:ai)(cl:List (ar×ai)) (A:aF) (outer:List dO) (s:aq) (H:Hp),cl.map (·.1)=Vc tx.2.2->Room k (U4 P w K mg base N (zm x) tx.2.2 a (.ref c) cl A outer s H).A->∀ds d,S ds d->DT (U4 P w K mg base N (zm x) tx.2.2 a (.ref c) cl A outer s H) (qj N ds) tx.2.1 d):j3p P w K mg base (k+1) x S:=by
 intro A outer s H a B cs ds d vs us Q E hr e0 tb hB en ea nf hS rv q;obtain⟨a',c,tx',cl,cvs,e,L,l⟩:=en;cases e;have et:tx'=tx:=ax (L.tx.symm.trans ht);subst et;have cs_at:Ja H (cl.map (·.2)) cvs:=L.cs.of_del;have hA:∀b∈B++cl.map (·.2),Fz (H b):=λb hb=>(Xp.mp hb).elim (λz=>.inl (hB b z)) λz=>.inr (cs_at.cel b z);obtain⟨e1,back⟩:=j5a e0 hA;obtain⟨pm,ctv,hfo⟩:=L.fo;obtain⟨oc,hco,vs0,t0,hd0,hv0⟩:=L.co;have ho:=(show jh P w H s.heap a (.frz _ (.own 0))from e0.hok _ _ (of_del hfo).2).1;have hcd:s.heap.CodeRec (.ref c) (zm x):=⟨c,oc,vs0,t0,rfl,(show jh P w H s.heap c (.frz oc (.own 0))from e0.hok _ _ (of_del hco).2).1,hd0,hv0⟩
 have ll:=l.length;have la:=ea.length;have hlen:=hl _ _ hS;have lenC:(cl.map (·.2)).length=(Vc tx'.2.2).length:=by rw[<-L.nm,xf,xf]
 have lcv:=(cs_at.inn e0.hok).length;have hlv:vs.length=ps.length:=by rw[Sc.nm,Xh,Xh]at hlen;omega
 have celB:Cel (del H B) (cl.map (·.2)):=L.cs.cel;have ea1:j4 K (del H (B++cl.map (·.2))) ds vs:=by rw[<-Jy];exact ea.noc celB nf
 have l1:j4 K (del H (B++cl.map (·.2))) cs cvs:=by rw[<-Jy];exact l
 refine cR (j7j (E:=E) (Q:=λv F=>(∀a∈B++cl.map (·.2),F a=af)->Q v (mrg (B++cl.map (·.2)) H F)) hr e1 ho hcd Sc L.nm L.nd (cs_at.inn e0.hok) (λb hb=>qp (Xb _ hb)) (hb cl pm c ctv us (by rw[<-rv.length];exact hlv)) rv hlv λhrm=>?_) λr s' h=>back Q E E r s' h;refine hbody a c cl A outer s _ L.nm hrm (cs++ds) d hS _ _ _ (Ve (tb.fz hA) (l1.append ea1)) λv F g en' hF=>q v _ (Od g) (en'.mono λb o z=>?_);have nb:b∉B++cl.map (·.2):=λy=>by rw[hF b y]at z;cases z
 rw[j7 (λy=>nb (Xk _ y)),ji nb];exact z
end
section
variable{X:Cx}{ρ:Rho}{e a b c:au}{es:List au}{st:aP}{rest sa sb body:List aP}{P:Po}{d:D}{ds ds':List D}{pos p p1 p2 p3:aO}{x:ar}{i:Nat}
def Cal.comp{sp:Sp}{scope:bH}{C:ai}{s:aq}{H:Hp}{fp:List ai}{pn:k8x}(h:Cal X x sp):Cal (cCx X scope C s H fp pn) x sp:=⟨h.ex⟩
end
def zf(lo:Int)(n:Nat):(upto lo n).length=n:=by unfold upto;rw[xf,Xe]
def Eo{lo:Int}{n:Nat}{d:D}(h:d∈upto lo n):∃j:Nat,j<n/\d=.int (lo+j):=by unfold upto at h;obtain⟨j,hj,e⟩:=Xj.mp h;exact⟨j,Xc.mp hj,e.symm⟩
def j6b{lo:Int}{n j:Nat}{d:D}(h:(upto lo n)[j]?=a8 d):j<n/\d=.int (lo+j):=by
 unfold upto at h;rw[xn]at h;cases z:(aA n)[j]? with
 |none=>rw[z]at h;cases h
 |some k =>rw[z]at h;have hl:=(X4.mp z).1;rw[Xe]at hl;have:=Pg (n:=n) (i:=j) hl;rw[this]at z;cases z;cases h;exact⟨hl,rfl⟩
mutual
def Q7:D->Prop
 |.tup l=>l.length<=1000/\Z2 l
 |.lst l=>l.length<=1000/\Z2 l
 |.dct _ _=>False
 |.sct _=>False
 |.fn _ _=>False
 |_=>True
def Z2:List D->Prop
 |[]=>True
 |d::ds=>Q7 d/\Z2 ds
end
theorem W6:∀{ds:List D}{d:D},Z2 ds->d∈ds->Q7 d
 |x::xs,d,h,m=>by
  simp only[Z2]at h;rcases xq.mp m with e|m
  .subst e;exact h.1
  .exact W6 h.2 m
theorem Cp:∀{ds:List D},(∀d∈ds,Q7 d)->Z2 ds
 |[],_=>by simp only[Z2]
 |x::xs,h=>by simp only[Z2];exact⟨h x (xr ..),Cp λd m=>h d (xm _ m)⟩
theorem D.depL_mem:∀{ds:List D}{d:D},d∈ds->d.dep<=D.depL ds
 |x::xs,d,m=>by
  simp only[D.depL];rcases xq.mp m with e|m
  .subst e;omega
  .have:=D.depL_mem m;omega
end L2
namespace L2
noncomputable def ju(b:Int):Nat->Int->zo
 |0,_=>[]
 |i+1,n=>(n/b^i%b)::ju b i n
theorem zx(b:Int):∀(m:Nat)(n:Int),(ju b m n).length=m
 |0,_=>rfl
 |m+1,n=>by rw[ju,X7,zx b m n]
theorem Zc(b:Int):∀{m k:Nat}{n:Int},k<m->(ju b m n)[k]?=a8 (n/b^(m-k-1)%b)
 |m+1,0,n,_=>by rw[ju];rfl
 |m+1,k+1,n,h=>by
  rw[ju,eO,Zc b (by omega)];have:m-k-1=m+1-(k+1)-1:=by omega
  rw[this]
theorem Nf{b:Int}(hb:0<b):∀{m:Nat}{n v:Int},v∈ju b m n->0<=v/\v<b
 |m+1,n,v,h=>by
  rw[ju]at h;rcases xq.mp h with e|h
  .subst e;exact⟨Tf _ (by omega),cY _ hb⟩
  .exact Nf hb h
def j8g(n b:Int)(hb:0<b)(i:Nat):n/b^i/b=n/b^(i+1):=by rw[Int.ediv_ediv_of_nonneg (Int.le_of_lt (jJ hb)),mF]
end L2
end
section
namespace L2
open PySem PySem.Spec PyProof.Rows
def CX1(P:az)(w:aE):CXT:=λouter H s E ev s'=>∃(e:ai)(C:aj)(H':Hp),ev=.ref e/\s'.os=s.os/\eT s'.gens/\Un (frs outer) [] H H' s.heap s'.heap/\HOk P w H' s'.heap /\
 Fl (λb=>∃o,s.heap.get? b=a8 o) H' s'.heap e C/\E C af H'
theorem jh.get{P:az}{w:aE}{H:Hp}{h:aH}{a:ai}{o:HO}(x:jh P w H h a o):∃u,h.get? a=a8 u:=by
 cases o with
 |lst xs=>obtain⟨_,_,_,_,e⟩:=x;exact⟨_,e⟩
 |tup xs=>obtain⟨_,_,_,⟨_,e,_⟩,_⟩:=x;exact⟨_,e⟩
 |dK kvs=>obtain⟨_,_,_,_,o,_,_,e,_⟩:=x;exact⟨_,e⟩
 |dT kvs=>obtain⟨_,_,_,_,o,_,_,e,_⟩:=x;exact⟨_,e⟩
 |dI xs ep=>obtain⟨_,_,_,o,_,e,_⟩:=x;exact⟨_,e⟩
 |set S n=>obtain⟨o,_,_,_,e,_⟩:=x;exact⟨_,e⟩
 |ins C dx fs=>obtain⟨_,_,_,e,_⟩:=x;exact⟨_,e⟩
 |own y=>obtain⟨_,e⟩:=x;exact⟨_,e⟩
 |xd fs=>obtain⟨_,⟨_,_,_,e,_⟩,_⟩:=x;exact⟨_,e⟩
 |rng lo hi=>obtain⟨_,_,_,e⟩:=x;exact⟨_,e⟩
 |frz ob u=>obtain⟨e,_⟩:=x;exact⟨_,e⟩
 |tbl ps=>exact⟨_,(show h.get? a=a8 _ from x)⟩
 |cod q=>obtain⟨_,e,_⟩:=x;exact⟨_,e⟩
 |met f y=>exact⟨_,(show h.get? a=a8 _ from x)⟩
 |ext φ=>obtain⟨_,⟨_,e⟩,_⟩:=x;exact⟨_,e⟩
section
variable{X:Cx}{pins:k8x}{σ:St}{H:Hp}{s:aq}
def Inv.old(I:Inv X pins σ H s){b:ai}(h:Old X pins b):∃o,s.heap.get? b=a8 o:=by
 rcases h with ⟨o,q,n⟩|⟨p,hp,rfl⟩|rfl|⟨x,e⟩
 .exact I.base.there b o q n
 .exact⟨_,(I.pin p hp).1⟩
 .obtain⟨m,⟨o,_,_,e,_⟩,_⟩:=I.loc;exact⟨o,e⟩
 .obtain⟨v,o,e,_⟩:=I.cell x b e;exact⟨o,e⟩
end
section
variable{P:az}{w:aE}{K:k8v}{mg:k8y}{base:aH}{N ps:List ar}{qual:ar}{scope:bH}{f:ai}{cd:aj}{A:aF}{outer:List dO}{s s':aq}{H H':Hp}{E:XK}{σ:St}{pins:k8x}{e:ai}{C:aj}
def Fq{as:List ai}{h':aH}{a0:aj}(I:Inv (zp (CX1 P w) P w K mg base N qual scope f cd A outer s H E) pins σ H' s')(F:FlQ (flF (zp (CX1 P w) P w K mg base N qual scope f cd A outer s H E).env) (Old (zp (CX1 P w) P w K mg base N qual scope f cd A outer s H E) pins) H' s'.heap e C)
  (hE:E C af H') (ha:∀b,b∈as↔b∈frs (bQ qual scope s.heap.objs.size f cd::outer)\/(¬(∃o,s.heap.get? b=a8 o)/\H' b=af/\b∈as)) (hfa:∀b∈frs (bQ qual scope s.heap.objs.size f cd::outer),b∈as)
  (hL:Heap.LeftW (W.hideAll s'.heap as) (bQ qual scope s.heap.objs.size f cd::outer) e C a0 s'.heap h'):CX1 P w outer H s E (.ref e) { s' with heap:=h' }:=by
 obtain⟨k1,k2,k3,k4⟩:=hL;have fr:∀b∈frs outer,∃o,s'.heap.get? b=a8 o/\∀vs,o.data≠.fields vs:=λb hb=>by obtain⟨o,ho,hd⟩:=(I.stack.mem (show b∈frs (bQ qual scope s.heap.objs.size f cd::outer)from xm _ hb)).2;exact⟨o,ho,hd⟩
 have sfree:∀b∈frs (bQ qual scope s.heap.objs.size f cd::outer),H' b=af:=I.stkFree;have keep:∀b o,s'.heap.get? b=a8 o->b∉as->h'.get? b=a8 o:=λb o q n=>k1 b o (W.hideAll_get _ q n);have nold:∀b o,s.heap.get? b=a8 o->b∉frs outer->b∉as:=λb o q n z=>by
  rcases(ha b).mp z with z|⟨z,_⟩
  .rcases xq.mp z with z|z
   .have:=xx q;rw[show b=s.heap.objs.size from z]at this;exact absurd this (tu _)
   .exact n z
  .exact z ⟨o,q⟩
 have ntrk:∀b u,H' b=a8 u->b∉as:=λb u q z=>by
  rcases(ha b).mp z with z|⟨_,z,_⟩
  .rw[sfree b z]at q;cases q
  .rw[z]at q;cases q
 have slot:∀b∈frs outer,∀o,s'.heap.get? b=a8 o->∃sl,h'.get? b=a8 { o with slots:=sl }:=λb hb o q=>by obtain⟨o',ho,hd⟩:=fr b hb;rw[q]at ho;cases ho;exact k4 b o q hd
 have un:=I.base;refine⟨e,C,H',rfl,I.os,I.bare,⟨λb o q n hb _=>keep b o (un.keep b o q n hb (λz=>nomatch z)) (nold b o q hb),λb o q n hb _=>?_,λb o q n _=>un.free b o q n (λz=>nomatch z),λb o q _=>?_,un.tups,un.frzs,un.tbls⟩,
  λa o q=>(I.hok a o q).stay (λb u hb r=>keep b u r ?_) (λ_ z=>z) (λ_ _ z=>z) λ_ _ _ z=>z,?_,hE⟩
 .obtain⟨sl,q'⟩:=un.slot b o q n hb (λz=>nomatch z);obtain⟨sl',q2⟩:=slot b hb _ q';exact⟨sl',q2⟩
 .obtain⟨o',q'⟩:=un.there b o q (λz=>nomatch z);by_cases hb:b∈frs outer
  .obtain⟨sl,q2⟩:=slot b hb _ q';exact⟨_,q2⟩
  .exact⟨_,keep b o' q' (nold b o q hb)⟩
 .rcases hb with rfl|hb
  .exact ntrk _ _ q
  .exact ntrk _ _ hb
 .obtain⟨oe,vs,T,oT,ts,he,⟨hc,h0⟩,hd,h1,hnT,hTe,hT,hdT,h3⟩:=k3;refine⟨λb ⟨o,q⟩=>F.new b (.inl ⟨o,q,λz=>nomatch z⟩),F.free,oe,vs,a0,he,hc,hd,h0,.inr ⟨T,oT,ts,.none,h1,hTe,hT,hdT,⟨h3,rfl⟩,?_,λb ⟨o,q⟩ z=>?_⟩⟩
  .cases r:H' T with
   |none=>rfl
   |some u =>obtain⟨ob,q⟩:=(I.hok T u r).get;rw[W.hideAll_get _ q (ntrk T u r)]at hnT;cases hnT
  .subst z;obtain⟨o',q'⟩:=un.there b o q (λz=>nomatch z);by_cases hb:b∈frs outer
   .obtain⟨o2,q2,nf⟩:=fr b hb;obtain⟨sl,q3⟩:=slot b hb o2 q2;rw[q3]at hT;cases hT;exact nf ts hdT
   .rw[W.hideAll_get _ q' (nold b o q hb)]at hnT;cases hnT
def j4z(I:Inv (zp (CX1 P w) P w K mg base N qual scope f cd A outer s H E) pins σ H' s')(F:FlQ (flF (zp (CX1 P w) P w K mg base N qual scope f cd A outer s H E).env) (Old (zp (CX1 P w) P w K mg base N qual scope f cd A outer s H E) pins) H' s'.heap e C)(hE:E C af H') :
  (zp (CX1 P w) P w K mg base N qual scope f cd A outer s H E).xe (.ref e) s':=by
 obtain⟨oe,vs,a0,he,hc,hd,h0,hT⟩:=F.obj;have hsN:∀b,(∃o,s.heap.get? b=a8 o)->Old (zp (CX1 P w) P w K mg base N qual scope f cd A outer s H E) pins b:=λb ⟨o,q⟩=>.inl ⟨o,q,λz=>nomatch z⟩;have hin:∀(as:List ai),(∀b∈frs (bQ qual scope s.heap.objs.size f cd::outer),b∈as)->∀env∈bQ qual scope s.heap.objs.size f cd::outer,∀a,env.frame=a8 a->a∈as:=λas h env he a ha=>h a (Tn.mpr ⟨env,he,ha⟩);subst hc;rcases hT with h1|⟨T,oT,ts,fl,h1,hTe,hT,hdT,⟨h3,hfl⟩,hTf,hTn⟩
 .let as:=e::frs (bQ qual scope s.heap.objs.size f cd::outer)
  have hfa:∀b∈frs (bQ qual scope s.heap.objs.size f cd::outer),b∈as:=λb hb=>xm _ hb;refine wpAny_leaving_firstW (base:=W.hideAll s'.heap as) I.ok.frames (W.funFrames_hide I.stack (hin as hfa)) rfl he (λb o q=>W.of_hideAll _ q) (W.hideAll_none _ (xr ..)) hd h1 h0 λh' hL =>Fq I F hE (λb=>⟨λz=>?_,λz=>z.elim (hfa b) λz=>z.2.2⟩) hfa hL
  rcases xq.mp z with e1|z'
  .subst e1;exact .inr ⟨λq=>F.new _ (hsN _ q) rfl,F.free,z⟩
  .exact .inl z'
 .let as:=e::T::frs (bQ qual scope s.heap.objs.size f cd::outer)
  have hfa:∀b∈frs (bQ qual scope s.heap.objs.size f cd::outer),b∈as:=λb hb=>xm _ (xm _ hb);have mem:∀b∈as,b∈frs (bQ qual scope s.heap.objs.size f cd::outer)\/(¬(∃o,s.heap.get? b=a8 o)/\H' b=af/\b∈as):=λb z=>by
   rcases xq.mp z with e1|z'
   .subst e1;exact .inr ⟨λq=>F.new _ (hsN _ q) rfl,F.free,z⟩
   .rcases xq.mp z' with e1|z2
    .subst e1;exact .inr ⟨λq=>hTn _ (hsN _ q) rfl,hTf,z⟩
    .exact .inl z2
  have tr:s'.heap.TracedAtW (W.hideAll s'.heap as) e oe.cls a0 fl:=⟨oe,vs,T,oT,ts,he,⟨rfl,h0⟩,hd,h1,W.hideAll_none _ (xm _ (xr ..)),hTe,hT,hdT,h3⟩
  rcases hfl with hfl|⟨L,hfL,hfl⟩
  .subst hfl;exact wpAny_leaving_nextW (base:=W.hideAll s'.heap as) (a0:=a0) I.ok.frames (W.funFrames_hide I.stack (hin as hfa)) rfl tr
    (λb o q=>W.of_hideAll _ q) (W.hideAll_none _ (xr ..)) λh' hL =>
    Fq I F hE (λb=>⟨mem b,λz=>z.elim (hfa b) λz=>z.2.2⟩) hfa hL
  .subst hfl;show av _ _ (leaving _ (.ref e)) _ _ s';unfold leaving;refine a9 (wpAny_noteFrame_againW (base:=W.hideAll s'.heap as) (a0:=a0) hfL tr ?_);exact wpAny_setFlight_noneW (base:=W.hideAll s'.heap as) (a0:=a0) (λb o q=>W.of_hideAll _ q) (W.funFrames_hide I.stack (hin as hfa)) tr λh' k1 k2 k3 k4 =>Fq I F hE (λb=>⟨mem b,λz=>z.elim (hfa b) λz=>z.2.2⟩) hfa ⟨k1,k2,k3,λb o hb hn=>⟨o.slots,k4 b o hb hn⟩⟩
end
def spX(K:k8v)(mg:k8y)(S:List D->ar->Prop):Sp:=λvs H _ E=>∃ds x C,TabOk K H/\j4 K H ds vs/\S ds x/\mg x=a8 C/\∀H',j0 H H'->E C af H'
section
variable{P:az}{w:aE}{K:k8v}{mg:k8y}{base:aH}{x qual:ar}{st:aP}{f:ai}{fd:aM}{N ps:List ar}{k:Nat}
def j5b{S:List D->ar->Prop}(F:Fun K x qual st f fd)(Sc:FnScope N ps (j9 st))(hl:∀ds y,S ds y->ds.length=ps.length)
  (hbody:∀(cdv:aj)(A:aF)(outer:List dO)(s:aq)(H:Hp)(E:XK),Wr K f cdv->Room k (A.deeper (bQ qual (j9 st) s.heap.objs.size f cdv))->∀ds y,S ds y ->
   DSs (zp (CX1 P w) P w K mg base N qual (j9 st) f cdv A outer s H E) (qj N ds) (jz st) { nx:=λ_=>False,rt:=λ_=>False,ex:=λz _=>z=y }):FnOk P w K mg base (CX1 P w) (k+1) f fd ps (spX K mg S):=by
 obtain⟨oc,od,dV,kV,doc,pm,an,cdv,ct,osl,rfl,lk,hcd⟩:=F.ex;refine j9t lk hcd Sc (λvs H Q E ⟨ds,y,C,tb,en,hS,_⟩=>by rw[en.length];exact hl ds y hS) λA outer s H vs Q E hr ⟨ds,y,C,tb,en,hS,hC,hE⟩=>⟨_,Jc,?_⟩
 have ho:=Qz N ds;refine hbody cdv A outer s H E ⟨oc,od,_,osl,lk,rfl⟩ hr ds y hS (start N vs) H _ (Ve tb en) ⟨λρ' σ' H' n R f=>n.elim,λ_ _ _ z=>z.elim,λ_ _ _ z=>z.elim,λr v H' n z=>n.elim,λz ρ' σ' H' n R g=>?_⟩;cases(show z=y from n);intro pins H2 s' e C' I g2 hC' Fe;cases hC.symm.trans hC';unfold Fr0 at g;rw[ho,qt]at g;exact j4z I Fe (hE H2 ((g.trans je).trans g2))
end
def DX(X:Cx)(ρ:Rho)(e:au)(x:ar):Prop:=∀σ H Q,Rep X.K ρ σ H->Ui X σ H x->Jo X e σ H Q
def DXA(X:Cx)(ρ:Rho)(es:List au)(x:ar):Prop:=∀σ H Q,Rep X.K ρ σ H->Ui X σ H x->Ua X es σ H Q
structure CalX(X:Cx)(x:ar)(sp:Sp):Prop where
 ex:∃(k:Nat)(f:ai)(fd:aM)(ps:List ar),FnOk X.prog X.w X.K X.mg X.base (CX1 X.prog X.w) k f fd ps sp/\Room k X.A/\X.mg x=a8 (.ref f)/\W.keepIn X.K (.ref f)=ae/\Binds X.K fd ps []
section
variable{X:Cx}{ρ:Rho}{e:au}{es:List au}{f x:ar}{ds:List D}{p pos:aO}{C:aj}
def DX.call {S:List D->ar->Prop} (c:CalX X f (spX X.K X.mg S)) (ha:DTA X ρ (e::es) ds) (hS:S ds x) (hC:X.mg x=a8 C) (hg:Gl X f) (hdb:(f==k8z)=aa)
  (he:ah (e::es) X.env=(aa,aD e X.env)::ah es X.env) (hpl:(aU pos (ah es X.env)).any (·.1)=aa):DX X ρ (.Call (.Name f p) (e::es) [] pos) x:=λσ H Q R k pins s I=>by
 obtain⟨n,fa,fd,ps,F,hr,hm,hk,hb⟩:=c.ex;refine aY (Mg I hg hm ?_ hdb);refine W.callWith_K (h₀:=X.base) I.ok.mod.kin hk (thn (ha σ H (λvs H1=>j0 H H1/\j4 X.K H1 ds vs) R (λvs H1 g e=>⟨g,e⟩) pos pins s I) λus s1 ⟨vs,H1,I1,r,g,en⟩=>⟨I1.kIn,?_⟩) he hpl;have sp:spX X.K X.mg S vs H1 (λ_ _=>False) (λC' _ H'=>C'=C/\j0 H1 H'):=⟨ds,x,C,R.tb.mono g,en,hS,hC,λH' g=>⟨rfl,g⟩⟩
 have hl:us.length=ps.length:=by rw[<-r.length];exact F.len _ _ _ _ sp
 have hb':=hb s1 us I1.kIn (by rw[Xy];exact hl);rw[Xy]at hb';refine lq (cR (F.run X.A X.stack s1 H1 ⟨us,[]⟩ us vs _ _ hr I1.env0 hb' r sp) λr s' hq=>?_);cases r with
 |error ev =>obtain⟨e,C',H',rfl,os,bare,un,hok,fl,rfl,g'⟩:=hq;have I':Inv X pins σ H' s':=I1.call' os un hok bare (λb z=>nomatch z);refine k pins H' s' e C' I' (g.trans g') hC (FlQ.up fl (λ_ z=>.inl z) λb hb=>I1.old hb)
 |ok fl =>
  cases fl with
  |ret u=>obtain⟨_,_,_,_,_,_,_,z⟩:=hq;exact z.elim
  |next=>exact bp hq
  |brk=>exact bp hq
  |cont=>exact bp hq
end
end L2
end
section
namespace L2
open PySem PySem.Spec PyProof.Rows
noncomputable def Jg:List ar:=["WrongSize","NoAsk","NoWord","Twice","WrongAnswers","Unlike","NoPlace","NoText","WrongPrices","WrongWeights","NoPlan"]
noncomputable def bmV:List aj:=[.type "ValueError",.type "Exception",.type "BaseException",.type "object"]
noncomputable def jjw(K:k8v)(C:ai):Bool:=W.findIn K (.ref C) "__getattribute__" == a8 (a8 (.builtin "BaseException.__getattribute__"))&&(W.findIn K (.ref C) "__getattr__" == a8 af&&(W.subIn K (.ref C) (.type "BaseException")==a8 ae &&
 (W.findIn K (.ref C) "__class__" == a8 (a8 (.builtin "object.__class__"))&&(W.mroIn K C (.type "object")==a8 ae&&((W.clsIn K C).isSome&&W.excIn K C bmV "ValueError.__new__")))))
noncomputable def Kl(K:k8v):Bool:=Jg.all λx=>match W.nsIn K aB x with
 |some (a8 (.ref C))=>jjw K C&&(W.kitOne K (.ref C) (.type "ValueError")==a8 ae&&((match W.nsIn K aB "AskError" with
   |some (a8 a)=>W.exmOne K (.ref C) a==a8 ae
   |_=>aa)&&Jg.all λc=>match W.nsIn K aB c with
   |some (a8 v)=>W.kitOne K (.ref C) v==a8 (x==c)
   |_=>ae))
 |some (a8 _)=>aa
 |_=>ae
section
variable{X:Cx}{pins pins':k8x}{σ:St}{H:Hp}{s:aq}{xe:k8w}{e:ai}
noncomputable abbrev Cx.hnd(X:Cx)(e:ai):Cx:={ X with A:=X.A.mark (a8 (.ref e)),calm:=aa,xe:=λ_ _=>False }
end
structure KindsP(P:az)(w:aE)(K:k8v)(mg:k8y)(base:aH)(f x:ar)(l:List D):Prop where
 ex:∃fa:ai,mg f=a8 (.ref fa)/\W.keepIn K (.ref fa)=ae/\∀(A:aF)(outer:List dO)(s:aq)(H:Hp)(e:ai)(o:dF),A.depth+4<gi->A.units+150<aZ->Env0 P w K mg base A outer s H->TabOk K H ->
  H e=a8 (.frz o (.own e))->W.nsIn K aB x=a8 (a8 o.cls) ->
  bY (aC P w) A (.call (.ref fa) ⟨[.ref e],[]⟩) (CR CX0 outer P w H s (λv H'=>∃a xs,v=.ref a/\j0 H H'/\H a=af/\H' a=a8 (.lst xs)/\j4 K (del H' [a]) l xs) E0) s
 nl:za l=ae
abbrev Kinds(X:Cx)(f x:ar)(l:List D):Prop:=KindsP X.prog X.w X.K X.mg X.base f x l
section
variable{X:Cx}
def jkn:V->Option Int->Option Int->Hp->VK->Prop:=λx lo hi H Q=>∃z,x=.str z/\z.length<=aw/\Q (.str (cq z lo hi)) H
def part_of{v:aj}{o:Option Int}(h:gr v o):∃l:Option (Int×iR),v=partValue l/\l.map (·.1)=o:=by
 cases h with
 |none=>exact⟨af,rfl,rfl⟩
 |int i t=>exact⟨a8 (i,t),rfl,rfl⟩
def jdq:SlR X jkn:=by intro pins s σ H x v vl vu lo hi sl Q I rx hs pl pu h;obtain⟨z,ex,hz,q⟩:=h;subst ex;obtain⟨t,ev⟩:=rx;subst ev;obtain⟨l,el,ml⟩:=part_of pl;obtain⟨u,eu,mu⟩:=part_of pu;subst el eu ml mu;obtain⟨o,h1,h2,h3⟩:=hs;refine⟨"str",_,PySem.F.slot_str_getitem.lookup,iY s z t,wpAny_getItem_str_slice (l:=l) (u:=u) (st:=af) ⟨o,h1,h2,h3⟩ rfl ?_⟩;exact post_val_or_str ⟨Xd (Txt.slice_le z _ _) hz,λt' k=>⟨.str _,H,I.tok k,⟨_,rfl⟩,q⟩⟩
theorem j1e:∀{ts:List ar}{us:List aj},Vals (ts.map V.str) us->∃l:List (ar×iR),us=strValues l/\l.map (·.1)=ts
 |[],_,r=>by cases r;exact⟨[],rfl,rfl⟩
 |t::ts,_,r=>by
  cases r with
  |cons a b =>obtain⟨k,e⟩:=a;obtain⟨l,e1,e2⟩:=j1e b;subst e e1 e2;exact⟨(t,k)::l,rfl,rfl⟩
def jbh:MtR X "str.join" (λx vs H Q=>∃(sep:ar)(l:ai)(ts:List ar),x=.str sep/\vs=[.ref l]/\SqL X.K H l (ts.map V.str)/\gq sep ts=ae/\Q (.str (fG sep ts)) H):=by rintro pins s σ H x vs v us Q I rx rv ⟨sep,l,ts,e,e',sq,hok,q⟩;subst e e';obtain⟨t,ev⟩:=rx;subst ev;obtain⟨u,eu,ru⟩:=rv.one;subst eu;cases ru;obtain⟨its,ri,pl,_⟩:=I.list sq;obtain⟨ps,e1,e2⟩:=j1e ri;subst e1 e2;unfold gq at hok;rw[gC]at hok;exact cj jK (iY _ _ _) F.entry_str_join (F.args_str_join_2 _ _) (meets_str_join_list sep t l ps hok) ⟨pl.isList,post_join ps ⟨joinFit_length hok,λt' k=>⟨.str _,H,I.tok k,⟨_,rfl⟩,q⟩⟩⟩
def j5t (hc:X.calm=ae):J5 X (.builtin "sum") (λxs H Q=>∃(lst:Bool)(l:ai)(ns:zo),xs=[.ref l]/\SqB X.K lst H l (ns.map V.int)/\Q (.int ns.sum) H):=by
 rintro pins s σ H xs us Q I r ⟨lst,l,ns,e,sq,q⟩;subst e;obtain⟨u,eu,ru⟩:=vals1 r;subst eu;cases ru;obtain⟨its,rv,pl,_⟩:=I.side sq;have hl:its.length=ns.length:=by rw[<-rv.length,xf]
 have val:∀i v,its.toArray[i]?=a8 v->∃t,v=bC (ns.getD i 0) t:=by
  intro i v hv;have hi:i<its.length:=by obtain⟨h,_⟩:=Th.mp hv;simpa using h
  have hi':i<ns.length:=by omega
  obtain⟨w1,hw,rw1⟩:=rv.get (x:=.int (ns.getD i 0)) (i:=i) (by rw[xn,kh hi',km,kh hi'];rfl);have:its.toArray[i]?=a8 w1:=by simpa using hw
  rw[this]at hv;cases hv;exact rw1
 have tot:preSum (λi=>ns.getD i 0) its.toArray.size=ns.sum:=by rw[preSum_getD,eV (by rw[X5];omega)]
 have fin:∀(o:dF)(s':aq)(t':iR),Moved [s.heap.objs.size] (λa b=>b=a) { s with heap:=s.heap.push o } s'->EP X pins σ Q (.int (preSum (λi=>ns.getD i 0) its.toArray.size) t') s':=λo s' t' mv=>by obtain⟨hh,gg,dd,tt,oo⟩:=s';obtain⟨m1,m2,m3,m4,m5⟩:=mv;cases m2;cases m3;cases m4;rw[tot];refine⟨.int _,H,I.kept (t':=tt) λb o e=>m1 b o ?_ (kj _ e),⟨_,rfl⟩,q⟩;intro z;rw[xg.mp z]at e;exact tu _ (xx e)
 unfold jj at pl;cases lst with
 |true =>
  rw[if_pos rfl]at pl;have hlt:l<s.heap.objs.size:=by obtain⟨_,e,_⟩:=pl;exact xx e
  refine lR (bu pl ⟨s.heap.objs.size,[s.heap.objs.size,l],[s.heap.objs.size],_,its.toArray.size,_,_,λi=>ns.getD i 0,rfl,(Walks.list (A:=X.A.in1) (I.ok.hd hc) _ _ (Xa hlt) its.toArray).toS,⟨⟨_,X3 _ rfl,rfl,rfl⟩,pl.push _⟩,?_,val,λs' t' mv=>fin _ s' t' mv⟩);intro b hb;show b<(s.heap.push _).objs.size;rw[Pa];rcases xq.mp hb with z|z
  .rw[z];exact Ti _
  .rw[xg.mp z];exact S5 hlt
 |false =>
  rw[if_neg xj]at pl;have hlt:l<s.heap.objs.size:=by obtain⟨_,e,_⟩:=pl;exact xx e
  refine lR (hJ pl ⟨s.heap.objs.size,[s.heap.objs.size,l],[s.heap.objs.size],_,its.toArray.size,_,_,λi=>ns.getD i 0,rfl,(Walks.tuple (A:=X.A.in1) (I.ok.hd hc) _ _ (Xa hlt) its.toArray).toS,⟨⟨_,X3 _ rfl,rfl,rfl⟩,pl.push _⟩,?_,val,λs' t' mv=>fin _ s' t' mv⟩);intro b hb;show b<(s.heap.push _).objs.size;rw[Pa];rcases xq.mp hb with z|z
  .rw[z];exact Ti _
  .rw[xg.mp z];exact S5 hlt
end
section
variable{X:Cx}{ρ:Rho}{a b e:au}{ds:List D}{i j:Int}{pos p p1 p2:aO}{y z:ar}{lo hi:Option au}{l u:Option Int}
theorem Rr{K:k8v}{H:Hp}:∀{ts:List ar}{xs:List V},j4 K H (ts.map D.str) xs->xs=ts.map V.str
 |[],_,h=>h
 |t::ts,_,⟨x,r,e,h,l⟩=>by subst e;cases(show x=.str t from h);rw[Rr l];rfl
theorem z9{K:k8v}{H:Hp}:∀{ts:zo}{xs:List V},j4 K H (ts.map D.int) xs->xs=ts.map V.int
 |[],_,h=>h
 |t::ts,_,⟨x,r,e,h,l⟩=>by subst e;cases(show x=.int t from h);rw[z9 l];rfl
def DE.lenS (ha:DT X ρ a (.str y)) (hy:y.length<=aw) (hm:X.mg "len" = af) (hg:Gl X "len") (hs:ah [a] X.env=[(aa,aD a X.env)]):DE X ρ (.Call (.Name "len" p) [a] [] pos) (.int y.length):=λσ H Q R q =>(v5 j0k hg hm d4 (jc peS jn hs) (by decide) (by decide) hs).to (ha σ H _ R λv H1 g1 e1=>⟨y,by rw[show v=.str y from e1],hy,q _ H1 g1 rfl⟩)
def DE.catS(ha:DT X ρ a (.str y))(hb:DT X ρ b (.str z))(hl:y.length+z.length<=aw):DE X ρ (.BinOp a .Add b pos) (.str (y++z)):=λσ H Q R q =>(Yx j2w peS peS).to (ha σ H _ R λv H1 g1 e1=>hb σ H1 _ (R.grow g1) λu H2 g2 e2=>⟨y,z,e1,e2,hl,q _ H2 (g1.trans g2) rfl⟩)
def DE.ixC{c:Nat}(ha:DT X ρ a (.str y))(hb:DT X ρ b (.int i))(hy:y.length<=aw)(h:L2.atI y.cps.toList i=a8 c)(hs:Jz b):DE X ρ (.Subscript a b pos) (.str ⟨#[c]⟩):=λσ H Q R q =>(Yy jfh peS peS hs).to (ha σ H _ R λv H1 g1 e1=>hb σ H1 _ (R.grow g1) λu H2 g2 e2=>⟨y,i,c,e1,e2,hy,h,q _ H2 (g1.trans g2) rfl⟩)
def DE.sliceS(ha:DT X ρ a (.str y))(hl:DP X ρ lo l)(hu:DP X ρ hi u)(hy:y.length<=aw):DE X ρ (.Subscript a (.Slice lo hi af p2) pos) (.str (cq y l u)):=λσ H Q R q =>(Og jdq peS poS poS).to (ha σ H _ R λv H1 g1 e1=>hl σ H1 _ (R.grow g1) λH2 g2=>hu σ H2 _ (R.grow (g1.trans g2)) λH3 g3=>⟨y,e1,hy,q _ H3 (g1.trans (g2.trans g3)) rfl⟩)
def DE.int1 {k:Bool} (ha:DT X ρ a (.bl k)) (hm:X.mg "int" = af) (hg:Gl X "int") (hs:ah [a] X.env=[(aa,aD a X.env)]):DE X ρ (.Call (.Name "int" p) [a] [] pos) (.int (if k then 1 else 0)):=λσ H Q R q =>(Vf j61 hg hm boot_int (jc peS jn hs) (by decide) (by decide) hs).to (ha σ H _ R λv H1 g1 e1=>.inr ⟨k,by rw[show v=.bl k from e1],q _ H1 g1 rfl⟩)
theorem DE.sum (lst:Bool) {ns:zo} (ha:DT X ρ a (D.seq lst (ns.map D.int))) (hm:X.mg "sum" = af) (hc:X.calm=ae) (hg:Gl X "sum") (hs:ah [a] X.env=[(aa,aD a X.env)]):DE X ρ (.Call (.Name "sum" p) [a] [] pos) (.int ns.sum):=λσ H Q R q =>
 (v5 (j5t hc) hg hm boot_sum (jc peS jn hs) (by decide) (by decide) hs).to (ha σ H _ R λv H1 g1 e1=>by
  obtain⟨t,xs,ev,sq,en⟩:=Qv e1
  subst ev
  rw[z9 en]at sq
  exact⟨lst,t,ns,rfl,sq,q _ H1 g1 rfl⟩)
theorem DE.join{sep:ar}{ts:List ar}{n:Nat}{p0:aO}(ha:DT X ρ a (.lst (ts.map D.str)))(hok:gq sep ts=ae)
  (hfew:((aU p2 (ah [a] X.env)).all (λx=>!x.1)&&(cC p2 (bF [] X.env)).all (λx=>x.1.isSome)&&decide (([a]:List au).length+([]:List bq).length+(if ([]:List bq).isEmpty then 0 else 1)<30))=ae)
  (hbase:aR (.Constant (.str sep) n p0) "join" X.env (aD (.Constant (.str sep) n p0) X.env)=aD (.Constant (.str sep) n p0) X.env)
  (hline:(p1.endLine==p2.line)=ae) (hs:ah [a] X.env=(aa,aD a X.env)::ah [] X.env):DE X ρ (.Call (.Attribute (.Constant (.str sep) n p0) "join" p1) [a] [] p2) (.str (fG sep ts)):=λσ H Q R q =>
 (Bp PySem.F.plainAttrs_str jK PySem.F.type_str_join jbh j4g (jc peS jn hs) hbase hfew hline hs rfl).to ⟨rfl,ha σ H _ R λv H1 g1 ⟨t,xs,e,sq,en⟩=>⟨sep,t,ts,rfl,by rw[e],by rw[Rr en]at sq;exact sq,hok,q _ H1 g1 rfl⟩⟩
end
section
variable{prog:az}{w:aE}{A:aF}{lst:Bool}{j t:ai}{its:Array aj}
def j3c(hh:A.handled=af)(hne:t≠j):Draws prog w A j [j,t] its.size (λi v=>its[i]?=a8 v) (λi h=>jk lst h j t i/\jj lst h t its) where
 live:=λ_ _ st=>by obtain⟨o,e,_⟩:=st.1.obj;exact⟨o,e⟩
 frame:=λ_ h h' st hk=>⟨st.1.stay λo e=>hk j (by simp) o e,by
  have q:=st.2
  unfold jj at q ⊢
  cases lst with
  |true=>rw[if_pos rfl]at q ⊢;exact q.at λo e=>hk t (by simp) o e
  |false=>rw[if_neg xj]at q ⊢;exact q.at λo e=>hk t (by simp) o e⟩
 item:=λi s Q E hi st hQ=>Yw st.1 st.2 (y:=its[i]) (by simp[hi]) λh' hit' hs'=>hQ _ h' s.toks (by simp[hi]) ⟨hit',st.2.ext hs'.extBut hne⟩ hs'
 done:=λs Q E st hE=>Uy hh st.1 st.2 (by simp) hE
def j5d{n:Nat}(hh:A.handled=af)(hne:t≠j)(hn:its[n]?=af):Draws prog w A j [j,t] n (λi v=>its[i]?=a8 v) (λi h=>i=n/\jk lst h j t i/\jj lst h t its) where
 live:=λ_ _ st=>by obtain⟨o,e,_⟩:=st.2.1.obj;exact⟨o,e⟩
 frame:=λ_ h h' st hk=>⟨st.1,st.2.1.stay λo e=>hk j (by simp) o e,by
  have q:=st.2.2
  unfold jj at q ⊢
  cases lst with
  |true=>rw[if_pos rfl]at q ⊢;exact q.at λo e=>hk t (by simp) o e
  |false=>rw[if_neg xj]at q ⊢;exact q.at λo e=>hk t (by simp) o e⟩
 item:=λi s Q E hi st hQ=>absurd st.1 (Xa hi)
 done:=λs Q E st hE=>Uy hh st.2.1 st.2.2 hn hE
end
noncomputable abbrev eh2(h:aH)(lst:Bool)(t:ai):aH:=(zh1 h lst t).push { cls:=.type "enumerate",data:=.fields #[.none,.bool aa,.ref h.objs.size,eZ 0,.none,.none] }
def j8d {lst:Bool} (t:ai) (its:Array aj):kK (cS.«enumerate.__new__» ⟨[.type "enumerate",.ref t],[]⟩) (λ_ R s=>jj lst s.heap t its/\R (.ok (.ret (.ref (zh1 s.heap lst t).objs.size))) { s with heap:=eh2 s.heap lst t }) :=
 .of_wp λprog w A R s h=>by
  obtain⟨hp,g,d,tk,os⟩:=s;obtain⟨h1,h⟩:=h;have hsub:=sub_enumerate;have e1:jj lst (iP ⟨hp,g,d,tk,os⟩) t its:=h1;have ld:∃o:dF,hp.get? t=a8 o:=by
   unfold jj at e1;cases lst with
   |true=>rw[if_pos rfl]at e1;obtain⟨o,e,_⟩:=e1;exact⟨o,e⟩
   |false=>rw[if_neg xj]at e1;obtain⟨o,e,_⟩:=e1;exact⟨o,e⟩
  obtain⟨o,ho⟩:=ld
  wp_walk using cF ho
  refine wpAny_stack_any λstk=>?_;refine ak ?_;split
  .rename_i cl _ _ _ _ _;cases(cl==dk "enumerate")
   .wp_walk using cF ho,Vh e1
    exact⟨_,rfl,h⟩
   .wp_walk using cF ho,Vh e1
    exact⟨_,rfl,h⟩
  .wp_walk using cF ho,Vh e1
   exact⟨_,rfl,h⟩
noncomputable def Ite(K:k8v)(lst:Bool)(t:ai):It :=
 ⟨λi H=>∃xs x,SqB K lst H t xs/\xs[i]?=a8 x,
 λi H v H'=>∃p x,v=.ref p/\H p=af/\H'=upd H p (.tup [.int (i:Int),x])/\∀xs,SqB K lst H t xs->xs[i]?=a8 x,
 λi H=>∃xs,SqB K lst H t xs/\xs.length<=i⟩
def j3z{P:az}{w:aE}{K:k8v}{es:List au}{n:Nat}{pos:aO}{lst:Bool}{z j t:ai}(hzj:z≠j)(hzt:z≠t)(htj:t≠j) :
  Turn P w K (.Tuple es n pos) (Ite K lst t) [z,j] z (λi h=>(∃old,IsEnum h z j (i:Nat) old)/\jk lst h j t i) where
 mem:=by simp
 obj:=λi h ⟨⟨old,hz⟩,h1⟩ c hc=>by
  simp at hc;rcases hc with rfl|rfl
  .exact⟨_,hz,λv e=>by cases e⟩
  .exact h1.obj
 keep:=λi h h' ⟨⟨old,hz⟩,h1⟩ k=>⟨⟨old,k z (by simp) _ hz⟩,h1.stay λo e=>k j (by simp) o e⟩
 item:=by
  rintro X hP hw hK hc i pins s σ H E I hf ⟨⟨old,hz⟩,h1⟩ ⟨xs,x,sx,hx⟩;subst hP hw hK;obtain⟨us,ru,qu,_⟩:=I.side sx;obtain⟨u,hu,rx⟩:=ru.get hx;have hlt:i<us.toArray.size:=by obtain⟨h,_⟩:=X4.mp hu;simpa using h
  refine wpAny_pyNext_enum_itemD (j3c (A:=X.A.in1) (I.ok.hd hc) htj) hz ⟨h1,qu⟩ hlt hzj (by simp[hzj,hzt]) λv h' tk hv ho st ht sz kp=>⟨_,rfl,?_⟩
  have ev:u=v:=by
   have:us.toArray[i]?=a8 u:=by simpa using hu
   rw[this]at hv;exact ax hv
  subst ev;refine wpAny_letOwnedTupleGo_enum (s:={ s with heap:=h',toks:=tk+1 }) ho λh'' z'' sb=>?_
  replace sb:d5 z h' h'':=sb
  have zlt:z<s.heap.objs.size:=xx hz;have kp':∀c o,c∉[z,j]->s.heap.get? c=a8 o->h''.get? c=a8 o:=λc o nc e=>by simp at nc;exact sb.extBut _ _ nc.1 (kp c o nc.1 nc.2 e)
  have pt:iJ h'' s.heap.objs.size [.int i tk,u].toArray:=⟨_,sb.extBut _ _ (P0 zlt) ht,rfl,_,rfl⟩
  have I2:=(I.chgT hf kp' (xs:=[.int (i:Int),x]) (.cons ⟨tk,rfl⟩ (.cons rx .nil)) (by show 2<=aw;decide) pt (Zz.of (sb.extBut _ _ (P0 zlt) ht))).tok (tk+1);refine⟨.ref s.heap.objs.size,_,I2,rfl,⟨_,x,rfl,I.fresh,rfl,λws hw=>by rw[I.side_inj hw sx];exact hx⟩,⟨⟨u,?_⟩,st.1.ext sb.extBut (bE hzj)⟩,λc hc=>?_⟩
  .have e:((i+1:Nat):Int)=(i:Int)+1:=by push_cast;rfl
   rw[e];exact z''
  .obtain⟨o,e⟩:∃o,s.heap.get? c=a8 o:=by
    simp at hc;rcases hc with rfl|rfl
    .exact⟨_,hz⟩
    .obtain⟨o,e,_⟩:=h1.obj;exact⟨o,e⟩
   rw[jd (Xa (xx e))];exact(hf c hc).1
 done:=by
  rintro X hP hw hK hc i pins s σ H E I hf ⟨⟨old,hz⟩,h1⟩ ⟨xs,sx,hend⟩;subst hP hw hK;obtain⟨us,ru,qu,_⟩:=I.side sx;have e1:=ru.length;have hn:us.toArray[i]?=af:=by simp;omega
  refine wpAny_pyNext_enum_endD (j5d (A:=X.A.in1) (I.ok.hd hc) htj hn) hz ⟨rfl,h1,qu⟩ λh' kp=>⟨rfl,I.chg hf λc o nc e=>?_⟩
  simp at nc;exact kp c o nc.2 e
 self:=λ_ _ _ _ _ ⟨⟨old,hz⟩,_⟩ h=>lO hz h
section
variable{X:Cx}{ρ:Rho}{a b:au}{es:List au}{n:Nat}{pos p q1 q2:aO}{ds ds':List D}{lst:Bool}
noncomputable def Qa(ds:List D):List D:=ds.zipIdx.map λp=>D.tup [.int (p.2:Int),p.1]
def La{i:Nat}:(Qa ds)[i]?=(ds[i]?).map λd=>D.tup [.int (i:Int),d]:=by unfold Qa;rw[xn,List.getElem?_zipIdx];cases ds[i]?<;>simp
def j55{K:k8v}{F:Hp}{t:ai}{xs:List V}(s1:SqB K lst F t xs)(e1:j4 K F ds xs):Ze K F (Ite K lst t) (Qa ds):=λi H A g hA=>by
 have s1':SqB K lst H t xs:=je.seqB (g.seqB s1);have hl:(Qa ds).length=ds.length:=by unfold Qa;rw[xf,fV]
 refine⟨λh=>?_,λh=>⟨xs,s1',?_⟩,λv H' ⟨p,x,ev,np,eH,hx⟩=>?_⟩
 .rw[hl]at h;obtain⟨x,hx,_⟩:=e1.get (kh h);exact⟨xs,x,s1',hx⟩
 .rw[hl]at h;rw[e1.length];exact h
 .subst eH;refine⟨j6 np,λd hd=>?_⟩;rw[La]at hd;cases z:ds[i]? with
  |none=>rw[z]at hd;cases hd
  |some d1 =>rw[z]at hd;cases hd;obtain⟨x',hx',ex⟩:=e1.get z;have q1:=hx xs s1';rw[hx']at q1;have q1:=ax q1;subst q1;have pA:p∉A:=λz=>hA p z np;have gg:j0 F (del (upd H p (.tup [.int (i:Int),x'])) A):=g.trans (jf (j6 np));exact⟨p,[.int (i:Int),x'],ev,.inl (.inl (by rw[j7 pA];exact jb)),.int (i:Int),[x'],rfl,rfl,x',[],rfl,ex.mono gg,rfl⟩
def DI.enum (lst:Bool) (ha:DE X ρ a (D.seq lst ds)) (hm:X.mg "enumerate" = af) (hg:Gl X "enumerate") (hs:ah [a] X.env=[(aa,aD a X.env)]):DI X ρ (.Tuple es n q1) (.Call (.Name "enumerate" p) [a] [] pos) (Qa ds):=λσ H R r q pins s I=>by
 have args:Ua X [a] σ H (λvs H'=>∃v,vs=[v]/\j0 H H'/\Enc X.K (del H' (owns ρ)) (D.seq lst ds) v) :=
  (jc peS jn hs).to (ha σ H _ r λv H1 g1 e1=>⟨v,rfl,g1,e1⟩)
 refine Call_ (Jx I hg hm boot_enumerate (callWith_type1 (thn (args pos pins s I) λus s1 h1=>?_) hs rfl));obtain⟨vs,H1,I1,r1,v,ev,g1,e1⟩:=h1;subst ev;obtain⟨t,xs,et,sq,en⟩:=Qv e1;subst et;obtain⟨u1,eu,ru1⟩:=r1.one;subst eu;cases ru1;obtain⟨w1,rw1,qw1,_⟩:=I1.side (je.seqB sq);refine callType_new F.called_enumerate (by decide) (F.typeCall_enumerate_1 _) (F.newCall_enumerate_1 _) (λobj=>F.args_object_init_2 obj _) F.entry_enumerate_new (j8d (lst:=lst) t w1.toArray) ⟨qw1,?_⟩;have z1:(zh1 s1.heap lst t).objs.size=s1.heap.objs.size+1:=Pa ..;have b2:(eh2 s1.heap lst t).get? (zh1 s1.heap lst t).objs.size=a8 _:=X3 _ rfl;have b1:(eh2 s1.heap lst t).get? s1.heap.objs.size=a8 _:=kj _ (X3 _ rfl);have kp:∀c o,s1.heap.get? c=a8 o->(eh2 s1.heap lst t).get? c=a8 o:=λc o e=>kj _ (kj _ e);show _/\_;rw[z1]at b2 ⊢;have I2:Inv X pins σ H1 { s1 with heap:=eh2 s1.heap lst t }:=I1.kept (t':=s1.toks) kp;have lt1:t<s1.heap.objs.size:=by
  unfold jj at qw1;cases lst with
  |true=>rw[if_pos rfl]at qw1;obtain⟨_,e,_⟩:=qw1;exact xx e
  |false=>rw[if_neg xj]at qw1;obtain⟨_,e,_⟩:=qw1;exact xx e
 have side:jk lst (eh2 s1.heap lst t) s1.heap.objs.size t 0:=by
  unfold jk;cases lst with
  |true=>rw[if_pos rfl];exact⟨_,b1,rfl,rfl⟩
  |false=>rw[if_neg xj];exact⟨_,b1,rfl,rfl⟩
 refine⟨⟨_,b2,rfl⟩,lO (s:={ s1 with heap:=eh2 s1.heap lst t }) b2 ?_⟩;refine⟨_,_,_,Ite X.K lst t,H1,rfl,I2,j3z (j:=s1.heap.objs.size) (Nat.succ_ne_self _) (P0 (S5 lt1)) (Xa lt1),⟨⟨_,b2⟩,side⟩,λc hc=>?_,q _ H1 g1 (j55 sq en)⟩;have hc':c=s1.heap.objs.size+1\/c=s1.heap.objs.size:=by simpa using hc
 have hge:s1.heap.objs.size<=c:=by rcases hc' with e|e<;>rw[e]<;>first|exact xu _|exact kN _ _
 obtain⟨f0,f1,f2,f3,f4,f5⟩:=I1.fpOk hge (I1.hok.fresh hge);exact⟨f0,f1,f2,f3,f4,f5⟩
end
section
variable{X:Cx}
def j75:OpR X (bB .FloorDiv) (rI (λ_ j=>0<j/\j<18446744073709551616) λi j=>.int (i/j)):=opI λi j _ _ _ _ _ hc q=>by
 have e:i/j=i.fdiv j:=by rw[iF _ (by omega)]
 refine floordiv_int (by omega) (by rw[<-e];exact q) (.inl (PyProof.noPylong_of_log2 ?_));have h2:(2:Nat)^64=18446744073709551616:=by decide
 have:=(Nat.log2_lt (n:=j.natAbs) (k:=64) (by omega)).mpr (by rw[h2];omega);omega
end
section
variable{X:Cx}{ρ:Rho}{a b e:au}{d d':D}{ds:List D}{i j:Int}{pos p p1 p2:aO}{P:Po}
def DE.fdivB(ha:DT X ρ a (.int i))(hb:DT X ρ b (.int j))(h:0<j/\j<18446744073709551616):DE X ρ (.BinOp a .FloorDiv b pos) (.int (i/j)):=DE.arI (g:=λi j=>i/j) j75 ha hb h
end
noncomputable def ddS(acc:List ar)(v:ar):List ar:=if acc.any (· == v)=ae then acc else acc++[v]
noncomputable def dd(ts:List ar):List ar:=ts.foldl ddS []
def jcq(ts:List ar)(v:ar):dd (ts++[v])=ddS (dd ts) v:=by simp[dd]
theorem j0b:∀(ts acc:List ar),(ts.foldl ddS acc).length<=acc.length+ts.length
 |[],acc=>by simp
 |v::ts,acc=>by
  have h:=j0b ts (ddS acc v);have h2:(ddS acc v).length<=acc.length+1:=by unfold ddS;split<;>simp
  rw[Pq,X7];omega
def Qw(P:az)(w:aE)(h:aH)(S:ai)(ts:List ar):Prop:=h.SetOf (dZ P w) S (λk=>(dd ts).any (· == k)) (dd ts).length
section
variable{P:az}{w:aE}{A:aF}{I S:ai}{fp wr:List ai}{Gn:Array gu->Array gu->Prop}{Pv:Nat->aj->Prop}{St:Nat->aq->Prop}{ts:List ar}
def Qw.stay{h h':aH}(x:Qw P w h S ts)(k:∀o,h.get? S=a8 o->h'.get? S=a8 o):Qw P w h' S ts:=by obtain⟨o,es,ep,t,ho,r⟩:=x;exact⟨o,es,ep,t,k o ho,r⟩
def Qw.more{h:aH}{v:ar}(x:h.SetOf (dZ P w) S (λk=>(dd ts).any (· == k) || decide (k=v)) (if (dd ts).any (· == v)=ae then(dd ts).length else(dd ts).length+1)):Qw P w h S (ts++[v]):=by
 unfold Qw;rw[jcq];have e1:(λk=>(ddS (dd ts) v).any (· == k))=λk=>(dd ts).any (· == k) || decide (k=v):=by
  funext k
  unfold ddS;by_cases h1:(dd ts).any (· == v)=ae
  .rw[if_pos h1];by_cases h2:k=v
   .subst h2;rw[h1];rfl
   .rw[decide_eq_false h2,iL]
  .rw[if_neg h1,List.any_append];congr 1;by_cases h2:k=v
   .subst h2;simp
   .have:¬v=k:=λz=>h2 z.symm;simp[h2,this]
 have e2:(ddS (dd ts) v).length=if (dd ts).any (· == v)=ae then(dd ts).length else(dd ts).length+1:=by unfold ddS;split<;>simp
 rw[e1,e2];exact x
def fill{R:f6->aq->Prop}(W:WalksS P w A.in1 I fp wr Gn ts.length Pv St)(out:S∉fp)(hv:∀i v,Pv i v->∃x t,ts[i]?=a8 x/\v=.str x t)(room:ts.length+1<iz):∀(r i:Nat)(q:aq),i+r=ts.length->St i q->Qw P w q.heap S (ts.take i) ->
  (∀q',Moved (S::wr) Gn q q'->Qw P w q'.heap S ts->R (.ok (.ret .none)) q')->bY (aC P w) A (.builtin "set.update.loop" ⟨[.ref S,.ref I],[]⟩) R q:=by
 have outw:S∉wr:=λz=>out (W.sub S z);have wider:∀b∈wr,b∈S::wr:=λb z=>xm S z;intro r;induction r with
 |zero =>intro i q hi st fu fin;have e:i=ts.length:=hi;subst e;refine bG eC ?_;rw[Pr c8 _];refine a9 (m:=cD (.ref I)) (W.done q _ _ st λq' mv=>?_);refine ak (fin q' (mv.mono wider) ?_);rw[Tj]at fu;exact fu.stay λo z=>mv.heap S o outw z
 |succ r ih =>
  intro i q hi st fu fin;have lt:i<ts.length:=by omega
  refine bG eC ?_;rw[Pr c8 _];refine a9 (m:=cD (.ref I)) (W.item i q _ _ lt st λv q' pv st' mv=>?_);obtain⟨x,t,hx,ev⟩:=hv i v pv;subst ev;have fu':Qw P w q'.heap S (ts.take i):=fu.stay λo z=>mv.heap S o outw z;refine a9 (m:=gw [bZ x t] (setAdd S (.str x t))) (bj ?_);unfold setAdd;refine bj (a9 ((dZ P w).pyHash (k:=x) (strKind_is P w x t) ?_));have small:(dd (ts.take i)).length+1<iz:=by
   have:=j0b (ts.take i) [];have e:(dd (ts.take i)).length<=i:=by
    have:([]:List ar).length+(ts.take i).length<=i:=by rw[Py,Pb];omega
    exact Xd (j0b (ts.take i) []) this
   omega
  refine wpAny_setAddHashed_of (knd:=dZ P w) (strKind_is P w x t) rfl fu' small λh' sb full2=>?_;have next:Qw P w h' S (ts.take (i+1)):=by rw[d7,hx];exact Qw.more full2
  refine ak ⟨bM c8 _,ih (i+1) _ (by omega) (W.frame _ q' _ _ st' (Pk _) λb hb o e=>?_) next λq2 mv2 full3=>?_⟩
  .have ne:b≠S:=λz=>out (z▸hb);rw[sb.2 b ne];exact e
  .refine fin q2 (Moved.trans W.gtrans ((mv.mono wider).then_heap (Pk _) λb o hb e=>?_) mv2) full3;have ne:b≠S:=λz=>hb (by rw[z];exact xr ..);rw[sb.2 b ne];exact e
end
section
variable{P:az}{w:aE}{A:aF}{E:k8w}{s:aq}
noncomputable abbrev Jv(led:Bool):dF:={ cls:=.type "set",dict:=af,data:=.set #[] 0 (.fresh 0 0 led) }
def j83{led:Bool}{l:ai}{its:Array aj}{ts:List ar}{X:nI->aq->Prop}{Y:k8w}(hh:A.handled=af)(hl:s.heap.IsList l its)(hts:∀(i:Nat)(v:aj),its[i]?=a8 v->∃x t,ts[i]?=a8 x/\v=.str x t)(hn:its.size=ts.length)(room:ts.length+1<iz)
  (q:∀h' tk,Qw P w h' s.heap.objs.size ts->(∀b o,b<s.heap.objs.size->s.heap.get? b=a8 o->h'.get? b=a8 o)->X (.done (.ret .none)) { s with heap:=h',toks:=tk }) :
  av (aC P w) A.in1 (cS.«set.__init__» ⟨[.ref s.heap.objs.size,.ref l],[]⟩) X Y { s with heap:=s.heap.push (Jv led) }:=by
 obtain⟨⟨oc,od,oda,os⟩,e1,e2,n,e3⟩:=hl;have e2:oc=.type "list":=e2;have e3:oda=.seq its n:=e3;subst e2 e3;have here:(s.heap.push (Jv led)).get? s.heap.objs.size=a8 (Jv led):=X3 _ rfl;have lst:(s.heap.push (Jv led)).get? l=a8 { cls:=.type "list",dict:=od,data:=.seq its n,slots:=os }:=kj _ e1;have ne1:=PySem.F.sub_list_set;have ne2:=PySem.F.sub_list_frozenset;have ne3:(dk "list" == dk "dict")=aa:=by decide
 have isl:(s.heap.push (Jv led)).IsList l its:=⟨_,lst,rfl,n,rfl⟩
 unfold cS.«set.__init__» noKeywords Builtin.Frozenset.updateFrom;generalize keep:iA=PI
 wp_walk
 subst keep;refine bu isl (a9 (wpAny_runValue ?_));have lt:l<s.heap.objs.size:=xx e1;have sz:(s.heap.push (Jv led)).objs.size=s.heap.objs.size+1:=Pa ..;have walk:=(Walks.list (prog:=P) (w:=w) (A:=A.in1.in1) (by simp[hh]) (s.heap.push (Jv led)).objs.size l (by rw[sz];exact Xa (S5 lt)) its).toS;rw[hn]at walk;refine fill (ts:=ts) (S:=s.heap.objs.size) walk (λz=>?_) hts room ts.length 0 { s with heap:=(s.heap.push (Jv led)).push { cls:=.type "list_iterator",data:=.fields #[.ref l,.int 0 0] } } (by omega) ⟨⟨_,X3 _ rfl,rfl,rfl⟩,isl.push _⟩ ?_ λq' mv full=>?_
 .rw[sz]at z;rcases xq.mp z with z|z
  .exact Xa (Ti _) z
  .exact P0 lt (xg.mp z)
 .have z:Qw P w (s.heap.push (Jv led)) s.heap.objs.size []:=(setObjOf_fresh (knd:=dZ P w) led).setOf here (by unfold iz;omega);exact z.stay λo e=>kj _ e
 .obtain⟨h',g',d',tk',os'⟩:=q';obtain⟨m1,m2,m3,m4,m5⟩:=mv;cases m2;cases m3;cases m4;refine ak (ak (q h' tk' full λb o hb e=>m1 b o ?_ (kj _ (kj _ e))));intro z;rw[sz]at z;rcases xq.mp z with z|z
  .exact Xa hb z
  .exact Xa (S5 hb) (xg.mp z)
def j5u{l:ai}{its:Array aj}{ts:List ar}{Q:k8w}(hh:A.handled=af)(hl:s.heap.IsList l its)(hts:∀(i:Nat)(v:aj),its[i]?=a8 v->∃x t,ts[i]?=a8 x/\v=.str x t)(hn:its.size=ts.length)(room:ts.length+1<iz)
  (q:∀h' tk,Qw P w h' s.heap.objs.size ts->(∀b o,b<s.heap.objs.size->s.heap.get? b=a8 o->h'.get? b=a8 o)->Q (.ref s.heap.objs.size) { s with heap:=h',toks:=tk }):av (aC P w) A (call (.type "set") [.ref l]) Q E s:=by
 have cs:=PySem.F.called_set;obtain⟨c0,tl0,hm0⟩:=cs.mro;have m1:=cs.made;have m2:=cs.sub;have m3:=cs.notType;have m4:=cs.canCreate;have m5:=PySem.F.typeCall_set_1 (.ref l);refine lq (codeAny_of_tree (?_:av _ _ (callAny (.type "set") _) _ _ _));refine ak ⟨Code.quiet_builtin _ (by decide +kernel),bG PySem.F.entry_type_call ?_⟩;rw[Around.under_plain (weight_type_call_type "set" [.ref l] []) rfl]
 repeat (any_goals (first|assumption|wp_step))
 refine cR (PySem.code_set_new_1 (.ref l) (E:=E) (Q₁:=λo q1=>∃led:Bool,o=.ref s.heap.objs.size/\q1={ s with heap:=s.heap.push (Jv led) }) λled=>⟨led,rfl,rfl⟩) λr q1 hr=>?_;cases r with
 |error e=>exact hr
 |ok fl =>
  cases fl with
  |ret o =>
   obtain⟨led,eo,eq1⟩:=hr;subst eo eq1;have ty:iq { s with heap:=s.heap.push (Jv led) } (.ref s.heap.objs.size) "set":=⟨_,X3 _ rfl,rfl⟩
   have m6:=cs.init.lookup;have m7:=cs.init.bind (.ref s.heap.objs.size)
   repeat (any_goals (first|assumption|wp_step))
   refine cR (codeAny_call_builtin (R:=wants (λr q2=>r=.none/\∃h' tk,q2={ s with heap:=h',toks:=tk }/\Qw P w h' s.heap.objs.size ts/\∀b o,b<s.heap.objs.size->s.heap.get? b=a8 o->h'.get? b=a8 o) E) cs.init.plain PySem.F.entry_set_init (PySem.check_set_init_1 ty ?_)) λr2 q2 hr2=>?_
   .exact j83 (led:=led) (by simp[hh]) hl hts hn room λh' tk full old=>⟨rfl,h',tk,rfl,full,old⟩
   .cases r2 with
    |error e=>exact hr2
    |ok fl2 =>
     cases fl2 with
     |ret r3 =>
      obtain⟨e3,h',tk,e4,full,old⟩:=hr2;subst e3 e4
      repeat (any_goals (first|assumption|wp_step))
      exact q _ _ full old
     |_=>exact hr2.elim
  |_=>exact hr.elim
end
section
variable{X:Cx}{ρ:Rho}{a:au}{p p1 p2 pos:aO}
def DE.lenSet {ts:List ar} (ha:DT X ρ a (.lst (ts.map D.str))) (hc:X.calm=ae) (room:ts.length+1<4096) (hm:X.mg "len" = af) (hm2:X.mg "set" = af) (hg:Gl X "len") (hg2:Gl X "set") (hs:ah [a] X.env=[(aa,aD a X.env)])
  (hs2:ah [.Call (.Name "set" p1) [a] [] p2] X.env=[(aa,aD (.Call (.Name "set" p1) [a] [] p2) X.env)]):DE X ρ (.Call (.Name "len" p) [.Call (.Name "set" p1) [a] [] p2] [] pos) (.int (dd ts).length):=λσ H Q R q pins s I=>by
 have inner:av (aC X.prog X.w) X.A (aD (.Call (.Name "set" p1) [a] [] p2) X.env) (λu s2=>∃(S:ai)(H1:Hp),u=.ref S/\Inv X pins σ H1 s2/\j0 H H1/\Qw X.prog X.w s2.heap S ts) X.xe s:=by
  refine aY (Jx I hg2 hm2 boot_set ?_);refine callWith_type1 (thn ((jc (es:=[]) peS jn hs).to (σ:=σ) (H:=H) (Q:=λvs H1=>∃(l:ai)(xs:List V),vs=[.ref l]/\j0 H H1/\SqL X.K H1 l xs/\j4 X.K H1 (ts.map D.str) xs) (ha σ H _ R λv H1 g ⟨l,xs,e,sq,en⟩=>⟨l,xs,by rw[e],g,sq,en⟩) p2 pins s I) λus s1 ⟨vs,H1,I1,r,l,xs,ev,g,sq,en⟩=>?_) hs rfl;subst ev;obtain⟨u,eu,r1⟩:=vals1 r;subst eu;cases(show u=aK l from r1);obtain⟨its,rv,pl,_⟩:=I1.list sq;rw[Rr en]at rv;have hlen:its.toArray.size=ts.length:=by rw[X5,<-rv.length,xf]
  refine j5u (ts:=ts) (I1.ok.hd hc) pl.isList (λi v hv=>?_) hlen (by show ts.length+1<4096;exact room) λh' tk full old=>?_
  .have hi:i<ts.length:=by have:=(Th.mp hv).1;omega
   obtain⟨w1,hw,t,ew⟩:=rv.get (x:=.str ts[i]) (i:=i) (by rw[xn,kh hi];rfl);have:its.toArray[i]?=a8 w1:=by simpa using hw
   rw[this]at hv;cases hv;exact⟨ts[i],t,kh hi,ew⟩
  .exact⟨_,H1,rfl,I1.kept (t':=tk) λb o e=>old b o (xx e) e,g,full⟩
 refine aY (Jx I hg hm d4 ?_);refine Tu (by rw[hs2];rfl) (fj ?_);show av _ _ (k8 ((aa,aD _ X.env)::aU pos [])) _ _ s;refine fQ (thn inner λu s2 h2=>g6 ?_);obtain⟨S,H1,rfl,I2,g,⟨o,es,ep,t,ho,hex,hd,hel,hmem,hb,hf,hn⟩⟩:=h2;refine call_len_set ho hex hd hf ?_ ?_
 .have:es.size<4096:=hb;omega
 .rw[hn];exact⟨.int _,H1,I2.tok _,⟨_,rfl⟩,q _ H1 g rfl⟩
end
section
variable{X:Cx}{ρ:Rho}{a b:au}{es:List au}{n:Nat}{pos p p1 p2 q1:aO}{ks:List zo}{ds:List D}{k:zo}
theorem Ey{P:az}{w:aE}:∀{ks:zo}{us:List aj},Vals (ks.map V.int) us->ItemsAre (bx P w) ks us
 |[],_,r=>by rw[cG]at r;cases r;exact .nil
 |k::ks,_,r=>by
  rw[X6]at r;cases r with
  |cons h t =>
   obtain⟨tk,e⟩:=(show ∃t,_=bC k t from h)
   subst e;exact .cons (by simp[bx,lJ]) (Ey t)
def Ut{pins:k8x}{σ:St}{H:Hp}{s:aq}{t:ai}(I:Inv X pins σ H s)(sq:SqT X.K H t (k.map V.int)):(ba (bx X.prog X.w)).is s.heap k t:=by obtain⟨its,rv,⟨o,e1,e2,m,e3⟩,_⟩:=I.tuple sq;exact⟨o,its.toArray,m,e1,e2,e3,by simpa using Ey rv⟩
def Y9{pins:k8x}{σ:St}{H:Hp}{s:aq}{d:ai}{xs:List (zo×ai×aj)}{ep:Nat}(I:Inv X pins σ H s)(hx:H d=a8 (.dI xs ep))(kt:∀x∈xs,SqT X.K H x.2.1 (x.1.map V.int)) :
  (d==bO)=aa/\xs.length<=aw/\s.heap.DictOfH (ba (bx X.prog X.w)) d xs:=by
 obtain⟨z1,z2,z3,od,en,h1,h2,h3,h4⟩:=(show jh X.prog X.w H s.heap d (.dI xs ep)from I.hok _ _ hx)
 exact⟨z2,z1,od,en,ep,h1,h2,h3,h4,λx hx=>Ut I (kt x hx),z3⟩
def Ls{xs:List (zo×ai×aj)}:(kI xs k).isSome=(xs.map λx=>x.1).contains k:=by
 induction xs with
 |nil=>rfl
 |cons x xs ih =>
  unfold kI at ih ⊢;rw[Option.isSome_map]at ih ⊢;rw[kT,X6,fX];by_cases z:x.1=k
  .simp[z]
  .have z':(k==x.1)=aa:=by simp;exact λe=>z e.symm
   rw[decide_eq_false z,z',lG];exact ih
theorem any_range:∀bs:List Bool,(aA bs.length).any (λi=>(bs[i]?).getD ae)=bs.any id
 |[]=>rfl
 |b::bs=>by rw[X7,eW,eE,lS,eE,<-any_range bs];rfl
def j15 (hc:X.calm=ae):J5 X (.builtin "any") (λxs H Q=>∃(l:ai)(bs:List Bool),xs=[.ref l]/\SqL X.K H l (bs.map V.bl)/\Q (.bl (bs.any id)) H):=by
 intro pins s σ H xs us Q I r ⟨l,bs,e,sq,q⟩;subst e;obtain⟨u,eu,ru⟩:=vals1 r;subst eu;cases ru;obtain⟨its,rv,pl,_⟩:=I.list sq;have hlt:l<s.heap.objs.size:=by obtain⟨_,_,e,_⟩:=pl;exact xx e
 have hl:its.length=bs.length:=by rw[<-rv.length,xf]
 refine call_any_walk (bu pl.isList ⟨s.heap.objs.size,[s.heap.objs.size,l],[s.heap.objs.size],its.toArray.size,_,_,λi=>(bs[i]?).getD ae,rfl,Walks.list (A:=X.A.in1) (I.ok.hd hc) _ _ (Xa hlt) its.toArray,⟨⟨_,X3 _ rfl,rfl,rfl⟩,pl.isList.push _⟩,?_,λh' tk kp=>?_⟩)
 .intro i v s' Q' E' hv hq;have hi:i<its.length:=by have:=Th.mp hv;obtain⟨h,_⟩:=this;simpa using h
  have hb:i<bs.length:=by omega
  obtain⟨w1,hw,rw1⟩:=rv.get (x:=.bl bs[i]) (i:=i) (by rw[xn,kh hb];rfl);have:its.toArray[i]?=a8 w1:=by simpa using hw
  rw[this]at hv;cases hv;cases rw1;simp only[kh hb,Te]at hq;exact br hq
 .have ev:(aA its.toArray.size).any (λi=>(bs[i]?).getD ae)=bs.any id:=by rw[X5,hl];exact any_range bs
  rw[ev];refine⟨.bl _,H,I.kept (t':=tk) λb o e=>kp b o ?_ (kj _ e),rfl,q⟩;intro z;rw[xg.mp z]at e;exact tu _ (xx e)
theorem DE.any {bs:List Bool} (ha:DT X ρ a (.lst (bs.map D.bl))) (hm:X.mg "any" = af) (hc:X.calm=ae) (hg:Gl X "any") (hs:ah [a] X.env=[(aa,aD a X.env)]):DE X ρ (.Call (.Name "any" p) [a] [] pos) (.bl (bs.any id)):=λσ H Q R q =>(v5 (j15 hc) hg hm boot_any (jc peS jn hs) (by decide) (by decide) hs).to (ha σ H _ R λv H1 g1 ⟨l,xs,e,sq,en⟩=>⟨l,bs,by rw[e],by rw[Ot en]at sq;exact sq,q _ H1 g1 rfl⟩)
end
def jhu:TE:=λ_ H Q=>∀p,H p=af->Q (.ref p) (upd H p (.dI [] 0))
def ji4(K:k8v)(td ty tv:TE):TS:=λD σ H=>tv σ H λv H1=>td σ H1 λx H2=>ty σ H2 λy H3 =>
 ∃(a b:ai)(xs:List (zo×ai×aj)) (ep:Nat) (k:zo),x=.ref a/\H3 a=a8 (.dI xs ep)/\(∀x∈xs,SqT K H3 x.2.1 (x.1.map V.int))/\y=.ref b/\SqT K H3 b (k.map V.int) /\
  (xs.map λx=>x.1).contains k=aa/\xs.length<aw/\∀u ep',RelV v u->D.nx σ (upd H3 a (.dI (xs++[(k,b,u)]) ep'))
section
variable{X:Cx}{pos pos':aO}{o i value:au}{td ty tv:TE}
def Inv.bigD{pins:k8x}{σ:St}{H:Hp}{s:aq}(I:Inv X pins σ H s):bO<s.heap.objs.size:=by have h:aB<s.heap.objs.size:=(I.mod.glob.keeps I.bk).lt;exact ph (by decide) h
def jba:PE X (.Dict [] [] pos) jhu:=λpins s σ H Q I h =>
 wpAny_Dict_empty ⟨.ref s.heap.objs.size,_,I.laid (a:=s.heap.objs.size) (o:=.dI [] 0) (t':=s.toks) (λ_ _ q=>kj _ q) (xu _)
  ⟨Xw _,beq_eq_false_iff_ne.mpr (bE (Xa I.bigD)),d8,_,#[],X3 _ rfl,⟨rfl,rfl,rfl⟩,rfl,rfl⟩,rfl,h _ (I.hok.fresh (xu _))⟩
def j1l(hu:X.A.units+100<aZ)(ho:PE X o td)(hi:PE X i ty)(hv:PE X value tv)(hs:aJ value (a8 (.Subscript o i pos')) pos.line X.env=pure aa) :
  PS X (.Assign [.Subscript o i pos'] value pos) (ji4 X.K td ty tv):=by
 intro pins s σ H D I h;refine wpAny_Assign_Subscript (thn (hv pins s σ H _ I h) λr s1 ⟨v,H1,I1,rv,q1⟩=>thn (ho pins s1 σ H1 _ I1 q1) λu s2 ⟨x,H2,I2,rx,q2⟩=>thn (hi pins s2 σ H2 _ I2 q2) λiv s3 ⟨y,H3,I3,ry,hq⟩=>?_) hs;obtain⟨a,b,xs,ep,k,ex,hx,kt,ey,sq,nk,hl,q⟩:=hq;subst ex ey;cases rx;cases ry;obtain⟨lo,hz,dd⟩:=Y9 I3 hx kt;refine wpAny_setItem_heap (hsz:=hz) (eJ (by omega)) (Ut I3 sq) dd λh' dd' sb=>?_;have na:kI xs k=af:=by
  have:=Ls (xs:=xs) (k:=k);rw[nk]at this;cases z:kI xs k with
  |none=>rfl
  |some _=>rw[z]at this;cases this
 rw[storedH_new na]at dd';obtain⟨ob,es,ep',w1,w2,w3,w4,w5,w6⟩:=dd';refine⟨σ,_,I3.write (x:=a) (e:=a) (o:=.dI (xs++[(k,b,r)]) ep') (t':=s3.toks+(ba (bx X.prog X.w)).draws k) (by rw[hx];exact True.intro) (.inl rfl) (λc z nc e=>(sb.2 c nc).trans e) ⟨ob,w1⟩ ?_,q r ep' rv⟩;exact⟨by simp;omega,lo,w6,ob,es,w1,w2,w3,w4⟩
end
section
variable{X:Cx}{ρ:Rho}{it e:au}{P:Po}{ds:List D}{x t y:Nat}{nx nt ny:ar}{n8:Nat}{p1 p2 p3 p4 p5 p6 p7 p8 p9 p10 p11 p12 p13 p14 p15 p16 p17 p18:aO}
def M6{H:Hp}{a:ai}{o:HO}(h:H a=a8 o):H=upd (del H [a]) a o:=funext λb=>by
 by_cases z:b=a
 .subst z;rw[jb];exact h
 .rw[jd z,j7 (by simpa using z)]
def j09{H:Hp}{a:ai}{o:HO}(h:H a=af):del (upd H a o) [a]=H:=funext λb=>by
 by_cases z:b=a
 .subst z;rw[qp (by simp)];exact h.symm
 .rw[j7 (by simpa using z),jd z]
def j1n{H F:Hp}{a:ai}{o:HO}(h:H a=a8 o):mrg [a] H F=upd F a o:=funext λb=>by
 by_cases z:b=a
 .subst z;rw[vz (by simp),jb];exact h
 .rw[ji (by simpa using z),jd z]
end
noncomputable def Ql:List zo->List D->zo->Option D
 |k'::ks,d::ds,k=>if k'=k then a8 d else Ql ks ds k
 |_,_,_=>af
theorem j1x{K:k8v}{H:Hp}{k:zo}{d:D}:∀{xs:List (zo×ai×aj)} {ds:List D} {vs:List V},Vals vs (xs.map λx=>x.2.2)->j4 K H ds vs->Ql (xs.map λx=>x.1) ds k=a8 d->∃p v,kI xs k=a8 p/\RelV v p.2/\Enc K H d v
 |[],_,_,_,_,h=>by cases h
 |x::xs,[],_,_,_,h=>by cases h
 |x::xs,d'::ds,_,rv,⟨v,r,e,h1,l⟩,h=>by
  subst e;rw[X6]at rv h;unfold kI;rw[kT];cases rv with
  |cons a b =>
   rw[Ql]at h;by_cases z:x.1=k
   .rw[if_pos z]at h;cases h;rw[decide_eq_true z];exact⟨x.2,v,rfl,a,h1⟩
   .rw[if_neg z]at h;rw[decide_eq_false z];exact j1x b l h
section
variable{X:Cx}{ρ:Rho}{a b:au}{d:D}{ds:List D}{ks:List zo}{k:zo}{pos p p1 p2 p3:aO}
def jis(hu:X.A.units+100<aZ):IxR X (λx y H Q=>∃(d:ai)(xs:List (zo×ai×aj)) (ep:Nat) (t:ai) (k:zo) (q:ai×aj) (v:V),x=.ref d/\y=.ref t/\H d=a8 (.dI xs ep)/\(∀x∈xs,SqT X.K H x.2.1 (x.1.map V.int))/\SqT X.K H t (k.map V.int)/\kI xs k=a8 q/\RelV v q.2/\Q v H):=by intro value slice pins s σ H x y v u Q I rx ry h hs;obtain⟨d,xs,ep,t,k,q,w,rfl,rfl,hx,kt,sq,hq,rq,hQ⟩:=h;cases rx;cases ry;obtain⟨lo,hz,dd⟩:=Y9 I hx kt;exact o1 dd.typeIs slot_dict_getitem.lookup (wpAny_getItem_heap (eJ (by omega)) (Ut I sq) dd hq ⟨w,H,I.tok _,rq,hQ⟩) hs
def DE.dget(hu:X.A.units+100<aZ)(ha:DE X ρ a (.dct ks ds))(hb:DT X ρ b (.tup (k.map D.int)))(h:Ql ks ds k=a8 d)(hs:Jz b):DE X ρ (.Subscript a b pos) d:=λσ H Q R q =>
 (Yy (jis hu) peS peS hs).to (ha σ H _ R λv H1 g1 ⟨c,xs,ep,vs,e,hx,ek,kt,rv,l⟩=>hb σ H1 _ (R.grow g1) λu H2 g2 ⟨t,ys,e2,sq,l2⟩=>by
  rw[z9 l2]at sq
  subst ek
  obtain⟨q',v',z1,z2,z3⟩:=j1x rv (l.mono (jf g2)) h
  exact⟨c,xs,ep,t,k,q',v',e,e2,g2 _ _ (of_del hx).2,λx hx=>g2.seqT (je.seqT (kt x hx)),sq,z1,z2,q v' H2 (g1.trans g2) z3⟩)
end
section
variable{X:Cx}{ρ:Rho}{it e1 e2:au}{P:Po}{ds:List D}{x t y:Nat}{nx nt ny:ar}{p1 p2 p3 p4 p5 p6 p10 p11 p12 p14 p16 p17 p18:aO}
theorem Z1:∀ns:zo,za (ns.map D.int)=ae
 |[]=>rfl
 |n::ns=>by rw[X6,za,Z1 ns];rfl
theorem Ij{α:Type}:∀{l:List α}{i:Nat}{x:α},l[i]?=a8 x->l.set i x=l
 |[],_,_,_=>rfl
 |y::l,0,x,h=>by simp at h;subst h;rfl
 |y::l,i+1,x,h=>by rw[T5,Ij (by simpa using h)]
end
def Nq{M:jT}{A:aF}{E:k8w}{s:aq}{β:Type}{a b:Nat}(f:Nat->β->nG (ForInStep β))(I:Nat->β->aq->Prop)(Q:β->aq->Prop)
  (turn:∀i c st,a<=i->i<b->I i c st->av M A (f i c) (λr s'=>match r with|.yield c'=>I (i+1) c' s'|.done c'=>Q c' s') E st)
  (fin:∀c st,I (max a b) c st->Q c st) (c:β) (h:I a c s):av M A (forIn [a:b] c f) Q E s:=by
 rw[dM];have hsz:([a:b]:Std.Legacy.Range).size=b-a:=by simp[fY]
 show av M A (forIn (mE a ([a:b]:Std.Legacy.Range).size 1) c f) Q E s;rw[hsz];refine fq f (λl c st=>∃i,a<=i/\i<=max a b/\l=mE i (max a b-i) 1/\I i c st) Q ?_ ?_ _ c ⟨a,xu _,by omega,by congr 1;omega,h⟩
 .rintro x rest c st ⟨i,hai,hib,hl,hI⟩;have hlt:i<max a b:=by
   rcases gN i (max a b)with h'|h'
   .exact h'
   .rw[show max a b-i=0 by omega]at hl;simp at hl
  obtain⟨n,hn⟩:∃n,max a b-i=n+1:=⟨max a b-i-1,by omega⟩
  rw[hn,kr]at hl;obtain⟨rfl,rfl⟩:=List.cons.inj hl;refine bV (turn x c st hai (by omega) hI) (λr st' h'=>?_) λ_ _ h=>h;cases r with
  |done c'=>exact h'
  |yield c'=>exact⟨x+1,by omega,by omega,by congr 1;omega,h'⟩
 .rintro c st ⟨i,hai,hib,hl,hI⟩;have:i=max a b:=by
   rcases gN i (max a b)with h'|h'
   .obtain⟨n,hn⟩:∃n,max a b-i=n+1:=⟨max a b-i-1,by omega⟩
    rw[hn,kr]at hl;cases hl
   .omega
  subst this;exact fin c st hI
def Ly(l:ai)(items:Array aj)(n:Nat)(dd:Option ai)(sl:Array (Option aj))(x:aj)(e:aj->Bool)(k:Nat)(hk:k<items.size)(h0:∀(j:Nat)(h:j<items.size),j<k->e items[j]=aa)(h1:e items[k]=ae) :
  kK (cS.«tuple.index» ⟨[.ref l,x],[]⟩)
   (λA R s=>s.heap.get? l=a8 { cls:=.type "tuple",dict:=dd,data:=.seq items n,slots:=sl }/\(∀y,y∈items->dm A.in1 s y x (e y))/\R (.ok (.ret (.int k s.toks))) { s with toks:=s.toks+1 }) :=
 .of_wp λprog w A R s h=>by
  obtain⟨hp,g,d,tk,os⟩:=s;obtain⟨hl,he,h⟩:=h
  wp_walk using iN hl,Nq _ (λi b s'=>b.1=af/\s'=⟨hp,g,d,tk,os⟩/\i<=k) _
  case turn =>
   rintro i c s'-hi ⟨hb,rfl,hik⟩;have hlt:i<items.size:=by omega
   have hy:items[i]?=a8 items[i]:=by simp[hlt]
   rw[hy];refine a9 (he items[i] (gv hlt) prog w _ _ ?_);by_cases z:i=k
   .subst z;rw[h1]
    wp_walk
    exact⟨_,rfl,h⟩
   .rw[h0 i hlt (by omega)]
    wp_walk
    exact⟨rfl,rfl,by omega⟩
  case fin =>rintro c s' ⟨hb,rfl,hik⟩;omega
  case h =>exact⟨rfl,rfl,Xw _⟩
section
variable{X:Cx}{ρ:Rho}{a e:au}{l:List D}{d:D}{p1 pos:aO}
noncomputable def ixD(d:D):List D->Option Nat
 |[]=>af
 |x::r=>if deq x d=ae then a8 0 else(ixD d r).map (· + 1)
theorem Ew{d:D}:∀{l:List D}{k:Nat},ixD d l=a8 k->∃x,l[k]?=a8 x/\deq x d=ae/\∀j y,j<k->l[j]?=a8 y->deq y d=aa
 |[],k,h=>by cases h
 |x::r,k,h=>by
  unfold ixD at h;split at h
  .rename_i z;cases h;exact⟨x,rfl,z,λj y hj=>absurd hj (l5 _)⟩
  .rename_i z;cases q:ixD d r with
   |none=>rw[q]at h;cases h
   |some m =>
    rw[q]at h;cases h;obtain⟨y,hy,e,f⟩:=Ew q;refine⟨y,hy,e,λj y hj hq=>?_⟩;cases j with
    |zero=>cases hq;simpa using z
    |succ j=>exact f j y (Nat.lt_of_succ_lt_succ hj) hq
def j4q (hu:X.A.units+100<aZ):MtR X "tuple.index" (λx vs H Q=>∃t xs ds d y k,x=.ref t/\vs=[y]/\SqT X.K H t xs/\j4 X.K H ds xs/\Enc X.K H d y/\D.depL ds<=97/\d.dep<10000/\ixD d ds=a8 k/\Q (.int (k:Nat)) H):=by
 rintro pins s σ H x vs v us Q I rx rv ⟨t,xs,ds,d,y,k,e,e',sq,l,en,hd,nd,hk,q⟩;subst e e';cases rx;obtain⟨u,eu,ru⟩:=rv.one;subst eu;obtain⟨its,ri,⟨⟨cl,dd,da,sl⟩,h1,h2,n,h3⟩,_⟩:=I.tuple sq;have h2:cl=.type "tuple":=h2;have h3:da=.seq its.toArray n:=h3;subst h2 h3;obtain⟨z,hz,ez,fz⟩:=Ew hk;have ll:=l.length;have rl:=ri.length;have hks:k<its.toArray.size:=by have:=(X4.mp hz).1;simp;omega
 have at_:∀(j:Nat)(h:j<its.toArray.size)(z:D),ds[j]?=a8 z->eqW X H d its.toArray[j]=deq z d:=λj h z hz=>by
  obtain⟨x,hx,ex⟩:=l.get hz;obtain⟨w,hw,rw⟩:=ri.get hx;have g1:its.toArray[j]=w:=by simp at h ⊢;rw[kh (by simpa using h)]at hw;exact ax hw
  have:=D.depL_le hz;rw[g1];exact Nb I (by omega) ex rw
 refine cj iU ⟨_,h1,rfl⟩ F.entry_tuple_index (F.args_tuple_index_2 _ _) (Ly t its.toArray n dd sl u (eqW X H d) k hks (λj h hj=>?_) (by rw[at_ k hks z hz];exact ez))
  ⟨h1,λy hy=>Us (n:=97) I en ru nd (by show X.A.units+1+97<aZ;omega) hd l ri y (by simpa using hy),⟨.int _,H,I.tok _,⟨_,rfl⟩,q⟩⟩
 have hlt:j<ds.length:=by simp at h;omega
 rw[at_ j h ds[j] (kh hlt)];exact fz j _ hj (kh hlt)
def DE.indexT {b:au} {ds:List D} {k:Nat} {p2:aO} (hu:X.A.units+100<aZ) (ha:DT X ρ a (.tup ds)) (hb:DT X ρ b d) (hd:D.depL ds<=97) (nd:d.dep<10000) (hk:ixD d ds=a8 k) (hbase:aR a "index" X.env (aD a X.env)=aD a X.env)
  (hfew:((aU p2 (ah [b] X.env)).all (λx=>!x.1)&&(cC p2 (bF [] X.env)).all (λx=>x.1.isSome)
   && decide (([b]:List au).length+([]:List bq).length+(if ([]:List bq).isEmpty then 0 else 1)<30))=ae) (hline:(p1.endLine==p2.line)=ae)
  (hs:ah [b] X.env=(aa,aD b X.env)::ah [] X.env):DE X ρ (.Call (.Attribute a "index" p1) [b] [] p2) (.int (k:Nat)):=λσ H Q R q =>
 (Bp PySem.F.plainAttrs_tuple iU PySem.F.type_tuple_index (j4q hu) peS (jc peS jn hs) hbase hfew hline hs rfl).to (ha σ H _ R λv H1 g1 ⟨t,xs,e,sq,l⟩=>⟨by rw[e];exact .inr (.inl ⟨rfl,xs,sq⟩),hb σ H1 _ (R.grow g1) λu H2 g2 e2 =>
  ⟨t,xs,ds,d,u,k,e,rfl,g2.seqT sq,l.mono g2,e2,hd,nd,hk,q _ H2 (g1.trans g2) rfl⟩⟩)
end
section
variable{X:Cx}{ρ:Rho}{σ:St}{H:Hp}{q:ai}{f:ar}{l:List D}{xs:List V}{kf:Nat->Int}{a:au}{d:D}{p p1 pk pos:aO}
theorem Yo{K:k8v}{H:Hp}:∀{ns:zo}{xs:List V},j4 K H (ns.map D.int) xs->xs=ns.map V.int
 |[],xs,h=>h
 |n::ns,xs,⟨x,r,e,en,l⟩=>by rw[e,show x=V.int n from en,Yo l];rfl
end
section
variable{X:Cx}{pins:k8x}{σ:St}{H:Hp}{l S I:ai}{xs:List V}{R:f6->aq->Prop}
def jhm(X:Cx)(pins:k8x)(σ:St)(H:Hp)(xs:List V)(bt:Nat->Nat->Bool):Prop:=∀(i j:Nat)(x y:V)(u v:aj)(s:aq)(Q:k8w)(E:k8w),xs[i]?=a8 x->xs[j]?=a8 y->RelV x u->RelV y v->Inv X pins σ H s ->
 Q (.bool (bt i j)) s->av (aC X.prog X.w) X.A.in1 (gh .Lt u v) Q E s
def jbj(bt:Nat->Nat->Bool)(hh:X.A.handled=af)(hl:SqL X.K H l xs)(hSI:S≠I)(fS:v6 X pins H S)(fI:v6 X pins H I)(cmp:jhm X pins σ H xs bt)
  (hR:∀x u s',xs[be bt (xs.length-1)]?=a8 x->RelV x u->Inv X pins σ H s'->R (.ok (.ret u)) s') :
  ∀(r j:Nat)(s:aq)(x:V)(u:aj)(c:Nat),xs.length-(j+1)=r->j+1<=xs.length->Inv X pins σ H s->s.heap.get? S=a8 (bT "list" #[u,u] c) ->
   s.heap.IsListIter I l (j+1)->xs[be bt j]?=a8 x->RelV x u->bY (aC X.prog X.w) X.A (.builtin "min.loop" ⟨[.ref I,.none,.ref S],[]⟩) R s:=by
 have hname:(toString "min" ++ toString ".loop":String) = "min.loop":=by decide
 have fp:∀b∈[S,I],v6 X pins H b:=λb hb=>by
  rcases xq.mp hb with e|hb
  .subst e;exact fS
  .rw[xg.mp hb];exact fI
 intro r;induction r with
 |zero =>
  intro j s x u c hr hj I1 oS it hx ru;have hin:j+1=xs.length:=by omega
  obtain⟨its,rv,p,_⟩:=I1.list hl;have hlen:=rv.length;refine bG T8 ?_;rw[Pr Xi _];show av _ X.A.in1 (dD (.ref S) >>= _) _ _ _;refine a9 (aS oS rfl ?_);show av _ X.A.in1 (tryCatch (cD (.ref I)) _ >>= _) _ _ _;refine a9 (bN (dB hh it p.isList (by simp;omega) λh' eb=>?_));have I2:Inv X pins σ H { s with heap:=h' }:=I1.chg (ch:=[S,I]) fp λb o hb e=>eb b o (λz=>hb (by simp[z])) e;have oS':h'.get? S=a8 (bT "list" #[u,u] c):=eb S _ hSI oS;show av _ X.A.in1 (jN S (λ_=>#[]) >>= _) _ _ _;refine a9 ?_;refine d6 oS' rfl (a9 (bJ (ak ?_)));have s1:=Ph h' S (bR λ_=>(#[]:Array aj));exact hR x u _ (by rw[<-hin];exact hx) ru (I2.chg (ch:=[S,I]) fp λb o hb e=>(s1.2 b (λz=>hb (by simp[z]))).trans e)
 |succ r ih =>
  intro j s x u c hr hj I1 oS it hx ru;have hlt:j+1<xs.length:=by omega
  obtain⟨its,rv,p,_⟩:=I1.list hl;have hlen:=rv.length;have hx1:xs[j+1]?=a8 xs[j+1]:=by simp[hlt]
  obtain⟨v,hv,rv1⟩:=rv.get hx1;refine bG T8 ?_;rw[Pr Xi _];show av _ X.A.in1 (dD (.ref S) >>= _) _ _ _;refine a9 (aS oS rfl ?_);show av _ X.A.in1 (tryCatch (cD (.ref I)) _ >>= _) _ _ _;refine a9 (bN (cg it p.isList (x:=v) (by simpa using hv) λh' it' sb=>?_));have I2:Inv X pins σ H { s with heap:=h' }:=I1.chg (ch:=[S,I]) fp λb o hb e=>(sb.2 b (λz=>hb (by simp[z]))).trans e;have oS':h'.get? S=a8 (bT "list" #[u,u] c):=(sb.2 S hSI).trans oS;obtain⟨oI,eI,cI,dI⟩:=id it';show av _ X.A.in1 (tryCatch (gw [v,v] (gh .Lt v u >>= _)) _ >>= _) _ _ _;refine a9 (bN (bj (a9 (cmp (j+1) (be bt j) _ _ v u _ _ _ hx1 hx rv1 ru I2 ?_))));refine a9 (bj (br ?_));refine a9 (bJ (ak ?_));cases hb:bt (j+1) (be bt j) with
  |true =>
   have s1:=Ph h' S (bR λ_=>#[v,v]);obtain⟨c2,hc2⟩:∃c2,(h'.update S (bR λ_=>#[v,v])).get? S=a8 (bT "list" #[v,v] c2):=⟨_,fM oS' λ_=>#[v,v]⟩
   simp only[if_true];refine a9 ?_;refine d6 oS' rfl (a9 (bJ ?_));rw[hname];exact ak ⟨bM Xi _,ih (j+1) _ _ v c2 (by omega) hlt (I2.chg (ch:=[S,I]) fp λb o hb e=>(s1.2 b (λz=>hb (by simp[z]))).trans e) hc2
    ⟨oI,(s1.2 I hSI.symm).trans eI,cI,dI⟩ (by simp only[be,hb,if_true];exact hx1) rv1⟩
  |false =>simp only[Xr,if_false];refine a9 (bJ ?_);rw[hname];exact ak ⟨bM Xi _,ih (j+1) _ x u c (by omega) hlt I2 oS' ⟨oI,eI,cI,dI⟩ (by simp only[be,hb,Xr,if_false];exact hx) ru⟩
def jez(bt:Nat->Nat->Bool)(hh:X.A.handled=af){s:aq}{Q:VK}{E:k8w}(I0:Inv X pins σ H s)(hl:SqL X.K H l xs)(hne:0<xs.length)(cmp:jhm X pins σ H xs bt)
  (hQ:∀x,xs[be bt (xs.length-1)]?=a8 x->Q x H):av (aC X.prog X.w) X.A (call (.builtin "min") [.ref l]) (EP X pins σ Q) E s:=by
 have hname:(toString "min" ++ toString ".loop":String) = "min.loop":=by decide
 obtain⟨its0,rv0,p0,_⟩:=I0.list hl;refine call_function_tree fZ fO fP (PySem.F.args_min1 _) ?_;show av _ X.A.in1 (bc "min" ["key","default"] 0 ⟨[],[]⟩ >>= _) _ _ s;refine a9 (gf (show bc "min" ["key","default"] 0 ⟨[],[]⟩=pure [af,af]from rfl) ?_);refine a9 (ak ?_);refine a9 (bu p0.isList ?_);refine a9 (jH ?_ (Xw _));rw[hname];generalize hA:s.heap.push { cls:=.type "list_iterator",data:=.fields #[.ref l,.int 0 0] }=h1;have z1:h1.objs.size=s.heap.objs.size+1:=by rw[<-hA];exact size_push' ..
 have gI:(h1.push (bT "list" #[] 0)).get? s.heap.objs.size=a8 { cls:=.type "list_iterator",data:=.fields #[.ref l,.int 0 0] }:=by rw[<-hA];exact kj _ (X3 _ rfl)
 have gS:(h1.push (bT "list" #[] 0)).get? h1.objs.size=a8 (bT "list" #[] 0):=X3 _ rfl;have I1:Inv X pins σ H { s with heap:=h1.push (bT "list" #[] 0) }:=I0.kept (t':=s.toks) λb o e=>kj _ (by rw[<-hA];exact kj _ e);have fI:v6 X pins H s.heap.objs.size:=I0.fpOk (xu _) (I0.hok.fresh (xu _));have fS:v6 X pins H h1.objs.size:=I0.fpOk (by rw[z1];exact Pk _) (I0.hok.fresh (by rw[z1];exact Pk _));have hSI:h1.objs.size≠s.heap.objs.size:=by rw[z1];exact P0 (Ti _)
 have fp:∀b∈[h1.objs.size,s.heap.objs.size],v6 X pins H b:=λb hb=>by
  rcases xq.mp hb with e|hb
  .subst e;exact fS
  .rw[xg.mp hb];exact fI
 refine ak ⟨bM Xi _,?_⟩;obtain⟨its,rv,p,_⟩:=I1.list hl;have hlen:=rv.length;have hx0:xs[0]?=a8 xs[0]:=by simp[hne]
 obtain⟨v,hv,rv1⟩:=rv.get hx0;refine bG T8 ?_;rw[Pr Xi _];show av _ X.A.in1 (dD (.ref _) >>= _) _ _ _;refine a9 (aS gS rfl ?_);show av _ X.A.in1 (tryCatch (cD (.ref s.heap.objs.size)) _ >>= _) _ _ _;refine a9 (bN (cg (i:=0) ⟨_,gI,rfl,rfl⟩ p.isList (x:=v) (by simpa using hv) λh' it' sb=>?_));have I2:Inv X pins σ H { s with heap:=h' }:=I1.chg (ch:=[h1.objs.size,s.heap.objs.size]) fp λb o hb e=>(sb.2 b (λz=>hb (by simp[z]))).trans e;have oS':h'.get? h1.objs.size=a8 (bT "list" #[] 0):=(sb.2 _ hSI).trans gS;obtain⟨oI,eI,cI,dI⟩:=id it';have s1:=Ph h' h1.objs.size (bR λ_=>#[v,v]);obtain⟨c2,hc2⟩:∃c2,(h'.update h1.objs.size (bR λ_=>#[v,v])).get? h1.objs.size=a8 (bT "list" #[v,v] c2):=⟨_,fM oS' λ_=>#[v,v]⟩
 show av _ X.A.in1 (jN h1.objs.size (λ_=>#[v,v]) >>= _) _ _ _;refine a9 ?_;refine d6 oS' rfl ?_;rw[hname];exact ak ⟨bM Xi _,jbj bt hh hl hSI fS fI cmp (λx u s' hx ru I=>⟨x,H,I,ru,hQ x hx⟩) _ 0 _ _ v c2 rfl hne
  (I2.chg (ch:=[h1.objs.size,s.heap.objs.size]) fp λb o hb e=>(s1.2 b (λz=>hb (by simp[z]))).trans e) hc2 ⟨oI,(s1.2 _ hSI.symm).trans eI,cI,dI⟩ hx0 rv1⟩
end
noncomputable def Qk(l:List zo)(i j:Nat):Bool:=HT.lexLt (l.getD i []) (l.getD j [])
noncomputable def dval(kvs:List (ar×Int))(k:ar):Option Int:=(kvs.find? λp=>decide (p.1=k)).map λp=>p.2
section
variable{X:Cx}{ρ:Rho}{a b e k:au}{rest:List aP}{P:Po}{kvs:List (ar×Int)}{z:ar}{n:Int}{i j:Nat}{nx ny:ar}{pos pos' p p1 p2 p3 p4 p5 p6 p7 p8:aO}{td ty tv:TE}{o value:au}
def j4r (hu:X.A.units+100<aZ):MtR X "list.index" (λx vs H Q=>∃t xs ds d y k,x=.ref t/\vs=[y]/\SqL X.K H t xs/\j4 X.K H ds xs/\Enc X.K H d y/\D.depL ds<=97/\d.dep<10000/\ixD d ds=a8 k/\Q (.int (k:Nat)) H):=by
 rintro pins s σ H x vs v us Q I rx rv ⟨t,xs,ds,d,y,k,e,e',sq,l,en,hd,nd,hk,q⟩;subst e e';cases rx;obtain⟨u,eu,ru⟩:=rv.one;subst eu;obtain⟨its,ri,⟨⟨cl,dd,da,sl⟩,n,h1,h2,h4,h3⟩,hz0⟩:=I.list sq;have h2:cl=.type "list":=h2;have h3:da=.seq its.toArray n:=h3;subst h2 h3;obtain⟨z,hz,ez,fz⟩:=Ew hk;have ll:=l.length;have rl:=ri.length;have hks:k<its.toArray.size:=by have:=(X4.mp hz).1;simp;omega
 have at_:∀(j:Nat)(h:j<its.toArray.size)(z:D),ds[j]?=a8 z->eqW X H d its.toArray[j]=deq z d:=λj h z hz=>by
  obtain⟨x,hx,ex⟩:=l.get hz;obtain⟨w,hw,rw⟩:=ri.get hx;have g1:its.toArray[j]=w:=by simp at h ⊢;rw[kh (by simpa using h)]at hw;exact ax hw
  have:=D.depL_le hz;rw[g1];exact Nb I (by omega) ex rw
 have hn:=Yi;have hks':k<its.length:=by simpa using hks
 refine cj ja ⟨_,h1,rfl⟩ F.entry_list_index (F.args_list_index_2 _ _) (SeqAt.list_indexAt t its.toArray n dd sl u (eqW X H d) k hks (by omega) (by rw[at_ k hks z hz];exact ez) (λj h hj=>?_))
  ⟨h1,λy hy=>Us (n:=97) I en ru nd (by show X.A.units+1+97<aZ;omega) hd l ri y (by simpa using hy),⟨.int _,H,I.tok _,⟨_,rfl⟩,q⟩⟩
 have hlt:j<ds.length:=by simp at h;omega
 rw[at_ j h ds[j] (kh hlt)];exact fz j _ hj (kh hlt)
def DE.indexL {ds:List D} {d:D} {k':Nat} (hu:X.A.units+100<aZ) (ha:DT X ρ a (.lst ds)) (hb:DT X ρ b d) (hd:D.depL ds<=97) (nd:d.dep<10000) (hk:ixD d ds=a8 k') (hbase:aR a "index" X.env (aD a X.env)=aD a X.env)
  (hfew:((aU p2 (ah [b] X.env)).all (λx=>!x.1)&&(cC p2 (bF [] X.env)).all (λx=>x.1.isSome)
   && decide (([b]:List au).length+([]:List bq).length+(if ([]:List bq).isEmpty then 0 else 1)<30))=ae) (hline:(p1.endLine==p2.line)=ae)
  (hs:ah [b] X.env=(aa,aD b X.env)::ah [] X.env):DE X ρ (.Call (.Attribute a "index" p1) [b] [] p2) (.int (k':Nat)):=λσ H Q R q =>
 (Bp cO ja PySem.F.type_list_index (j4r hu) peS (jc peS jn hs) hbase hfew hline hs rfl).to (ha σ H _ R λv H1 g1 ⟨t,xs,e,sq,l⟩=>⟨by rw[e];exact .inl ⟨rfl,xs,sq⟩,hb σ H1 _ (R.grow g1) λu H2 g2 e2 =>
  ⟨t,xs,ds,d,u,k',e,rfl,g2.seq sq,l.mono g2,e2,hd,nd,hk,q _ H2 (g1.trans g2) rfl⟩⟩)
end
section
variable{X:Cx}{ρ:Rho}{a e:au}{es:List au}{x:ar}{d:D}{p p1 p2 pos:aO}{y:ar}{ds:List D}
def Ui.grow{σ:St}{H H':Hp}(k:Ui X σ H x)(g:j0 H H'):Ui X σ H' x:=λpins H2 s' e C I g2 hC Fe=>k pins H2 s' e C I (g.trans g2) hC Fe
def DXA.head(ha:DX X ρ a x)(hs:ah (a::es) X.env=(aa,aD a X.env)::ah es X.env):DXA X ρ (a::es) x:=λσ H Q R k =>(jc peS paS hs).to (ha σ H _ R k)
def DXA.tail(ha:DT X ρ a d)(h:DXA X ρ es x)(hs:ah (a::es) X.env=(aa,aD a X.env)::ah es X.env):DXA X ρ (a::es) x:=λσ H Q R k =>(jc peS paS hs).to (ha σ H _ R λv H1 g _=>h σ H1 _ (R.grow g) (k.grow g))
def DX.args {f:ar} (ha:DXA X ρ (e::es) x) (hg:Gl X f) (hdb:(f==k8z)=aa) {fa:ai} (hfa:X.mg f=a8 (.ref fa)) (hk:W.keepIn X.K (.ref fa)=ae)
  (he:ah (e::es) X.env=(aa,aD e X.env)::ah es X.env) (hpl:(aU pos (ah es X.env)).any (·.1)=aa):DX X ρ (.Call (.Name f p) (e::es) [] pos) x:=λσ H Q R k pins s I=>by
 refine aY (Mg I hg hfa ?_ hdb);exact W.callWith_K (h₀:=X.base) I.ok.mod.kin hk (thn (ha σ H (λ_ _=>False) R k pos pins s I) λus s1 ⟨vs,H1,I1,r,z⟩=>z.elim) he hpl
end
noncomputable def Zm:zo->Int
 |[]=>0
 |a::r=>r.foldl max a
theorem Cu:∀(r:zo)(a:Int),r.foldl max a∈a::r/\∀b∈a::r,b<=r.foldl max a
 |[],a=>⟨xg.mpr rfl,λb hb=>by rw[xg.mp hb];exact i8 _⟩
 |c::r,a=>by
  rw[Pq];obtain⟨h1,h2⟩:=Cu r (max a c);refine⟨?_,λb hb=>?_⟩
  .rcases xq.mp h1 with z|z
   .rw[z];by_cases q:a<=c
    .rw[Int.max_eq_right q];exact xm _ xr
    .rw[Int.max_eq_left (by omega)];exact xr
   .exact xm _ (xm _ z)
  .have l:=h2 (max a c) xr;rcases xq.mp hb with z|z
   .rw[z];omega
   .rcases xq.mp z with z|z
    .rw[z];omega
    .exact h2 b (xm _ z)
def Oi{ns:zo}(h:ns≠[]):Zm ns∈ns/\∀b∈ns,b<=Zm ns:=by
 cases ns with
 |nil=>exact absurd rfl h
 |cons a r=>exact Cu r a
def jbl{ns:zo}{M:Int}(h1:M∈ns)(h2:∀a∈ns,a<=M):Zm ns=M:=by
 have hn:ns≠[]:=λe=>by rw[e]at h1;exact nomatch h1
 obtain⟨a,b⟩:=Oi hn;have:=h2 _ a;have:=b _ h1;omega
noncomputable def J0(ns:zo):Int:=-Zm (ns.map λn=>-n)
def Oh{ns:zo}(h:ns≠[]):J0 ns∈ns/\∀b∈ns,J0 ns<=b:=by
 obtain⟨h1,h2⟩:=Oi (ns:=ns.map λn=>-n) (by simpa using h);obtain⟨a,ha,e⟩:=Xj.mp h1;unfold J0;refine⟨?_,λb hb=>?_⟩
 .rw[<-e,Int.neg_neg];exact ha
 .have:=h2 _ (Xj.mpr ⟨b,hb,rfl⟩);omega
def Fv{ns:zo}{M:Int}(h1:M∈ns)(h2:∀a∈ns,M<=a):J0 ns=M:=by
 obtain⟨a,b⟩:=Oh (ns:=ns) λe=>by rw[e]at h1;exact nomatch h1
 have:=h2 _ a;have:=b _ h1;omega
section
variable{X:Cx}{ρ:Rho}{a b e:au}{es:List au}{x y:ar}{d:D}{i j:Int}{p p1 p2 p3 p4 pk pos:aO}{ds:List D}
def j97{pins:k8x}{s:aq}{σ:St}{H:Hp}{l:ai}{ns:zo}(I:Inv X pins σ H s)(sq:SqL X.K H l (ns.map V.int))(hne:ns≠[]):∃zs,s.heap.IsList l (gj zs)/\0<zs.size/\zs.size=ns.length/\∀i,i<zs.size->iH zs i=ns.getD i 0:=by
 obtain⟨its,rv,pl,_⟩:=I.list sq;have hl:its.length=ns.length:=by rw[<-rv.length,xf]
 have val:∀(i:Nat)(v:aj),its[i]?=a8 v->∃t,v=bC (ns.getD i 0) t:=by
  intro i v hv;have hi:i<its.length:=(X4.mp hv).1;have hi':i<ns.length:=by omega
  obtain⟨w1,hw,rw1⟩:=rv.get (x:=.int (ns.getD i 0)) (i:=i) (by rw[xn,kh hi',km,kh hi'];rfl);rw[hw]at hv;cases hv;exact rw1
 have hall:AllInts its.toArray:=by intro v hv;obtain⟨i,hi,e⟩:=T7.mp (show v∈its by simpa using hv);obtain⟨t,e'⟩:=val i v (by rw[kh hi,e]);exact⟨_,t,e'⟩
 obtain⟨zs,hz⟩:=hall.items;have pl':=pl.isList;rw[hz]at pl';have hsz:0<zs.size:=by
  have:its.toArray.size=(gj zs).size:=by rw[hz]
  have h1:0<ns.length:=List.length_pos_iff.mpr hne;simp[gj]at this;omega
 have hns:∀i,i<zs.size->iH zs i=ns.getD i 0:=by
  intro i hi;obtain⟨v1,e1⟩:∃v,(gj zs)[i]?=a8 v:=⟨_,dW (by simpa [gj]using hi)⟩
  obtain⟨t,ht⟩:=kF e1;rw[<-hz]at e1;obtain⟨t',ht'⟩:=val i _ (by simpa using e1);rw[ht]at ht';exact(Value.int.inj ht').1
 have len:zs.size=ns.length:=by
  have:its.toArray.size=(gj zs).size:=by rw[hz]
  simp[gj]at this;omega
 exact⟨zs,pl',hsz,len,hns⟩
def Lj (hc:X.calm=ae):J5 X (.builtin "max") (λxs H Q=>∃(l:ai)(ns:zo),xs=[.ref l]/\SqL X.K H l (ns.map V.int)/\ns≠[]/\Q (.int (Zm ns)) H):=by
 rintro pins s σ H xs us Q I r ⟨l,ns,e,sq,hne,q⟩;subst e;obtain⟨u,eu,ru⟩:=vals1 r;subst eu;cases ru;obtain⟨zs,pl',hsz,len,hns⟩:=j97 I sq hne;refine max_intList (I.ok.hd hc) pl' hsz λv h' tk hv hk=>?_;obtain⟨t,rfl⟩:=kF hv;obtain⟨h1,h2⟩:=argBest_gt (iH zs) (zs.size-1);have hM:Zm ns=iH zs (be (λi j=>decide (iH zs i>iH zs j)) (zs.size-1)):=by
  refine jbl ?_ λc hc=>?_
  .rw[hns _ (by omega)];rw[km,kh (by omega)];exact Xo _
  .obtain⟨k,hk,rfl⟩:=T7.mp hc;have:=h2 k (by omega);rw[hns k (by omega),km,kh hk]at this;exact this
 rw[hM]at q;exact⟨.int _,H,I.kept hk,⟨t,rfl⟩,q⟩
def j5v (hc:X.calm=ae):J5 X (.builtin "min") (λxs H Q=>∃(l:ai)(ns:zo),xs=[.ref l]/\SqL X.K H l (ns.map V.int)/\ns≠[]/\Q (.int (J0 ns)) H):=by
 rintro pins s σ H xs us Q I r ⟨l,ns,e,sq,hne,q⟩;subst e;obtain⟨u,eu,ru⟩:=vals1 r;subst eu;cases ru;obtain⟨zs,pl',hsz,len,hns⟩:=j97 I sq hne;refine min_intList (I.ok.hd hc) pl' hsz λv h' tk hv hk=>?_;obtain⟨t,rfl⟩:=kF hv;obtain⟨h1,h2⟩:=argBest_lt (iH zs) (zs.size-1);have hM:J0 ns=iH zs (be (λi j=>decide (iH zs i<iH zs j)) (zs.size-1)):=by
  refine Fv ?_ λc hc=>?_
  .rw[hns _ (by omega)];rw[km,kh (by omega)];exact Xo _
  .obtain⟨k,hk,rfl⟩:=T7.mp hc;have:=h2 k (by omega);rw[hns k (by omega),km,kh hk]at this;exact this
 rw[hM]at q;exact⟨.int _,H,I.kept hk,⟨t,rfl⟩,q⟩
def DE.max2 (ha:DT X ρ a (.int i)) (hb:DT X ρ b (.int j)) (hm:X.mg "max" = af) (hc:X.calm=ae) (hg:Gl X "max") (hs:ah [a,b] X.env=(aa,aD a X.env)::ah [b] X.env) (hs2:ah [b] X.env=(aa,aD b X.env)::ah [] X.env)
  (hpl:(aU pos (ah [b] X.env)).any (·.1)=aa):DE X ρ (.Call (.Name "max" p) [a,b] [] pos) (.int (if j>i then j else i)):=λσ H Q R q =>
 (v5 (j5x hc) hg hm o4 (jc peS (jc peS jn hs2) hs) (by decide) (by decide) hs hpl).to (ha σ H _ R λv H1 g1 e1=>hb σ H1 _ (R.grow g1) λu H2 g2 e2=>⟨i,j,by rw[show v=.int i from e1,show u=.int j from e2],q _ H2 (g1.trans g2) rfl⟩)
def DE.maxL {ns:zo} (ha:DT X ρ a (.lst (ns.map D.int))) (hn:ns≠[]) (hm:X.mg "max" = af) (hc:X.calm=ae) (hg:Gl X "max") (hs:ah [a] X.env=[(aa,aD a X.env)]):DE X ρ (.Call (.Name "max" p) [a] [] pos) (.int (Zm ns)):=λσ H Q R q =>(v5 (Lj hc) hg hm o4 (jc peS jn hs) (by decide) (by decide) hs).to (ha σ H _ R λv H1 g1 ⟨l,xs,e,sq,en⟩=>⟨l,ns,by rw[e],by rw[z9 en]at sq;exact sq,hn,q _ H1 g1 rfl⟩)
def DE.minL {ns:zo} (ha:DT X ρ a (.lst (ns.map D.int))) (hn:ns≠[]) (hm:X.mg "min" = af) (hc:X.calm=ae) (hg:Gl X "min") (hs:ah [a] X.env=[(aa,aD a X.env)]):DE X ρ (.Call (.Name "min" p) [a] [] pos) (.int (J0 ns)):=λσ H Q R q =>(v5 (j5v hc) hg hm kM (jc peS jn hs) (by decide) (by decide) hs).to (ha σ H _ R λv H1 g1 ⟨l,xs,e,sq,en⟩=>⟨l,ns,by rw[e],by rw[z9 en]at sq;exact sq,hn,q _ H1 g1 rfl⟩)
end
def j4.last{K:k8v}{H:Hp}{d:D}{ds:List D}:∀{xs:List V},j4 K H (ds++[d]) xs->∃ys y,xs=ys++[y]/\j4 K H ds ys/\Enc K H d y:=by
 induction ds with
 |nil =>intro xs h;obtain⟨v,r,e,ev,er⟩:=h;exact⟨[],v,by rw[e,er];rfl,rfl,ev⟩
 |cons c ds ih =>intro xs h;obtain⟨v,r,e,ev,l⟩:=h;obtain⟨ys,y,e2,l2,en⟩:=ih l;exact⟨v::ys,y,by rw[e,e2];rfl,⟨v,ys,rfl,ev,l2⟩,en⟩
noncomputable def ch1(c:Nat):ar:=⟨#[c]⟩
noncomputable def chs(y:ar):List D:=y.cps.toList.map λc=>D.str (ch1 c)
noncomputable def ascii(y:ar):Bool:=y.cps.all (· < 128)
noncomputable def Its(y:ar):It:=⟨λi _=>i<y.cps.size,λi H x H'=>H'=H/\∃c,y.cps[i]?=a8 c/\x=.str (ch1 c),λi _=>y.cps.size<=i⟩
def j6d {P:az} {w:aE} {K:k8v} {tg:au} (it:ai) (y:ar) (t:iR):Turn P w K tg (Its y) [it] it (λi h=>h.IsStrIter it "str_ascii_iterator" y t i) where
 mem:=by simp
 obj:=λi h st b hb=>by
  have e:b=it:=by simpa using hb
  subst e;obtain⟨o,e,c,d⟩:=st;exact⟨o,e,λv z=>by rw[d]at z;cases z⟩
 keep:=λi h h' st k=>let ⟨o,e,r⟩:=st;⟨o,k it (by simp) o e,r⟩
 item:=by intro X hP hw hK hc i pins s σ H E I hf st hg;subst hP hw hK;obtain⟨f0,f1,f2,f3,f4,f5⟩:=hf it (by simp);have W:=Walks.strAscii (prog:=X.prog) (w:=X.w) (I.ok.hd hc) it y t;refine W.item i s _ _ hg st λv h' tk hv st' kk=>?_;obtain⟨c,u,hcu,rfl⟩:=hv;have I1:Inv X pins σ H { s with heap:=h',toks:=tk }:=I.turned (λb o hb e=>kk b o (by simpa using hb) e) f0 f1 f3 f4 f5;obtain⟨o,e,oc,d⟩:=id st';exact⟨_,rfl,N6 (s:={ s with heap:=h',toks:=tk }) e oc d (by decide) ⟨.str (ch1 c),H,I1,⟨u,rfl⟩,⟨rfl,c,hcu,rfl⟩,st',λb hb=>(hf b hb).1⟩⟩
 done:=by intro X hP hw hK hc i pins s σ H E I hf st hg;subst hP hw hK;obtain⟨f0,f1,f2,f3,f4,f5⟩:=hf it (by simp);exact wpAny_pyNext_ascii_end (I.ok.hd hc) st (by have:y.cps.size<=i:=hg;simp;omega) λh' eb=>⟨rfl,I.turned (t':=s.toks) (λb o hb e=>eb b o hb e) f0 f1 f3 f4 f5⟩
 self:=λ_ _ _ _ _ st h=>wpAny_pyIter_striter_ascii st h
section
variable{X:Cx}{ρ:Rho}{a b c e tg it:au}{y z:ar}{i j k:Int}{p p2 pos:aO}
def j7n{K:k8v}{F:Hp}(y:ar):Ze K F (Its y) (chs y):=λi H A g hA=>by
 have hl:(chs y).length=y.cps.size:=by unfold chs;rw[xf,cM]
 rw[hl];refine⟨λh=>h,λh=>h,λx H' ⟨e,c,hc,ex⟩=>?_⟩;subst e ex;refine⟨j0.refl _,λd hd=>?_⟩;unfold chs at hd;rw[xn,dj,hc]at hd;cases hd;rfl
theorem DI.str(h:DT X ρ it (.str y))(ha:ascii y=ae):DI X ρ tg it (chs y):=λσ H R r q pins s I=>by
 refine thn (h σ H (λv H1=>v=.str y/\j0 H H1) r (λv H1 g e=>⟨e,g⟩) pins s I) λv s1 ⟨x,H1,I1,r1,ex,g1⟩=>?_;subst ex;obtain⟨t,rfl⟩:=(show ∃t,v=bZ y t from r1)
 refine wpAny_pyIter_ascii ha ?_;refine⟨s1.heap.objs.size,[s1.heap.objs.size],_,_,H1,rfl,I1.kept (t':=s1.toks) λb o e=>kj _ e,j6d _ y t,⟨_,X3 _ rfl,rfl,rfl⟩,λb hb=>?_,q _ H1 g1 (j7n y)⟩;have e:b=s1.heap.objs.size:=by simpa using hb
 subst e;exact I1.fpOk (xu _) (I1.hok.fresh (xu _))
noncomputable def inS(y z:ar):Bool:=!(gO z y 0 z.length 1).isEmpty
def Ck:OpR X (aX .Gt) (λx y H Q=>∃i j,x=.str i/\y=.str j/\Q (.bl (decide (j.cps.toList<i.cps.toList))) H):=by intro pins s σ H x y v u Q I rx ry h;obtain⟨i,j,rfl,rfl,q⟩:=h;obtain⟨t,rfl⟩:=rx;obtain⟨t',rfl⟩:=ry;exact P.gt_str (jr I q rfl)
def DE.ltS(ha:DT X ρ a (.str y))(hb:DT X ρ b (.str z)):DE X ρ (.Compare a [.Lt] [b] pos) (.bl (decide (y.cps.toList<z.cps.toList))):=λσ H Q R q =>(Jf Ci peS peS (zg _)).to (ha σ H _ R λv H1 g1 e1=>hb σ H1 _ (R.grow g1) λu H2 g2 e2=>⟨y,z,e1,e2,q _ H2 (g1.trans g2) rfl⟩)
def DB.ltS(ha:DT X ρ a (.str y))(hb:DT X ρ b (.str z)):DB X ρ (.Compare a [.Lt] [b] pos) (decide (y.cps.toList<z.cps.toList)):=λσ H Q R q =>(Je Ci peS peS (zg _)).to (ha σ H _ R λv H1 g1 e1=>hb σ H1 _ (R.grow g1) λu H2 g2 e2=>⟨y,z,e1,e2,_,rfl,q H2 (g1.trans g2)⟩)
def DE.gtS(ha:DT X ρ a (.str y))(hb:DT X ρ b (.str z)):DE X ρ (.Compare a [.Gt] [b] pos) (.bl (decide (z.cps.toList<y.cps.toList))):=λσ H Q R q =>(Jf Ck peS peS (zg _)).to (ha σ H _ R λv H1 g1 e1=>hb σ H1 _ (R.grow g1) λu H2 g2 e2=>⟨y,z,e1,e2,q _ H2 (g1.trans g2) rfl⟩)
def DB.gtS(ha:DT X ρ a (.str y))(hb:DT X ρ b (.str z)):DB X ρ (.Compare a [.Gt] [b] pos) (decide (z.cps.toList<y.cps.toList)):=λσ H Q R q =>(Je Ck peS peS (zg _)).to (ha σ H _ R λv H1 g1 e1=>hb σ H1 _ (R.grow g1) λu H2 g2 e2=>⟨y,z,e1,e2,_,rfl,q H2 (g1.trans g2)⟩)
theorem DE.inS(ha:DT X ρ a (.str y))(hb:DT X ρ b (.str z))(hm:aG .In b=aa):DE X ρ (.Compare a [.In] [b] pos) (.bl (inS y z)):=λσ H Q R q =>(Jf Cj peS peS hm).to (ha σ H _ R λv H1 g1 e1=>hb σ H1 _ (R.grow g1) λu H2 g2 e2=>⟨y,z,e1,e2,q _ H2 (g1.trans g2) rfl⟩)
theorem DB.inS(ha:DT X ρ a (.str y))(hb:DT X ρ b (.str z))(hm:aG .In b=aa):DB X ρ (.Compare a [.In] [b] pos) (inS y z):=λσ H Q R q =>(Je Cj peS peS hm).to (ha σ H _ R λv H1 g1 e1=>hb σ H1 _ (R.grow g1) λu H2 g2 e2=>⟨y,z,e1,e2,_,rfl,q H2 (g1.trans g2)⟩)
def mulOk_of(h1:1<=k/\k<=1000)(h2:y.length<=1000):MulOk y k:=by
 refine⟨?_,λ_ _=>?_,λ_ _=>?_⟩
 .simp;omega
 .have:(1000:Int)<=(2^63-1)/k:=Int.le_ediv_of_mul_le (by omega) (by omega);omega
 .have hk:k.toNat<=1000:=by omega
  have:y.length*k.toNat<=1000000:=Nat.mul_le_mul h2 hk;unfold di;rw[dX];simp;omega
def j2v:OpR X (bB .Mult) (λx y H Q=>∃i k,x=.str i/\y=.int k/\MulOk i k/\Q (.str (jY i k)) H):=by intro pins s σ H x y v u Q I rx ry h;obtain⟨i,k,rfl,rfl,hm,q⟩:=h;obtain⟨t,rfl⟩:=rx;obtain⟨t',rfl⟩:=ry;exact SB.mul hm λt' tk=>⟨.str _,H,I.un (t':=tk) Un.refl I.hok,⟨_,rfl⟩,q⟩
def DE.mulS(ha:DT X ρ a (.str y))(hb:DT X ρ b (.int k))(h1:1<=k/\k<=1000)(h2:y.length<=1000):DE X ρ (.BinOp a .Mult b pos) (.str (jY y k)):=λσ H Q R q =>(Yx j2v peS peS).to (ha σ H _ R λv H1 g1 e1=>hb σ H1 _ (R.grow g1) λu H2 g2 e2=>⟨y,k,e1,e2,mulOk_of h1 h2,q _ H2 (g1.trans g2) rfl⟩)
end
section
variable{X:Cx}{ρ ρ1 ρ':Rho}{e c:au}{ss sa sb:List aP}{is is2:List Nat}{d:D}{i:Nat}{x:ar}{p pos:aO}
def DMs(X:Cx)(ρ ρ':Rho)(is:List Nat)(ss:List aP):Prop:=∀(σ:St)(H:Hp)(E:Ends),Rep X.K ρ σ H->(∀σ' H',j0 H H'->Rep X.K ρ' σ' H'->(∀j,j∉is->σ'[j]?=σ[j]?)->E.nx σ' H')->Jr X ss E σ H
def DMt(X:Cx)(ρ ρ':Rho)(is:List Nat)(full tl:List aP):Prop:=∀(σ:St)(H:Hp)(E:Ends),Rep X.K ρ σ H->(∀σ' H',j0 H H'->Rep X.K ρ' σ' H'->(∀j,j∉is->σ'[j]?=σ[j]?)->Jr X tl E σ' H')->Jr X full E σ H
variable{tl:List aP}
end
def Kp(ρ ρ':Rho)(is:List Nat):Prop:=(∀b∈owns ρ',b∈owns ρ)/\∀j,j∉is->ρ'[j]?=ρ[j]?
noncomputable def pcF(b:ai)(k:Int):List (ar×V):=[("standing",.ref b),("spot",.int k)]
structure Ob where
 a:ai
 dx:ai
 b:ai
structure PcAt(C:ai)(H:Hp)(o:Ob)(ls:List ar)(k:Nat):Prop where
 ob:H o.a=a8 (.ins C o.dx (pcF o.b (k:Int)))
 li:H o.b=a8 (.lst (ls.map V.str))
def But(a:ai)(H H':Hp):Prop:=∀b o,b≠a->H b=a8 o->H' b=a8 o
structure PcT(K:k8v)(mg:k8y)(C fA fT fL fI:ai):Prop where
 cl:Cls K C
 nS:M5 K C "standing"
 nP:M5 K C "spot"
 mA:Meth K C "ahead" fA
 mT:Meth K C "taken" fT
 mL:Meth K C "all_taken" fL
 mkI:Mk K C fI
 mgC:mg "Pieces" = a8 (.ref C)
 len:mg "len" = af
def jal(C:ai):Sp:=λvs H Q _=>∃(o:Ob)(ls:List ar)(k:Nat),vs=[.ref o.a]/\PcAt C H o ls k/\Q (.str (ls.getD k "")) H
def jaj(C:ai):Sp:=λvs H Q _=>∃(o:Ob)(ls:List ar)(k:Nat),vs=[.ref o.a]/\PcAt C H o ls k/\∀H',PcAt C H' o ls (k+1)->But o.a H H'->Q (.str (ls.getD k "")) H'
def ji2(C:ai):Sp:=λvs H Q _=>∃(o:Ob)(ls:List ar)(k:Nat),vs=[.ref o.a]/\PcAt C H o ls k/\Q (.bl (decide (ls.length<=k))) H
section
variable{P:az}{w:aE}{K:k8v}{mg:k8y}{base:aH}{C fA fT fL fI f:ai}{fd:aM}{st:aP}
def jak(C:ai):Sp:=λvs H Q _=>∃(a dx:ai)(t:ar),vs=[.ref a,.str t]/\H a=a8 (.ins C dx [])/\t.length<=100000/\(o5 t " ").length<=aw/\∀b H',H b=af->PcAt C H' ⟨a,dx,b⟩ (o5 t " ") 0->But a H H'->Q .non H'
end
structure Pm where
 nx:Rho->Nat->Prop
 rt:D->Nat->Prop
 ex:ar->Rho->Prop
def FrM(a:ai)(ρ ρ':Rho)(H H':Hp):Prop:=j0 (del H (a::owns ρ)) (del H' (a::owns ρ'))
structure EndsM(X:Cx)(C:ai)(o:Ob)(ls:List ar)(ρ:Rho)(H:Hp)(P:Pm)(E:Ends):Prop where
 nx:∀ρ' k' σ' H',P.nx ρ' k'->Rep X.K ρ' σ' H'->PcAt C (del H' (owns ρ')) o ls k'->FrM o.a ρ ρ' H H'->E.nx σ' H'
 rt:∀d k' v H',P.rt d k'->PcAt C H' o ls k'->j0 (del H (o.a::owns ρ)) (del H' [o.a])->Enc X.K H' d v->E.rt v H'
 ex:∀x ρ' σ' H',P.ex x ρ'->Rep X.K ρ' σ' H'->FrM o.a ρ ρ' H H'->Ui X σ' H' x
structure PcX(X:Cx)(C:ai):Prop where
 ex:∃(fA fT fL fI:ai)(dA dT dL dI:aM),PcT X.K X.mg C fA fT fL fI/\(FnOk X.prog X.w X.K X.mg X.base CX0 1 fA dA ["self"] (jal C)/\Binds X.K dA ["self"] []) /\
  (FnOk X.prog X.w X.K X.mg X.base CX0 2 fT dT ["self"] (jaj C)/\Binds X.K dT ["self"] [])/\(FnOk X.prog X.w X.K X.mg X.base CX0 1 fL dL ["self"] (ji2 C)/\Binds X.K dL ["self"] []) /\
  (FnOk X.prog X.w X.K X.mg X.base CX0 1 fI dI ["self","text"] (jak C)/\Binds X.K dI ["self","text"] [])/\Room 3 X.A
def MSs(X:Cx)(C:ai)(o:Ob)(ls:List ar)(ρ:Rho)(k:Nat)(sts:List aP)(P:Pm):Prop :=
 ∀σ H E,Rep X.K ρ σ H->PcAt C (del H (owns ρ)) o ls k->EndsM X C o ls ρ H P E->Jr X sts E σ H
section
variable{X:Cx}{C:ai}{o:Ob}{ls:List ar}{ρ ρ1:Rho}{H H1 H':Hp}{P:Pm}{E:Ends}{k k':Nat}{st:aP}{sa rest:List aP}{σ:St}{pi i:Nat}{ob:dF}{x y f:ar}{p py pf p1 p2 p3 p4 pos:aO}{es:List au}{ds:List D}{d:D}
def Rep.set_rf{K:k8v}{a:ai}{o:dF}(R:Rep K ρ σ H):Rep K (ρ.set i (.raw a o rfN)) (σ.set i (a8 (.ref a))) H:=by
 have sub:(owns (ρ.set i (.raw a o rfN))).Sublist (owns ρ):=jg rfl;have g:j0 (del H (owns ρ)) (del H (owns (ρ.set i (.raw a o rfN)))):=J7 λb hb=>sub.subset hb;refine⟨by simp[R.len],λj d' h=>?_,λj a ds h=>?_,sub.nodup R.nd,λj a' o' x' h=>?_,R.tb⟩
 .rcases getElem?_set_of h with ⟨rfl,z,hl⟩|⟨n,h⟩
  .cases z
  .obtain⟨u,q,h⟩:=R.val j d' h;exact⟨u,by rw[qg n];exact q,h.mono g⟩
 .rcases getElem?_set_of h with ⟨rfl,z,_⟩|⟨n,h⟩
  .cases z
  .obtain⟨q,xs,h,l⟩:=R.own j a ds h;exact⟨by rw[qg n];exact q,xs,h,l.mono g⟩
 .rcases getElem?_set_of h with ⟨rfl,z,hl⟩|⟨n,h⟩
  .cases z;exact⟨Js (by rw[R.len];exact hl),.inl rfl⟩
  .obtain⟨q,h⟩:=R.raw j a' o' x' h;exact⟨by rw[qg n];exact q,h.mono g⟩
noncomputable def dOb:dF:={ cls:=.none }
end
noncomputable def startM(N:List ar)(a:ai)(ds:List D):Rho:=(qj N (.int 0::ds)).set 0 (.raw a dOb rfN)
def j2q{K:k8v}{H:Hp}{N:List ar}{ds:List D}{ws:List V}{a:ai}(tb:TabOk K H)(h:j4 K H ds ws):Rep K (startM N a ds) (start N (.ref a::ws)) H :=
 (Ve (N:=N) tb (show j4 K H (.int 0::ds) (.int 0::ws) from⟨.int 0,ws,rfl,rfl,h⟩)).set_rf (i:=0) (a:=a) (o:=dOb)
def j0z(N:List ar)(a:ai)(ds:List D):owns (startM N a ds)=[]:=by have h:(owns (startM N a ds)).Sublist (owns (qj N (.int 0::ds))):=jg rfl;rw[Qz]at h;exact List.sublist_nil.mp h
section
variable{X:Cx}{ρ:Rho}{a:au}{p p1 p2 pos:aO}
theorem ints_of:∀(ns:zo)(its:List aj),Vals (ns.map V.int) its->dz its ns
 |[],_,.nil=>.nil
 |_::ns,_,.cons ⟨_,e⟩ t=>by subst e;exact .cons _ _ (ints_of ns _ t)
noncomputable def ddI(ns:zo):zo:=firstMet (λi=>ns.getD i 0) ns.length
def DE.lenSetI {ns:zo} (ha:DT X ρ a (.lst (ns.map D.int))) (hc:X.calm=ae) (room:ns.length+1<4096) (hm:X.mg "len" = af) (hm2:X.mg "set" = af) (hg:Gl X "len") (hg2:Gl X "set") (hs:ah [a] X.env=[(aa,aD a X.env)])
  (hs2:ah [.Call (.Name "set" p1) [a] [] p2] X.env=[(aa,aD (.Call (.Name "set" p1) [a] [] p2) X.env)]):DE X ρ (.Call (.Name "len" p) [.Call (.Name "set" p1) [a] [] p2] [] pos) (.int (ddI ns).length):=λσ H Q R q pins s I=>by
 have inner:av (aC X.prog X.w) X.A (aD (.Call (.Name "set" p1) [a] [] p2) X.env) (λu s2=>∃(S:ai)(H1:Hp),u=.ref S/\Inv X pins σ H1 s2/\j0 H H1/\s2.heap.SetOf (bx X.prog X.w) S (λk'=>(ddI ns).any (· == k')) (ddI ns).length) X.xe s:=by
  refine aY (Jx I hg2 hm2 boot_set ?_);refine callWith_type1 (thn ((jc (es:=[]) peS jn hs).to (σ:=σ) (H:=H) (Q:=λvs H1=>∃(l:ai)(xs:List V),vs=[.ref l]/\j0 H H1/\SqL X.K H1 l xs/\j4 X.K H1 (ns.map D.int) xs) (ha σ H _ R λv H1 g ⟨l,xs,e,sq,en⟩=>⟨l,xs,by rw[e],g,sq,en⟩) p2 pins s I) λus s1 ⟨vs,H1,I1,r,l,xs,ev,g,sq,en⟩=>?_) hs rfl;subst ev;obtain⟨u,eu,r1⟩:=vals1 r;subst eu;cases(show u=aK l from r1);obtain⟨its,rv,pl,_⟩:=I1.list sq;rw[z9 en]at rv;have hlen:its.toArray.size=ns.length:=by rw[X5,<-rv.length,xf]
  refine call_set_list (ns:=ns) (I1.ok.hd hc) pl.isList ?_ (by rw[hlen];show ns.length+1<4096;exact room) λh' tk full old=>?_
  .exact ints_of ns its rv
  .rw[hlen]at full;exact⟨_,H1,rfl,I1.kept (t':=tk) λb o e=>old b o (xx e) e,g,full⟩
 refine aY (Jx I hg hm d4 ?_);refine Tu (by rw[hs2];rfl) (fj ?_);show av _ _ (k8 ((aa,aD _ X.env)::aU pos [])) _ _ s;refine fQ (thn inner λu s2 h2=>g6 ?_);obtain⟨S,H1,rfl,I2,g,⟨o,es,ep,t,ho,hex,hd,hel,hmem,hb,hf,hn⟩⟩:=h2;refine call_len_set ho hex hd hf ?_ ?_
 .have:es.size<4096:=hb;omega
 .rw[hn];exact⟨.int _,H1,I2.tok _,⟨_,rfl⟩,q _ H1 g rfl⟩
def DO.callT {S:List D->List D->Prop} {x:ar} {e:au} {es:List au} {ds l:List D} (c:Cal X x (spF X.K S)) (ha:DTA X ρ (e::es) ds) (hS:S ds l) (hn:za l=ae) (hg:Gl X x) (hdb:(x==k8z)=aa)
  (he:ah (e::es) X.env=(aa,aD e X.env)::ah es X.env) (hpl:(aU pos (ah es X.env)).any (·.1)=aa):DO X ρ (.Call (.Name x p) (e::es) [] pos) l:=λσ H Q R q=>by
 obtain⟨k,f,fd,ps,F,hr,hm,hk,hb,_⟩:=c.ex;refine(Ur F (hr.mono (Pk _)) hg hm hk hb .nil Bq paS hdb he hpl).to (ha σ H _ R λvs H1 g1 e1=>?_);show spF X.K S (vs++[]) H1 Q E0;rw[Xy];exact⟨[],ds,l,R.tb.mono g1,(λa h=>nomatch h),by rw[qt];exact e1,hS,λa xs H2 g2 n m z=>q a xs H2 (g1.trans g2) (g1.free n) m ((z.mono je).hide (λc hc=>by
  rcases xq.mp hc with z|z
  .rw[z];exact .inl ⟨xs,m⟩
  .exact .inl ((R.grow (g1.trans g2)).owned c z)) hn)⟩
end
section
variable{X:Cx}{ρ:Rho}{a:au}{p p1 p2 p3 pos:aO}{y:ar}{i n:Int}
def K9:J5 X (.type "int") (λxs H Q=>∃y n,xs=[.str y]/\ie y=a8 n/\y.length<=640/\Q (.int n) H):=by intro pins s σ H xs us Q I r h;obtain⟨y,n,rfl,hn,hl,q⟩:=h;obtain⟨u,rfl,t,rfl⟩:=vals1 r;exact PySem.W.KIN.call_text hn hl ⟨.int n,H,I.tok _,⟨_,rfl⟩,q⟩
def DE.intS (ha:DT X ρ a (.str y)) (hn:ie y=a8 n) (hl:y.length<=640) (hm:X.mg "int" = af) (hg:Gl X "int") (hs:ah [a] X.env=[(aa,aD a X.env)]):DE X ρ (.Call (.Name "int" p) [a] [] pos) (.int n):=λσ H Q R q =>(Vf K9 hg hm boot_int (jc peS jn hs) (by decide) (by decide) hs).to (ha σ H _ R λv H1 g1 e1=>⟨y,n,by rw[show v=.str y from e1],hn,hl,q _ H1 g1 rfl⟩)
end
section
variable{X:Cx}{ρ:Rho}{e:au}{pos:aO}
noncomputable def tupS(is:zo):ar:=(PyData.tuple (is.map PyData.int)).shown
end
def qe(K:k8v)(a:ai)(ks:List zo)(ns:zo)(F H:Hp):Prop:=∃(xs:List (zo×ai×aj)) (ep:Nat),H=upd F a (.dI xs ep)/\F a=af/\ks=(xs.map λz=>z.1)/\(∀z∈xs,SqT K F z.2.1 (z.1.map V.int))/\Vals (ns.map V.int) (xs.map λz=>z.2.2)
def spD(K:k8v)(S:List zo->zo->List D->D->List zo->zo->Prop):Sp:=λvs H Q _=>∃(a:ai)(F:Hp)(ks:List zo) (ns:zo) (ds:List D) (d:D) (ks':List zo) (ns':zo) (ws:List V),
 vs=.ref a::ws/\TabOk K F/\qe K a ks ns F H/\j4 K F ds ws/\S ks ns ds d ks' ns'/\∀v F' H',j0 F F'->qe K a ks' ns' F' H'->Enc K F' d v->Q v H'
structure CalD(X:Cx)(x:ar)(S:List zo->zo->List D->D->List zo->zo->Prop):Prop where
 ex:∃(k:Nat)(f:ai)(fd:aM)(ps:List ar),FnOk X.prog X.w X.K X.mg X.base CX0 k f fd ps (spD X.K S)/\Room (k+1) X.A/\X.mg x=a8 (.ref f)/\W.keepIn X.K (.ref f)=ae/\Binds X.K fd ps []
def DFx(X:Cx)(ρ:Rho)(x:Nat)(e:au)(ks:List zo)(ns:zo)(d:D)(ks':List zo)(ns':zo):Prop:=∀σ F H a Q,Rep X.K ρ σ F->σ[x]?=a8 (a8 (.ref a))->qe X.K a ks ns F H ->
 (∀v F' H',j0 F F'->qe X.K a ks' ns' F' H'->Enc X.K F' d v->Q v H')->Jo X e σ H Q
section
variable{X:Cx}{ρ:Rho}{e c:au}{es:List au}{d:D}{ds:List D}{σ:St}{F H:Hp}{a:ai}{ks ks':List zo}{ns ns':zo}{x:Nat}{nx g:ar}{p p1 pos:aO}
def j2n{A:List ai}{Q Q':List V->Hp->Prop}(hA:∀a∈A,Hd (H a))(h:Ua X es σ (del H A) Q')(hq:∀v F,Q' v F->(∀a∈A,F a=af)->Q v (mrg A H F)):Ua X es σ H Q :=
 λpos pins s I=>thn (h pos _ s (I.hide hA)) λv s' ⟨x,F,I',r,q⟩=>let ⟨n,I2⟩:=I.unhide hA I';⟨x,_,I2,r,hq x F q n⟩
def qe.hd(h:qe X.K a ks ns F H):∀b∈[a],Hd (H b):=λb hb=>by obtain⟨xs,ep,e,_⟩:=h;exact .inr ⟨xs,ep,by rw[xg.mp hb,e];exact jb⟩
theorem qe.del(h:qe X.K a ks ns F H):L2.del H [a]=F:=by obtain⟨xs,ep,e,n,_⟩:=h;rw[e];exact j09 n
theorem qe.mrg{F':Hp}(h:qe X.K a ks ns F H)(g:j0 F F')(n:F' a=af):qe X.K a ks ns F' (L2.mrg [a] H F'):=by obtain⟨xs,ep,e,_,ek,kt,rv⟩:=h;exact⟨xs,ep,by rw[e];exact j1n jb,n,ek,λz hz=>g.seqT (kt z hz),rv⟩
def qe.same(h:qe X.K a ks ns F H):j0 F H:=by obtain⟨xs,ep,e,n,_⟩:=h;rw[e];exact j6 n
def Dh{Q:VK}(R:Rep X.K ρ σ F)(h:qe X.K a ks ns F H)(he:DE X ρ e d)(q:∀v F' H',j0 F F'->qe X.K a ks ns F' H'->Enc X.K (L2.del F' (owns ρ)) d v->Q v H'):Jo X e σ H Q :=
 j2m (A:=[a]) (Q':=λv F'=>j0 F F'/\Enc X.K (L2.del F' (owns ρ)) d v) h.hd (by rw[h.del];exact he σ F _ R λv F' g e=>⟨g,e⟩) λv F' ⟨g,e⟩ n=>q v F' _ g (h.mrg g (n a (by simp))) e
def jca{b:Bool}{Q:Bool->Hp->Prop}(R:Rep X.K ρ σ F)(h:qe X.K a ks ns F H)(hc:DB X ρ c b)(q:∀F' H',j0 F F'->qe X.K a ks ns F' H'->Q b H'):Fd X c σ H Q :=
 Bk (A:=[a]) (Q':=λv F'=>j0 F F'/\v=b) h.hd (by rw[h.del];exact hc σ F _ R λF' g=>⟨g,rfl⟩) λv F' ⟨g,e⟩ n=>by subst e;exact q F' _ g (h.mrg g (n a (by simp)))
def jcb{Q:List V->Hp->Prop}(R:Rep X.K ρ σ F)(h:qe X.K a ks ns F H)(he:DA X ρ es ds)(q:∀vs F' H',j0 F F'->qe X.K a ks ns F' H'->j4 X.K (L2.del F' (owns ρ)) ds vs->Q vs H'):Ua X es σ H Q :=
 j2n (A:=[a]) (Q':=λv F'=>j0 F F'/\j4 X.K (L2.del F' (owns ρ)) ds v) h.hd (by rw[h.del];exact he σ F _ R λv F' g e=>⟨g,e⟩) λv F' ⟨g,e⟩ n=>q v F' _ g (h.mrg g (n a (by simp))) e
def DFx.call{S:List zo->zo->List D->D->List zo->zo->Prop}(cl:CalD X g S)(ha:DA X ρ es ds)(hS:S ks ns ds d ks' ns')(ho:owns ρ=[])
  (hN:X.N[x]?=a8 nx) (hv:Vis X.env.scope nx) (hd:(nx==k8z)=aa) (hcd:(nx==k90)=aa) (hg:Gl X g) (hdb:(g==k8z)=aa)
  (hs:ah (.Name nx p1::es) X.env=(aa,aD (.Name nx p1) X.env)::ah es X.env) (hpl:(aU pos (ah es X.env)).any (·.1)=aa):DFx X ρ x (.Call (.Name g p) (.Name nx p1::es) [] pos) ks ns d ks' ns':=λσ F H a Q R hσ h q=>by
 obtain⟨n,fa,fd,ps,FN,hr,hm,hkp,hb⟩:=cl.ex;refine(Ur FN (hr.mono (Pk _)) hg hm hkp hb .nil Bq (jc (v4 hN hv hd hcd) paS hs) hdb hs hpl).to ?_;refine⟨_,hσ,jcb R h ha λvs F1 H1 g1 h1 e1=>?_⟩;rw[ho,qt]at e1;exact⟨a,F1,ks,ns,ds,d,ks',ns',vs,by rw[Xy],R.tb.mono g1,h1,e1,hS,λv F' H' g2 h2 ev=>q v F' H' (g1.trans g2) h2 ev⟩
end
section
variable{X:Cx}{pins:k8x}{σ:St}{H2 F2:Hp}{s2:aq}{ρ:Rho}{elt iter:au}{scope:bH}{pos py:aO}{ds rs:List D}{x j:Nat}{y:ar}{a:ai}{ks:List zo}{ns:zo}
def jcs{J:It}{fp:List ai}{it:ai}{tn:Nat->aH->Prop}(I2:Inv X pins σ H2 s2)(R2:Rep X.K ρ σ F2)(ho:owns ρ=[])(hxs:σ[x]?=a8 (a8 (.ref a)))(hxj:x≠j)(h2:qe X.K a ks ns F2 H2)(T:Turn X.prog X.w X.K (.Name y py) J fp it tn)(st2:tn 0 s2.heap)(f2:∀b∈fp,v6 X pins H2 b)
  (ok:Ze X.K F2 J ds) (hc:X.calm=ae) (hkind:scope.kind=.function) (hok:v7 scope X.env X.N [j]=ae) (hj:ρ[j]?=a8 .un) (hsz:ds.length<=aw)
  (hG:∀C s H fp pn,PG (cCx X scope C s H fp pn) (.Name y py) (Kg j))
  (W:Nat->List zo->zo->Prop) (h0:W 0 ks ns)
  (hb:∀C s H fp pn i d ks ns,ds[i]?=a8 d->W i ks ns->∃r ks' ns',DFx (cCx X scope C s H fp pn) (ρ.set j (.val d)) x elt ks ns r ks' ns'/\rs[i]?=a8 r/\W (i+1) ks' ns')
  {E:k8w} {RR:aj->ai->f6->aq->Prop}
  (hRR:∀D C xs F' H' ks' ns' s' m,Inv X pins σ H' s'->j0 F2 F'->F2 D=af->F' D=a8 (.lst xs)->j4 X.K (del F' [D]) (rs.take ds.length) xs->qe X.K a ks' ns' F' H'->W ds.length ks' ns'->s'.heap.Ns C m->Loose X pins H' C->RR (.ref D) C (.ok .next) s') :
  av (aC X.prog X.w) X.A (lQ []) (λacc s₃=>av (aC X.prog X.w) X.A (eK scope X.env.globals (zb X.env scope.names []) [] X.env.qual af .none (a8 X.env)) (λcenv s₄ =>
   bY (aC X.prog X.w) X.A (.compStart (.ListComp elt [⟨.Name y py,iter,[],0⟩] scope pos) 0 (.ref it) acc { cenv with scope:=ka scope X.env }) (RR acc cenv.locals) s₄) E s₃) E s2:=by
 refine thn (j0c (RR:=RR) I2 T st2 f2 hkind hok λC Dd h₁ okc I0 hDd hDlt hD0 old=>?_) λacc s₃ h=>thn h λcenv s₄ h=>h.2;have hDlt:@LT.lt Nat _ Dd C:=hDlt;have pinlt:∀p∈X.pn++pins,p.1<Dd:=λp hp=>by rw[<-hDd];exact xx (I2.pin p hp).1
 have celllt:∀y c,X.env.cells.lookup y=a8 c->c<Dd:=λy c h=>by obtain⟨v,o,e,_⟩:=I2.cell y c h;rw[<-hDd];exact xx e
 have loclt:X.env.locals<Dd:=by rw[<-hDd];exact I2.lt
 have fplt:∀b∈fp,b<Dd:=λb hb=>by obtain⟨o,e,_⟩:=T.obj _ _ st2 b hb;rw[<-hDd];exact xx e
 have fpok:∀{H':Hp},(∀b∈fp,H' b=af)->∀b∈fp,v6 (cCx X scope C s2 H2 fp (X.pn++pins)) [] H' b:=λ{H'} hn b hb =>⟨hn b hb,(okc.exf b hb).1,okc.exfs b hb,.inl hb,(okc.exf b hb).2,λp hp=>by rw[Xy]at hp;exact(f2 b hb).2.2.2.2.2 p hp⟩
 have hxc:x∉[j]:=λz=>hxj (xg.mp z);have R0:Rep X.K ρ (mask [j] σ) F2:=R2.weaken (Ub _ _) λj' hj'=>Oj λz=>hj' (by rw[xg.mp z];exact hj);have e0:del (upd H2 Dd (.lst [])) [Dd]=H2:=by
  rw[Zg (xg.mpr rfl)]
  funext b
  by_cases z:b∈[Dd]
  .rw[qp z,xg.mp z,hD0]
  .exact j7 z
 have haD:a≠Dd:=λz=>by obtain⟨xs,ep,e,_⟩:=id h2;rw[<-z,e,jb]at hD0;cases hD0
 have F2D:F2 Dd=af:=by obtain⟨xs,ep,e,_⟩:=id h2;rw[e,jd (bE haD)]at hD0;exact hD0
 have loop:∀s₃:aq,s₃={ s2 with heap:=h₁ } ->
   bY (aC X.prog X.w) X.A (.compLoop (.ListComp elt [⟨.Name y py,iter,[],0⟩] scope pos) 0 (.ref it) (.ref Dd) (kH scope (aT (C+1) scope.names (zb X.env scope.names [])) C X.env)) (RR (.ref Dd) C) s₃:=by
  rintro s₃ rfl;refine Rx (λn s=>∃i σ' H' F' ys ks' ns',Inv (cCx X scope C s2 H2 fp (X.pn++pins)) [] σ' H' s/\tn i s.heap/\(∀b∈fp,H' b=af)/\i<=ds.length/\n=ds.length-i/\Rep X.K ρ σ' F'/\σ'[x]?=a8 (a8 (.ref a))/\qe X.K a ks' ns' F' (del H' [Dd])/\j0 F2 F'/\H' Dd=a8 (.lst ys) /\
   j4 X.K F' (rs.take i) ys/\ys.length=i/\W i ks' ns') ?_ ds.length
   ⟨0,mask [j] σ,upd H2 Dd (.lst []),F2,[],ks,ns,I0,T.keep _ _ _ st2 (λb _ o e=>old b o e),λb hb=>by rw[jd (Xa (fplt b hb))];exact(f2 b hb).1,Xw _,rfl,R0,by rw[Oj hxc];exact hxs,by rw[e0];exact h2,j0.refl _,jb,rfl,rfl,h0⟩
  rintro n s3 ⟨i,σ3,H3,F3,ys,ks3,ns3,I3,st3,fr3,hle,rfl,R3,hx3,h3,g3,m3,en3,hyl,w3⟩;have e3:del H3 [Dd,a]=F3:=by rw[show del H3 [Dd,a]=del (del H3 [Dd]) [a]from by rw[Jy];rfl];exact h3.del
  have a3:∃xs ep,H3 a=a8 (.dI xs ep)/\ks3=(xs.map λz=>z.1)/\(∀z∈xs,SqT X.K F3 z.2.1 (z.1.map V.int))/\Vals (ns3.map V.int) (xs.map λz=>z.2.2):=by
   obtain⟨xs,ep,e,_,q1,q2,q3⟩:=id h3;refine⟨xs,ep,?_,q1,q2,q3⟩;have:del H3 [Dd] a=a8 (.dI xs ep):=by rw[e];exact jb
   exact(of_del this).2
  obtain⟨xs3,ep3,ea3,q1,q2,q3⟩:=a3;obtain⟨go,stop,yld⟩:=ok i H3 [Dd,a] (by rw[e3];exact g3) λb hb=>by
   rcases xq.mp hb with e|hb
   .rw[e,m3];simp
   .rw[xg.mp hb,ea3];simp
  by_cases hlt:i<ds.length
  .refine thn (T.item (cCx X scope C s2 H2 fp (X.pn++pins)) rfl rfl rfl hc i [] s3 σ3 H3 (λ_ _=>False) I3 (fpok fr3) st3 (go hlt)) λr s4 ⟨u,hr,h4⟩=>?_;subst hr;refine thn h4 λ_ s5 ⟨v0,H5,I5,r5,y5,st5,fr5⟩=>?_;obtain⟨g5,en5⟩:=yld v0 H5 y5;have hd:ds[i]?=a8 ds[i]:=kh hlt;obtain⟨r0,ks8,ns8,hE,hr0,w8⟩:=hb C s2 H2 fp (X.pn++pins) i ds[i] ks3 ns3 hd w3;have m5:H5 Dd=a8 (.lst ys):=g5 _ _ m3;have hA:∀b∈[Dd],Hd (H5 b):=λb hb=>.inl ⟨ys,by rw[xg.mp hb];exact m5⟩;have I5p:=I5.pinned (fpok fr5) (T.obj _ _ st5);have I5h:=I5p.hide hA;have s35:j0 F3 (del H5 [Dd,a]):=by rw[<-e3];exact jf g5
   have na5:del H5 [Dd,a] a=af:=qp (by simp);have h5:qe X.K a ks3 ns3 (del H5 [Dd,a]) (del H5 [Dd]):=by
    refine⟨xs3,ep3,?_,na5,q1,λz hz=>s35.seqT (q2 z hz),q3⟩;have:del H5 [Dd] a=a8 (.dI xs3 ep3):=by rw[j7 (by simpa using haD)];exact g5 _ _ ea3
    rw[show del H5 [Dd,a]=del (del H5 [Dd]) [a]from by rw[Jy];rfl];exact M6 this
   have R5:Rep X.K ρ σ3 (del H5 [Dd,a]):=R3.grow s35;have en5':Enc X.K (del (del H5 [Dd,a]) (owns ρ)) ds[i] v0:=by rw[ho,qt];exact en5 _ hd
   refine thn (hG C s2 H2 fp (X.pn++pins) _ s5 σ3 (del H5 [Dd]) v0 u (λσ6 F6=>σ6=σ3.set j (a8 v0)/\F6=del H5 [Dd]) I5h r5 ⟨rfl,rfl⟩) λ_ s6 ⟨σ6,F6,I6,e6,e6'⟩=>?_;subst e6 e6';have R6:Rep X.K (ρ.set j (.val ds[i])) (σ3.set j (a8 v0)) (del H5 [Dd,a]):=R5.set_val en5';have hx6:(σ3.set j (a8 v0))[x]?=a8 (a8 (.ref a)):=by rw[qg (bE hxj)];exact hx3
   rw[fE];refine ak ?_;rw[if_pos rfl];have jS:∀{F:Hp}{s':aq},Inv (cCx X scope C s2 H2 fp (X.pn++pins)) ([]++Qy fp s5.heap) (σ3.set j (a8 v0)) F s'->Inv (cCx X scope C s2 H2 fp (X.pn++pins)) [] (σ3.set j (a8 v0)) F s'/\tn (i+1) s'.heap/\∀b∈fp,F b=af:=λ{F s'} I=>by refine⟨I.unpinned,T.keep _ _ _ st5 λb hb o e=>(I.pin (b,o) (Xb _ (Xb _ (Jk hb e)))).1,λb hb=>?_⟩;obtain⟨o,e,d⟩:=T.obj _ _ st5 b hb;exact(I.pin (b,o) (Xb _ (Xb _ (Jk hb e)))).2.1
   refine thn (hE (σ3.set j (a8 v0)) (del H5 [Dd,a]) (del H5 [Dd]) a (λv H8=>∃F8,j0 (del H5 [Dd,a]) F8/\qe X.K a ks8 ns8 F8 H8/\Enc X.K F8 r0 v) R6 hx6 h5 (λv F8 H8 g8 h8 e8=>⟨F8,g8,h8,e8⟩) _ s6 I6) λy8 s8 ⟨v,H8,I8,r8,F8,g8,h8,e8⟩=>?_;obtain⟨hF,I8'⟩:=I5p.unhide hA I8;have hlen:ys.length<aw:=by omega
   refine thn (Ra _ s8 (σ3.set j (a8 v0)) (mrg [Dd] H5 H8) (.ref Dd) [v] (.ref Dd) [y8] (λ_ H9=>H9=upd (mrg [Dd] H5 H8) Dd (.lst (ys++[v]))) I8' rfl (.cons r8 .nil)
    ⟨Dd,ys,v,rfl,rfl,by rw[vz (xg.mpr rfl)];exact m5,hlen,rfl⟩) λ_ s9 ⟨_,H9,I9,_,e9⟩=>?_
   subst e9;obtain⟨I10,st10,fr10⟩:=jS I9;have ed:del (upd (mrg [Dd] H5 H8) Dd (.lst (ys++[v]))) [Dd]=H8:=by rw[Zg (xg.mpr rfl),V6 hF]
   have R8:Rep X.K ρ (σ3.set j (a8 v0)) F8:=Wk.set (d:=ds[i]) hj _ _ _ (R6.grow g8);refine⟨ds.length-(i+1),by omega,i+1,σ3.set j (a8 v0),_,F8,ys++[v],ks8,ns8,I10,st10,fr10,hlt,rfl,R8,hx6,by rw[ed];exact h8,g3.trans (s35.trans g8),jb,?_,by simp[hyl],w8⟩;rw[show rs.take (i+1)=rs.take i++[r0]from by rw[d7,hr0];rfl];exact(en3.mono (s35.trans g8)).append (.one e8)
  .have hi:i=ds.length:=by omega
   subst hi;refine thn (T.done (cCx X scope C s2 H2 fp (X.pn++pins)) rfl rfl rfl hc ds.length [] s3 σ3 H3 (λ_ _=>False) I3 (fpok fr3) st3 (stop (xu _))) λr s4 ⟨hr,I4⟩=>?_;subst hr;obtain⟨m,hm,_⟩:=I4.loc;have e4:del (del H3 [a]) [Dd]=F3:=by
    rw[<-e3,Jy]
    funext b
    unfold del;by_cases z1:b=Dd<;>by_cases z2:b=a<;>simp[z1,z2]
   have s4':j0 F3 (del H3 [a]):=by rw[<-e4];exact je
   refine hRR Dd C ys (del H3 [a]) H3 ks3 ns3 s4 m ?_ (g3.trans s4') F2D (by rw[j7 (by simpa using bE haD)];exact m3) (by rw[e4];exact en3) ⟨xs3,ep3,M6 ea3,qp (by simp),q1,λz hz=>s4'.seqT (q2 z hz),q3⟩ w3 hm ⟨I4.free,P0 (ph loclt hDlt),?_,λx c h=>Xa (ph (celllt x c h) hDlt),λp hp=>Xa (ph (pinlt p hp) hDlt)⟩
   .exact I2.call' (ch:=fp) I4.os I4.base I4.hok I4.bare λb hb=>⟨(f2 b hb).2.2.2.1,(f2 b hb).2.1,(f2 b hb).2.2.2.2.1,(f2 b hb).2.2.2.2.2⟩
   .have:=I2.sz;omega
 exact loop _ rfl
end
def DFl(X:Cx)(ρ:Rho)(x:Nat)(e:au)(ks:List zo)(ns:zo)(rs:List D)(ks':List zo)(ns':zo):Prop:=∀σ F H a Q,Rep X.K ρ σ F->σ[x]?=a8 (a8 (.ref a))->qe X.K a ks ns F H ->
 (∀D xs F' H',j0 F F'->F' D=a8 (.lst xs)->j4 X.K F' rs xs->qe X.K a ks' ns' F' H'->Q (.ref D) H')->Jo X e σ H Q
section
variable{X:Cx}{ρ:Rho}{e e1 e2 c elt iter:au}{es:List au}{d d1 d2:D}{ds rs:List D}{σ:St}{F H:Hp}{a:ai}{ks ks':List zo}{ns ns':zo}{x j:Nat}{nx g y:ar}{p p1 pos py:aO}{scope:bH}
def qe.put{K:k8v}{b:ai}{o:HO}(h:qe K a ks ns F H)(n:H b=af):qe K a ks ns (upd F b o) (upd H b o):=by
 obtain⟨xs,ep,e,na,ek,kt,rv⟩:=h;subst e;have nb:b≠a:=λz=>by rw[z,jb]at n;cases n
 have fb:F b=af:=by rw[jd nb]at n;exact n
 refine⟨xs,ep,?_,by rw[jd (bE nb)];exact na,ek,λz hz=>(j6 fb).seqT (kt z hz),rv⟩
 funext z
 by_cases z1:z=b
 .subst z1;rw[jb,jd nb,jb]
 .rw[jd z1];by_cases z2:z=a
  .subst z2;rw[jb,jb]
  .rw[jd z2,jd z2,jd z1]
def qe.free{K:k8v}{b:ai}(h:qe K a ks ns F H)(n:H b=af):F b=af:=by
 obtain⟨xs,ep,e,na,_⟩:=h;subst e;have nb:b≠a:=λz=>by rw[z,jb]at n;cases n
 rw[jd nb]at n;exact n
def DFx.tup2{n:Nat}(h1:DFx X ρ x e1 ks ns d1 ks' ns')(h2:DE X ρ e2 d2)(ho:owns ρ=[])(hs1:ah [e1,e2] X.env=(aa,aD e1 X.env)::ah [e2] X.env)(hs2:ah [e2] X.env=(aa,aD e2 X.env)::ah [] X.env):DFx X ρ x (.Tuple [e1,e2] n pos) ks ns (.tup [d1,d2]) ks' ns':=λσ F H a Q R hx h q=>by
 refine(Ea (jc peS (jc peS jn hs2) hs1)).to ?_;refine h1 σ F H a _ R hx h λv1 F1 H1 g1 k1 q1=>Dh (R.grow g1) k1 h2 λv2 F2 H2 g2 k2 q2=>⟨by show 2<=aw;decide,λb hb=>?_⟩
 rw[ho,qt]at q2;have fb:=k2.free hb;have up:j0 F2 (upd F2 b (.tup [v1,v2])):=j6 fb;exact q _ _ _ (g1.trans (g2.trans up)) (k2.put hb) ⟨b,[v1,v2],rfl,.inl (.inl jb),_,_,rfl,(q1.mono g2).mono up,_,_,rfl,q2.mono up,rfl⟩
def DFx.ite{b:Bool}(hc:DB X ρ c b)(h1:b=ae->DE X ρ e1 d/\ks'=ks/\ns'=ns)(h2:b=aa->DFx X ρ x e2 ks ns d ks' ns')(ho:owns ρ=[]):DFx X ρ x (.IfExp c e1 e2 pos) ks ns d ks' ns':=λσ F H a Q R hx h q=>by
 refine(Eb ptS peS peS).to (jca R h hc λF1 H1 g1 k1=>?_);cases b with
 |true =>obtain⟨z,e1,e2⟩:=h1 rfl;subst e1 e2;rw[if_pos rfl];exact Dh (R.grow g1) k1 z λv F2 H2 g2 k2 q2=>q v F2 H2 (g1.trans g2) k2 (by rw[ho,qt]at q2;exact q2)
 |false =>rw[if_neg xj];exact h2 rfl σ F1 H1 a Q (R.grow g1) hx k1 λv F2 H2 g2=>q v F2 H2 (g1.trans g2)
def DFx.addC{i k:Int}{n:Nat}(h2:DFx X ρ x e2 ks ns (.int k) ks' ns'):DFx X ρ x (.BinOp (.Constant (.int i) n p) .Add e2 pos) ks ns (.int (i+k)) ks' ns':=λσ F H a Q R hx h q=>by refine(jej Bo peS).to ?_;exact h2 σ F H a _ R hx h λv F2 H2 g2 k2 q2=>⟨i,k,rfl,q2,q _ F2 H2 g2 k2 rfl⟩
def DFx.ixC{i:Int}{n:Nat}(h1:DFx X ρ x e1 ks ns (.tup ds) ks' ns')(h:L2.atI ds i=a8 d)(hs:Jz (.Constant (.int i) n p)):DFx X ρ x (.Subscript e1 (.Constant (.int i) n p) pos) ks ns d ks' ns':=λσ F H a Q R hx h0 q =>
 (Yy Rj peS Bo hs).to (h1 σ F H a _ R hx h0 λv F1 H1 g1 k1 ⟨l,xs,e,sq,en⟩=>by
  obtain⟨y,hy,ey⟩:=en.atI h
  exact⟨l,xs,i,y,e,rfl,k1.same.seqT sq,hy,q y F1 H1 g1 k1 ey⟩)
def DFl.comp(hi:DI X ρ (.Name y py) iter ds)(ho:owns ρ=[])(hxj:x≠j)(hj:ρ[j]?=a8 .un)(hsz:ds.length<=aw)(hl:rs.length=ds.length)
  (hG:∀C s H fp pn,PG (cCx X scope C s H fp pn) (.Name y py) (Kg j)) (W:Nat->List zo->zo->Prop) (h0:W 0 ks ns) (hW:∀ks2 ns2,W ds.length ks2 ns2->ks2=ks'/\ns2=ns')
  (hb:∀C s H fp pn i d ks ns,ds[i]?=a8 d->W i ks ns->∃r ks' ns',DFx (cCx X scope C s H fp pn) (ρ.set j (.val d)) x elt ks ns r ks' ns'/\rs[i]?=a8 r/\W (i+1) ks' ns')
  (hc:X.calm=ae) (hkind:scope.kind=.function) (hok:v7 scope X.env X.N [j]=ae) (hs:∀x,aI iter X.env x=pure x):DFl X ρ x (.ListComp elt [⟨.Name y py,iter,[],0⟩] scope pos) ks ns rs ks' ns':=λσ F H a Q R hx h q pins s I=>by
 rw[o8];have hi':Ww X (.Name y py) iter σ H λJ H'=>∃F',j0 F F'/\Ze X.K F' J ds/\qe X.K a ks ns F' H':=Bl (A:=[a]) (R':=λJ F'=>j0 F F'/\Ze X.K F' J ds) h.hd (by rw[h.del];exact hi σ F _ R λJ F' g ok=>⟨g,by rw[ho,qt]at ok;exact ok⟩) λJ F' ⟨g,ok⟩ n=>⟨F',g,ok,h.mrg g (n a (by simp))⟩
 refine eY (use:=af) rfl hs (Wh (Uh hok)) hkind (Yr hok) (thn (hi' pins s I) λv s1 h1=>thn h1 λitv s2 h2=>?_);obtain⟨it,fp,tn,J,H2,e,I2,T,st2,f2,F2,g2,ok,k2⟩:=h2;subst e;refine jcs (RR:=λacc C=>nX (aC X.prog X.w) X.A X.xe af (EP X pins σ Q) acc C) (rs:=rs) I2 (R.grow g2) ho hx hxj k2 T st2 f2 ok hc hkind hok hj hsz hG W h0 hb ?_;intro D C xs F' H' ks2 ns2 s' m I' gg n m' en k' w hm L;obtain⟨e1,e2⟩:=hW _ _ w;subst e1 e2;rw[<-hl,Tj]at en;exact⟨m,hm,λh' sb=>⟨.ref D,H',I'.loose L sb,rfl,q D xs F' H' (g2.trans gg) m' (en.mono je) k'⟩⟩
def DFx.maxL {ms:zo} (ha:DFl X ρ x e ks ns (ms.map D.int) ks' ns') (hn:ms≠[]) (hm:X.mg "max" = af) (hc:X.calm=ae) (hg:Gl X "max") (hs:ah [e] X.env=[(aa,aD e X.env)]):DFx X ρ x (.Call (.Name "max" p) [e] [] pos) ks ns (.int (Zm ms)) ks' ns':=λσ F H a Q R hx h q =>(v5 (Lj hc) hg hm o4 (jc peS jn hs) (by decide) (by decide) hs).to (ha σ F H a _ R hx h λD xs F1 H1 g1 m en k1=>⟨D,ms,rfl,by rw[z9 en]at m;exact .inl (.inl (k1.same _ _ m)),hn,q _ F1 H1 g1 k1 rfl⟩)
def DFx.minT {l:List zo} {k:zo} (hu:X.A.units+100<aZ) (hcalm:X.calm=ae) (hm:X.mg "min" = af) (hg:Gl X "min") (ha:DFl X ρ x e ks ns (l.map λk=>D.tup (k.map D.int)) ks' ns') (hk:l[be (Qk l) (l.length-1)]?=a8 k) (hs:ah [e] X.env=[(aa,aD e X.env)]) :
  DFx X ρ x (.Call (.Name "min" p) [e] [] pos) ks ns (.tup (k.map D.int)) ks' ns':=λσ F H a Q R hx h q pins s I=>by
 refine aY (Jx I hg hm kM ?_ (by decide) (by decide));refine callWith_builtin1 (thn ((jc (es:=[]) peS jn hs).to (σ:=σ) (H:=H) (Q:=λvs H1=>∃b0 xs F1,vs=[.ref b0]/\j0 F F1/\F1 b0=a8 (.lst xs)/\j4 X.K F1 (l.map λk=>D.tup (k.map D.int)) xs/\qe X.K a ks' ns' F1 H1) (ha σ F H a _ R hx h λD xs F1 H1 g1 m en k1=>⟨D,xs,F1,rfl,g1,m,en,k1⟩) pos pins s I) λus s1 ⟨vs,H1,I1,r1,b,xs,F1,ev,g1,m,en,k1⟩=>?_) hs rfl;subst ev;obtain⟨u,eu,ru⟩:=r1.one;subst eu;cases(show u=aK b from ru);have sq:SqL X.K H1 b xs:=.inl (.inl (k1.same _ _ m));have hlen:xs.length=l.length:=by rw[en.length,xf]
 have hin:=(X4.mp hk).1;have item:∀{i:Nat}{x:V},xs[i]?=a8 x->∃t,x=.ref t/\SqT X.K H1 t ((l.getD i []).map V.int)/\Enc X.K F1 (.tup ((l.getD i []).map D.int)) x:=λ{i x} hx=>by
  obtain⟨d,hd,ed⟩:=en.get' hx;rw[xn]at hd;obtain⟨k',hk',ek⟩:=Xv.mp hd;subst ek;have eg:l.getD i []=k':=by rw[km,hk'];rfl
  rw[eg];obtain⟨t,ys,e1,sq',l'⟩:=id ed;rw[z9 l']at sq';exact⟨t,e1,k1.same.seqT sq',ed⟩
 refine jez (Qk l) (I.ok.hd hcalm) I1 sq (by omega) (λi j x y u v s2 Q2 E2 hx hy rx ry I2 hq=>?_) λx hx=>?_
 .obtain⟨t,e1,s1',_⟩:=item hx;obtain⟨t',e2,s2',_⟩:=item hy;subst e1 e2;cases rx;cases ry;obtain⟨its,r1,p1,_⟩:=I2.tuple s1';obtain⟨its2,r2,p2,_⟩:=I2.tuple s2';exact HT.lt_tupInts (A:=X.A.in1) p1 p2 (intsAre_of r1) (intsAre_of r2) (by show X.A.units+1<aZ;omega) hq
 .rw[hlen]at hx;obtain⟨t,e1,_,ed⟩:=item hx;have eg:l.getD (be (Qk l) (l.length-1)) []=k:=by rw[km,hk];rfl
  rw[eg]at ed;exact q x F1 H1 g1 k1 ed
end
section
variable{X:Cx}{ρ:Rho}{a b:au}{k:zo}{ks:List zo}{ds:List D}{pos:aO}
def R9(hu:X.A.units+100<aZ):OpR X (aX .NotIn) (λx y H Q=>∃(t:ai)(k:zo)(d:ai)(xs:List (zo×ai×aj)) (ep:Nat),x=.ref t/\SqT X.K H t (k.map V.int)/\y=.ref d/\H d=a8 (.dI xs ep) /\
  (∀x∈xs,SqT X.K H x.2.1 (x.1.map V.int))/\Q (.bl (!(xs.map λx=>x.1).contains k)) H):=by
 intro pins s σ H x y v u Q I rx ry ⟨t,k,d,xs,ep,ex,sq,ey,hx,kt,q⟩;subst ex ey;cases rx;cases ry;obtain⟨lo,_,dd⟩:=Y9 I hx kt;refine wpAny_notIn_heap (eJ (by omega)) (Ut I sq) lo dd ?_;rw[Ls];exact⟨.bl _,H,I.tok _,rfl,q⟩
def DE.notinT(hu:X.A.units+100<aZ)(ha:DT X ρ a (.tup (k.map D.int)))(hb:DT X ρ b (.dct ks ds))(hm:aG .NotIn b=aa):DE X ρ (.Compare a [.NotIn] [b] pos) (.bl (!ks.contains k)):=λσ H Q R q =>
 (Jf (R9 hu) peS peS hm).to (ha σ H _ R λv H1 g1 ⟨t,ys,e,sq,l⟩=>hb σ H1 _ (R.grow g1) λu H2 g2 ⟨d,xs,ep,vs,e',hx,ek,kt,rv,l'⟩ =>
  ⟨t,k,d,xs,ep,e,by rw[z9 l]at sq;exact g2.seqT sq,e',hx,kt,q _ H2 (g1.trans g2) (by rw[ek];rfl)⟩)
def DB.notinT(hu:X.A.units+100<aZ)(ha:DT X ρ a (.tup (k.map D.int)))(hb:DT X ρ b (.dct ks ds))(hm:aG .NotIn b=aa):DB X ρ (.Compare a [.NotIn] [b] pos) (!ks.contains k):=λσ H Q R q =>
 (Je (R9 hu) peS peS hm).to (ha σ H _ R λv H1 g1 ⟨t,ys,e,sq,l⟩=>hb σ H1 _ (R.grow g1) λu H2 g2 ⟨d,xs,ep,vs,e',hx,ek,kt,rv,l'⟩ =>
  ⟨t,k,d,xs,ep,e,by rw[z9 l]at sq;exact g2.seqT sq,e',hx,kt,_,rfl,by rw[<-ek];exact q H2 (g1.trans g2)⟩)
end
def DDb(X:Cx)(ρ:Rho)(sts:List aP)(a:ai)(ks:List zo)(ns:zo)(d:D)(ks':List zo)(ns':zo):Prop:=∀σ F H E,Rep X.K ρ σ F->qe X.K a ks ns F H ->
 (∀v F' H',j0 F F'->qe X.K a ks' ns' F' H'->Enc X.K F' d v->E.rt v H')->Jr X sts E σ H
section
variable{X:Cx}{ρ ρ1:Rho}{e c call:au}{st:aP}{rest:List aP}{d:D}{σ:St}{F H:Hp}{a:ai}{ks ks' ks1:List zo}{ns ns' ns1:zo}{i t s:Nat}{nx nt nw:ar}
def Uz{A:List ai}{D D':Ends}(hA:∀a∈A,Hd (H a))(h:Ff X st D' σ (del H A))(hn:∀σ' F,D'.nx σ' F->(∀a∈A,F a=af)->D.nx σ' (mrg A H F))(hr:∀v F,¬D'.rt v F)(hb:∀v F,¬D'.bk v F)(hc:∀v F,¬D'.ct v F):Ff X st D σ H :=
 λpins s I=>thn (h _ s (I.hide hA)) λf s' q=>by
  cases f with
  |next=>obtain⟨σ',F,I',q⟩:=q;obtain⟨n,I2⟩:=I.unhide hA I';exact⟨σ',_,I2,hn σ' F q n⟩
  |brk=>obtain⟨σ',F,_,q⟩:=q;exact absurd q (hb _ _)
  |cont=>obtain⟨σ',F,_,q⟩:=q;exact absurd q (hc _ _)
  |ret u=>obtain⟨v,σ',F,F2,_,_,_,q⟩:=q;exact absurd q (hr _ _)
def DDb.then{N:Rho->Prop}(ho:owns ρ=[])(h1:DS X ρ st { nx:=N,rt:=λ_=>False })(h2:∀ρ1,N ρ1->DDb X ρ1 rest a ks ns d ks' ns'):DDb X ρ (st::rest) a ks ns d ks' ns':=λσ F H E R h q=>by
 refine(qw psS Jc).to (Uz (A:=[a]) (D':={ nx:=λσ' F'=>∃ρ',N ρ'/\Rep X.K ρ' σ' F'/\j0 F F',rt:=λ_ _=>False }) h.hd (by
  rw[h.del]
  exact h1 σ F _ R ⟨λρ' σ' F' n R' f=>⟨ρ',n,R',λb o e=>(of_del (f b o (by rw[ho,qt];exact e))).2⟩,λ_ _ _ n=>n.elim,λ_ _ _ n=>n.elim,λ_ _ _ n=>n.elim,λ_ _ _ _ n=>n.elim⟩)
  (λσ' F' ⟨ρ',n,R',g⟩ na=>?_) (λ_ _ z=>z) (λ_ _ z=>z) (λ_ _ z=>z))
 exact h2 ρ' n σ' F' _ E R' (h.mrg g (na a (by simp))) λv F2 H2 g2=>q v F2 H2 (g.trans g2)
theorem DDb.freeze{b:ai}{l:List D}(h:ρ[i]?=a8 (.own b l))(h2:DDb X (ρ.set i (.val (.lst l))) rest a ks ns d ks' ns'):DDb X ρ rest a ks ns d ks' ns':=λσ F H E R=>h2 σ F H E (R.freeze h)
def DDb.ret{pos:aO}(h0:∃ob,ρ[0]?=a8 (.raw a ob rfN))(he:DFx X ρ 0 e ks ns d ks' ns'):DDb X ρ (.Return (a8 e) pos::rest) a ks ns d ks' ns':=λσ F H E R h q=>by obtain⟨ob,h0⟩:=h0;exact(qw (Zj peS) Jc).to (he σ F H a _ R (R.raw 0 a ob rfN h0).1 h q)
def Iv(R:Rep X.K ρ σ F)(h0:∃ob,ρ[0]?=a8 (.raw a ob rfN))(ho:owns ρ=[])(h:qe X.K a ks ns F H):Rep X.K (ρ.set 0 (.val (.dct ks (ns.map D.int)))) σ H:=by
 obtain⟨ob,h0⟩:=h0;have hσ:=(R.raw 0 a ob rfN h0).1;have:=(R.grow h.same).set_val (i:=0) (v:=.ref a) (d:=.dct ks (ns.map D.int)) (by
  rw[ho,qt]
  obtain⟨xs,ep,e,n,ek,kt,rv⟩:=id h
  exact⟨a,xs,ep,ns.map V.int,rfl,by rw[e];exact jb,ek,λz hz=>h.same.seqT (kt z hz),rv,j4.ints ns⟩)
 rw[Ij hσ]at this;exact this
def qe.grown(h:qe X.K a ks ns F H){H':Hp}(g:j0 H H'):qe X.K a ks ns (L2.del H' [a]) H'/\j0 F (L2.del H' [a]):=by
 obtain⟨xs,ep,e,n,ek,kt,rv⟩:=id h;have ha:H' a=a8 (.dI xs ep):=g _ _ (by rw[e];exact jb);have s:j0 F (L2.del H' [a]):=by rw[<-h.del];exact jf g
 exact⟨⟨xs,ep,M6 ha,qp (by simp),ek,λz hz=>s.seqT (kt z hz),rv⟩,s⟩
theorem Lb{k:zo}:∀{ks:List zo} {ns:zo} {d:D},Ql ks (ns.map D.int) k=a8 d->∃m,d=.int m
 |[],_,_,h=>by cases h
 |_::_,[],_,h=>by cases h
 |k'::ks,n::ns,d,h=>by
  rw[X6,Ql]at h;split at h
  .cases h;exact⟨_,rfl⟩
  .exact Lb h
theorem Ng{k:zo}{n:Int}:∀{ks:List zo} {ns:zo},ks.length=ns.length->ks.contains k=aa->Ql (ks++[k]) ((ns++[n]).map D.int) k=a8 (.int n)
 |[],[],_,_=>by show(if k=k then _ else _)=_;rw[if_pos rfl]
 |[],_::_,h,_=>by cases h
 |_::_,[],h,_=>by cases h
 |k'::ks,m::ns,h,hc=>by
  rw[fX,Bool.or_eq_false_iff]at hc;have hk:¬k'=k:=λz=>by subst z;simp at hc
  show(if k'=k then _ else _)=_;rw[if_neg hk];exact Ng (by simpa using h) hc.2
def qe.len(h:qe X.K a ks ns F H):ks.length=ns.length:=by obtain⟨xs,ep,_,_,ek,_,rv⟩:=h;have:=rv.length;rw[xf,xf]at this;rw[ek,xf,this]
def Fp{v:Sl}(h:∃ob,ρ[0]?=a8 (.raw a ob rfN))(hi:i≠0):∃ob,(ρ.set i v)[0]?=a8 (.raw a ob rfN):=let ⟨ob,h⟩:=h;⟨ob,by rw[qg hi];exact h⟩
noncomputable abbrev fText(nx nw nt:ar)(c call:au)(n0 n1 n2:Nat)(p1 p2 p3 p4 p5 p6 p7 p8 p9 p10 p11 p12 p13 p14 p15 p16 p17 p18 p19 p20 p21:aO):List aP :=
 [.If (.Compare (.Name nw p1) [.NotIn] [.Name nx p2] p3) [.Assign [.Name nt p4] c p5,.Assign [.Subscript (.Name nx p6) (.Name nw p7) p8] (.IfExp (.Name nt p9) (.Constant (.int 0) n0 p10) (.BinOp (.Constant (.int 1) n1 p11) .Add (.Subscript call (.Constant (.int 0) n2 p12) p13) p14) p15) p16] [] p17,
  .Return (a8 (.Subscript (.Name nx p18) (.Name nw p19) p20)) p21]
def DDb.fill{k:zo}{n0 n1 n2:Nat}{p1 p2 p3 p4 p5 p6 p7 p8 p9 p10 p11 p12 p13 p14 p15 p16 p17 p18 p19 p20 p21:aO}{b:Bool}{n:Int}{tl:List D}(h0:∃ob,ρ[0]?=a8 (.raw a ob rfN))(ho:owns ρ=[])(hw:ρ[s]?=a8 (.val (.tup (k.map D.int))))(ht:t≠0)(hst:s≠t)(htl:t<ρ.length)
  (hin:ks.contains k=ae->ks'=ks/\ns'=ns/\Ql ks (ns.map D.int) k=a8 d)
  (hout:ks.contains k=aa->DE X ρ c (.bl b)/\(b=ae->ks1=ks/\ns1=ns/\n=0)/\(b=aa->∃m,DFx X (ρ.set t (.val (.bl b))) 0 call ks ns (.tup (.int m::tl)) ks1 ns1/\n=1+m)/\ks1.contains k=aa/\ks1.length<aw/\ks'=ks1++[k]/\ns'=ns1++[n]/\d=.int n)
  (hu:X.A.units+100<aZ) (hN:X.N.Nodup) (hX:X.N[0]?=a8 nx) (hW:X.N[s]?=a8 nw) (hT:X.N[t]?=a8 nt) (vx:Vis X.env.scope nx) (vw:Vis X.env.scope nw) (lt:Loc X.env.scope nt) (ft:X.fn nt=ae\/X.env.scope.names.lookup nt=a8 .local)
  (dx:(nx==k8z)=aa) (cx:(nx==k90)=aa) (dw:(nw==k8z)=aa) (cw:(nw==k90)=aa) (dt:(nt==k8z)=aa) (ct:(nt==k90)=aa)
  (hm:aG .NotIn (.Name nx p2)=aa) (s1:aJ c (a8 (.Name nt p4)) p5.line X.env=pure aa)
  (s2:aJ (.IfExp (.Name nt p9) (.Constant (.int 0) n0 p10) (.BinOp (.Constant (.int 1) n1 p11) .Add (.Subscript call (.Constant (.int 0) n2 p12) p13) p14) p15) (a8 (.Subscript (.Name nx p6) (.Name nw p7) p8)) p16.line X.env=pure aa)
  (hx0:Jz (.Constant (.int 0) n2 p12)) (hxw:Jz (.Name nw p19)) (hB:∀b:Bool,ρ[t]?=ρ[t]?->DB X (ρ.set t (.val (.bl b))) (.Name nt p9) b) :
  DDb X ρ (fText nx nw nt c call n0 n1 n2 p1 p2 p3 p4 p5 p6 p7 p8 p9 p10 p11 p12 p13 p14 p15 p16 p17 p18 p19 p20 p21) a ks ns d ks' ns':=λσ F H E R h q=>by
 have vt:Vis X.env.scope nt:=lt.elim .inl λz=>.inr (.inl z);have s0:s≠0:=λz=>by obtain⟨ob,h0⟩:=h0;rw[z,h0]at hw;cases hw
 have last:∀σ' F' H' ρ',Rep X.K ρ' σ' F'->(∃ob,ρ'[0]?=a8 (.raw a ob rfN))->owns ρ'=[]->ρ'[s]?=a8 (.val (.tup (k.map D.int)))->j0 F F'->qe X.K a ks' ns' F' H'->Ql ks' (ns'.map D.int) k=a8 d ->
   Ff X (.Return (a8 (.Subscript (.Name nx p18) (.Name nw p19) p20)) p21) E σ' H':=λσ' F' H' ρ' R' r0 ro rs g h' hd=>by
  have V:=Iv R' r0 ro h';obtain⟨ob,r0'⟩:=id r0;have l0:0<ρ'.length:=(X4.mp r0').1;have e1:DE X (ρ'.set 0 (.val (.dct ks' (ns'.map D.int)))) (.Subscript (.Name nx p18) (.Name nw p19) p20) d:=DE.dget hu (DE.var 0 (Js l0) hX vx dx cx) (DE.var s (by rw[qg (bE s0)];exact rs) hW vw dw cw).toT hd hxw;refine(Zj peS).to (e1 σ' H' _ V λv H2 g2 en=>?_);obtain⟨z1,z2⟩:=h'.grown g2;refine q v _ H2 (g.trans z2) z1 ?_;have:owns (ρ'.set 0 (.val (.dct ks' (ns'.map D.int))))=[]:=by have:=(jg (ρ:=ρ') (i:=0) (s:=.val (.dct ks' (ns'.map D.int))) rfl).subset;rw[ro]at this;exact Tp.mpr λb hb=>absurd (this hb) (by simp)
  rw[this,qt]at en;obtain⟨m,em⟩:=Lb hd;subst em;exact en
 have V:=Iv R h0 ho h;obtain⟨ob,h0'⟩:=id h0;have l0:0<ρ.length:=(X4.mp h0').1;have hc:DB X (ρ.set 0 (.val (.dct ks (ns.map D.int)))) (.Compare (.Name nw p1) [.NotIn] [.Name nx p2] p3) (!ks.contains k):=DB.notinT hu (DE.var s (by rw[qg (bE s0)];exact hw) hW vw dw cw).toT (DE.var 0 (Js l0) hX vx dx cx).toT hm;refine(qw (Kf ptS Jc Jc) (Up psS)).to (hc σ H _ V λH1 g1=>?_);obtain⟨h1,gF⟩:=h.grown g1;have R1:=R.grow gF;cases hk:ks.contains k with
 |true =>obtain⟨e1,e2,e3⟩:=hin hk;subst e1 e2;refine Uc ?_;exact Uq.to (last σ _ H1 ρ R1 h0 ho hw gF h1 e3)
 |false =>
  obtain⟨hE,hT1,hF1,nk,hl,e1,e2,e3⟩:=hout hk;refine W7 ?_;refine(qw (Qx hN hT lt peS s1 ft) (Up (j1l hu (v4 hX vx dx cx) (v4 hW vw dw cw) peS s2))).to ?_;refine Dh R1 h1 hE λv F2 H2 g2 h2 en=>?_;have R2:Rep X.K (ρ.set t (.val (.bl b))) (σ.set t (a8 v)) F2:=(R1.grow g2).set_val en;have ho2:owns (ρ.set t (.val (.bl b)))=[]:=by have:=(jg (ρ:=ρ) (i:=t) (s:=.val (.bl b)) rfl).subset;rw[ho]at this;exact Tp.mpr λb hb=>absurd (this hb) (by simp)
  have r2:=Fp (v:=.val (.bl b)) h0 ht;have w2:(ρ.set t (.val (.bl b)))[s]?=a8 (.val (.tup (k.map D.int))):=by rw[qg (bE hst)];exact hw
  obtain⟨ob2,r2'⟩:=id r2;have hσ:=(R2.raw 0 a ob2 rfN r2').1;have hV:DFx X (ρ.set t (.val (.bl b))) 0 (.IfExp (.Name nt p9) (.Constant (.int 0) n0 p10) (.BinOp (.Constant (.int 1) n1 p11) .Add (.Subscript call (.Constant (.int 0) n2 p12) p13) p14) p15) ks ns (.int n) ks1 ns1:=by
   refine DFx.ite (hB b rfl) (λz=>?_) (λz=>?_) ho2
   .obtain⟨y1,y2,y3⟩:=hT1 z;subst y3;exact⟨DE.int,y1,y2⟩
   .obtain⟨m,y1,y2⟩:=hF1 z;subst y2;exact DFx.addC (DFx.ixC y1 (show L2.atI (D.int m::tl) 0=a8 (.int m)from by simp[L2.atI,ixN];try omega) hx0)
  refine hV _ F2 H2 a _ R2 hσ h2 λv3 F3 H3 g3 h3 e3'=>?_;have e3':v3=.int n:=e3';have R3:=R2.grow g3;obtain⟨vs,hσs,ens⟩:=R3.val s _ w2;rw[ho2,qt]at ens;obtain⟨tb,ys,ev,sq,li⟩:=ens;rw[z9 li]at sq;subst ev;refine⟨_,hσ,_,hσs,?_⟩;obtain⟨xs,ep,eH,na,ek,kt,rv⟩:=id h3;refine⟨a,tb,xs,ep,k,rfl,by rw[eH];exact jb,λz hz=>h3.same.seqT (kt z hz),rfl,h3.same.seqT sq,by rw[<-ek];exact nk,by rw[ek,xf]at hl;exact hl,λu ep' ru=>?_⟩;subst e3';have h4:qe X.K a ks' ns' F3 (upd H3 a (.dI (xs++[(k,tb,u)]) ep')):=by
   refine⟨xs++[(k,tb,u)],ep',by rw[eH,Nt],na,by rw[e1,ek,Xu];rfl,λz hz=>?_,?_⟩
   .rcases Xp.mp hz with z1|z1
    .exact kt z z1
    .rw[xg.mp z1];exact sq
   .rw[e2,Xu,Xu];exact rv.append (.cons ru .nil)
  refine last _ F3 _ _ R3 r2 ho2 w2 (gF.trans (g2.trans g3)) h4 ?_;rw[e1,e2,e3];exact Ng h3.len nk
end
section
variable{P:az}{w:aE}{K:k8v}{mg:k8y}{base:aH}{x qual:ar}{st:aP}{f:ai}{fd:aM}{N ps:List ar}{n:Nat}
def jl3{S:List zo->zo->List D->D->List zo->zo->Prop}(F:Fun K x qual st f fd)(Sc:FnScope N ps (j9 st))(hl:∀ks ns ds d ks' ns',S ks ns ds d ks' ns'->ds.length+1=ps.length)
  (hbody:∀(cdv:aj)(A:aF)(outer:List dO)(s:aq)(H:Hp)(E:XK),Wr K f cdv->Room n (A.deeper (bQ qual (j9 st) s.heap.objs.size f cdv))->∀a ks ns ds d ks' ns',S ks ns ds d ks' ns' ->
   DDb (zp CX0 P w K mg base N qual (j9 st) f cdv A outer s H E).nox (startM N a ds) (jz st) a ks ns d ks' ns'):FnOk P w K mg base CX0 (n+1) f fd ps (spD K S):=by
 refine F.okC Sc (λvs H Q E ⟨a,F0,ks,ns,ds,d,ks',ns',ws,e,tb,dc,en,hS,_⟩=>by rw[e,X7,en.length];exact hl _ _ _ _ _ _ hS) λcdv A outer s H vs Q E hcv hr ⟨a,F0,ks,ns,ds,d,ks',ns',ws,e,tb,dc,en,hS,q⟩=>⟨_,Jc,?_⟩
 subst e;exact hbody cdv A outer s H E hcv hr a ks ns ds d ks' ns' hS _ F0 H _ (j2q tb en) dc λv F' H' g dc' en'=>q v F' H' g dc' en'
end
section
variable{X:Cx}{ρ:Rho}{es:List au}{ds:List D}{d:D}{P:Po}{x:Nat}{nx g:ar}{ks':List zo}{ns':zo}{p1 p2 p3 p4 p5 p6 p7 p8 p9:aO}
def DSs.lmk{S:List zo->zo->List D->D->List zo->zo->Prop}(cl:CalD X g S)(hx:x<ρ.length)(ho:owns ρ=[])(ha:DA X (ρ.set x .un) es ds)(hS:S [] [] ds d ks' ns')(hP:P.rt (.val (.dct ks' (ns'.map D.int))))
  (hN:X.N.Nodup) (hX:X.N[x]?=a8 nx) (lx:Loc X.env.scope nx) (fx:X.fn nx=ae\/X.env.scope.names.lookup nx=a8 .local) (dx:(nx==k8z)=aa) (cx:(nx==k90)=aa) (hg:Gl X g) (hdb:(g==k8z)=aa)
  (s1:aJ (.Dict [] [] p2) (a8 (.Name nx p1)) p3.line X.env=pure aa) (s2:aJ (.Call (.Name g p4) (.Name nx p5::es) [] p6) af p7.line X.env=pure aa)
  (hs:ah (.Name nx p5::es) X.env=(aa,aD (.Name nx p5) X.env)::ah es X.env) (hpl:(aU p6 (ah es X.env)).any (·.1)=aa) :
  DSs X ρ [.Assign [.Name nx p1] (.Dict [] [] p2) p3,.Expr (.Call (.Name g p4) (.Name nx p5::es) [] p6) p7,.Return (a8 (.Name nx p8)) p9] P:=λσ H E R q=>by
 have vis:Vis X.env.scope nx:=lx.elim .inl λz=>.inr (.inl z);refine(qw (Qx hN hX lx jba s1 fx) (qw (Y5 peS s2) (Up (Zj (v4 hX vis dx cx))))).to ?_;intro a na;have R0:Rep X.K (ρ.set x .un) (σ.set x (a8 (.ref a))) H:=R.set_un;have hσ:(σ.set x (a8 (V.ref a)))[x]?=a8 (a8 (.ref a)):=Js (by rw[R.len];exact hx);have ho':owns (ρ.set x .un)=[]:=by have:=(jg (ρ:=ρ) (i:=x) (s:=.un) rfl).subset;rw[ho]at this;exact Tp.mpr λb hb=>absurd (this hb) (by simp)
 have dc:qe X.K a [] [] H (upd H a (.dI [] 0)):=⟨[],0,rfl,na,rfl,(λz hz=>nomatch hz),.nil⟩
 refine DFx.call cl ha hS ho' hX vis dx cx hg hdb hs hpl _ H _ a _ R0 hσ dc λv F' H' g' dc' en=>?_;refine⟨_,hσ,q.rt (.val (.dct ks' (ns'.map D.int))) _ H' hP ?_⟩;obtain⟨xs,ep,e,n,ek,kt,rv⟩:=id dc';refine⟨?_,a,xs,ep,ns'.map V.int,rfl,by rw[e];exact jb,ek,λz hz=>dc'.same.seqT (kt z hz),rv,j4.ints ns'⟩;rw[ho,qt];exact g'.trans dc'.same
end
end L2
end
section
namespace L2
open PySem PySem.Spec PyProof.Rows
mutual
noncomputable def flt:D->Bool
 |.non=>ae
 |.bl _=>ae
 |.int _=>ae
 |.str _=>ae
 |.tup l=>Yk l
 |_=>aa
noncomputable def Yk:List D->Bool
 |[]=>ae
 |d::l=>flt d&&Yk l
end
mutual
theorem Enc.hideQ{K:k8v}{H:Hp}{A:List ai}(hA:∀a∈A,Hq (H a)):∀{d:D}{v:V},flt d=ae->Enc K H d v->Enc K (del H A) d v
 |.non,_,_,h=>h
 |.bl _,_,_,h=>h
 |.int _,_,_,h=>h
 |.str _,_,_,h=>h
 |.tup l,_,n,⟨a,xs,e,q,en⟩=>by
  have out:∀o,H a=a8 o->(∀ys,o≠.lst ys)->(∀ys ep,o≠.dI ys ep)->(∀ys,o≠.dK ys)->del H A a=a8 o:=λo z z1 z2 z3=>by
   rw[j7];exact z;intro y;rcases hA a y with ⟨ys,w⟩|⟨ys,ep,w⟩|⟨ys,w⟩
   .rw[z]at w;exact z1 ys (ax w)
   .rw[z]at w;exact z2 ys ep (ax w)
   .rw[z]at w;exact z3 ys (ax w)
  exact⟨a,xs,e,q.imp (oi (λz=>out _ z (λ_ y=>by cases y) (λ_ _ y=>by cases y) λ_ y=>by cases y) λ⟨o,z⟩=>⟨o,out _ z (λ_ y=>by cases y) (λ_ _ y=>by cases y) λ_ y=>by cases y⟩) id,j4.hideQ hA n en⟩
 |.lst l,_,n,_=>by cases n
 |.dct _ _,_,n,_=>by cases n
 |.sct _,_,n,_=>by cases n
 |.fn _ _,_,n,_=>by cases n
theorem j4.hideQ{K:k8v}{H:Hp}{A:List ai}(hA:∀a∈A,Hq (H a)):∀{ds:List D}{xs:List V},Yk ds=ae->j4 K H ds xs->j4 K (del H A) ds xs
 |[],_,_,h=>h
 |d::ds,_,n,⟨x,r,e,h,l⟩=>by have n:(flt d&&Yk ds)=ae:=n;rw[Xg]at n;exact⟨x,r,e,Enc.hideQ hA n.1 h,j4.hideQ hA n.2 l⟩
end
noncomputable def Dk(b:Bool)(d:D):Sl:=match b with
 |true=>.val d
 |false=>.un
noncomputable def Oo:Sl->Sl
 |.val d=>Dk (flt d) d
 |_=>.un
def Om(ρ:Rho):owns (ρ.map Oo)=[]:=by
 unfold owns;refine List.filterMap_eq_nil_iff.mpr λs hs=>?_;obtain⟨t,_,rfl⟩:=Xj.mp hs;cases t with
 |val d =>show Sl.addr (Dk (flt d) d)=af;cases flt d<;>rfl
 |_=>rfl
def j88{ρ:Rho}{i:Nat}{d:D}(h:(ρ.map Oo)[i]?=a8 (.val d)):ρ[i]?=a8 (.val d)/\flt d=ae:=by
 rw[xn]at h;cases e:ρ[i]? with
 |none=>rw[e]at h;cases h
 |some s =>
  rw[e]at h;cases s with
  |val d' =>
   have h:Dk (flt d') d'=.val d:=ax h;cases z:flt d' with
   |false=>rw[z]at h;cases h
   |true=>rw[z]at h;cases h;exact⟨rfl,z⟩
  |_=>cases h
def Rep.flat{K:k8v}{ρ:Rho}{σ:St}{H:Hp}{A:List ai}(R:Rep K ρ σ H)(hA:∀a∈A,Hq (H a)):Rep K (ρ.map Oo) σ (del H A):=by
 refine⟨by rw[R.len,xf],λi d e=>?_,λi a ds e=>?_,by rw[Om];exact d8,λi a o x e=>?_,λx hx c P e=>?_⟩
 .obtain⟨h,n⟩:=j88 e;obtain⟨v,q,en⟩:=R.val i d h;rw[Om,qt];exact⟨v,q,(en.mono je).hideQ hA n⟩
 .have:=Jp e;rw[Om]at this;cases this
 .rw[xn]at e;cases z:ρ[i]? with
  |none=>rw[z]at e;cases e
  |some s =>
   rw[z]at e;cases s with
   |val d' =>have e:Dk (flt d') d'=.raw a o x:=ax e;cases z:flt d'<;>(rw[z]at e;cases e)
   |_=>cases e
 .have q:=R.tb x hx c P e;rw[j7];exact q;intro y;rcases hA _ y with ⟨ys,w⟩|⟨ys,ep,w⟩|⟨ys,w⟩<;>(rw[q]at w;cases w)
def Uj(h:aH)(it d:ai)(i n ep:Nat):Prop:=h.get? it=a8 { cls:=.type "dict_keyiterator",data:=.fields #[.ref d,.int i 0,.int n 0,.int ep 0] }
section
variable{prog:az}{w:aE}{A:aF}{E:k8w}{s:aq}{d it:ai}{od:dF}{es:Array dG}{ep i:Nat}
def Uj.ty (h:Uj s.heap it d i es.size ep):s.TypeIs (.ref it) "dict_keyiterator":=⟨_,h,rfl⟩
def jco {Q:k8w} (hT:s.TypeIs (.ref d) "dict") (lo:(d==bO)=aa) (ho:s.heap.get? d=a8 od) (hd:od.data=.dict es ep)
  (q:Q (.ref s.heap.objs.size) { s with heap:=s.heap.push { cls:=.type "dict_keyiterator",data:=.fields #[.ref d,.int 0 0,.int es.size 0,.int ep 0] } }):av (aC prog w) A (iA (.ref d)) Q E s:=by
 refine lN hT lh (b7 lh hT F.entry_dict_iter ?_ (F.args_dict_iter_1 _));unfold cS.«dict.__iter__» nC;refine a9 (a9 (dC hT ?_));show av _ _ (pure (aK d)) _ _ s;refine ak ?_;show av _ _ (cQ d >>= _) _ _ s;unfold cQ;rw[if_neg (λz=>by rw[lo]at z;cases z)];refine a9 (ak (a9 (aW ho hd (a9 (dS ho hd ?_)))));refine a9 (bf (ak ⟨_,rfl,"dict_keyiterator",_,⟨_,X3 _ rfl,rfl⟩,T3.lookup,?_⟩));simpa [eZ]using q
def jcn{e:dG}{Q:Option aj->aq->Prop}(hz:Uj s.heap it d i es.size ep)(ho:s.heap.get? d=a8 od)(hd:od.data=.dict es ep)(he:es[i]?=a8 e)
  (q:∀h',Uj h' it d (i+1) es.size ep->d5 it s.heap h'->Q (a8 e.key) { s with heap:=h' }):av (aC prog w) A (cD (.ref it)) Q E s:=by
 have own:Builtin.Dict_items.ownsTuple "dict_keyiterator" = aa:=by decide
 have hlt:i<es.size:=(Th.mp he).1;unfold cD;refine a9 (gT (b9 (name:=aQ "__next__") hz.ty T3 ?_));refine b7 T3 hz.ty iu ?_ (ib _);refine a9 (ak (a9 (a9 ?_)))
 first|refine a9 (c9 hz.ty (ak ?_))|refine a9 (cZ hz.ty (ak ?_))
 refine a9 (nQ hz rfl ?_);simp only[own,Xr,if_false];show av _ _ (if (aK d==b8)=ae then _ else _) _ _ s;rw[if_neg (λz=>by cases z)];refine a9 (ak (a9 (aW ho hd ?_)));rw[if_neg (by simp)];refine a9 (ak (a9 (dS ho hd ?_)));rw[if_neg (by simp)];refine ak ?_;simp only[show ¬((i:Int)<0)from by omega,if_false,X8,he];refine a9 ?_
 first|refine a9 (c9 hz.ty (ak ?_))|refine a9 (cZ hz.ty (ak ?_))
 refine a9 (ko hz.ty ?_);show av _ _ (setField (.ref it) 1 (eZ ((i:Int)+1)) >>= _) _ _ s;refine a9 (gc hz rfl (by simp) ?_);have hz':Uj (s.heap.update it (lK (·.setIfInBounds 1 (eZ ((i:Int)+1))))) it d (i+1) es.size ep:=dn _ hz rfl;refine a9 (bj ?_);refine a9 (ko (s:={ s with heap:=s.heap.update it (lK (·.setIfInBounds 1 (eZ ((i:Int)+1)))) }) ⟨_,hz',rfl⟩ ?_);show av _ _ (pure e.key) _ _ _;exact ak (ak ⟨_,rfl,ak (q _ hz' (Ph ..))⟩)
def jgj{Q:Option aj->aq->Prop}(hh:A.handled=af)(hz:Uj s.heap it d i es.size ep)(ho:s.heap.get? d=a8 od)(hd:od.data=.dict es ep)(hi:es.size<=i)
  (q:∀h',fB it s.heap h'->Q af { s with heap:=h' }):av (aC prog w) A (cD (.ref it)) Q E s:=by
 have own:Builtin.Dict_items.ownsTuple "dict_keyiterator" = aa:=by decide
 unfold cD;refine a9 (gT (b9 (name:=aQ "__next__") hz.ty T3 ?_));refine b7 T3 hz.ty iu ?_ (ib _);refine a9 (ak (a9 (a9 ?_)))
 first|refine a9 (c9 hz.ty (ak ?_))|refine a9 (cZ hz.ty (ak ?_))
 refine a9 (nQ hz rfl ?_);simp only[own,Xr,if_false];show av _ _ (if (aK d==b8)=ae then _ else _) _ _ s;rw[if_neg (λz=>by cases z)];refine a9 (ak (a9 (aW ho hd ?_)));rw[if_neg (by simp)];refine a9 (ak (a9 (dS ho hd ?_)));rw[if_neg (by simp)];refine ak ?_;simp only[show ¬((i:Int)<0)from by omega,if_false,X8,Array.getElem?_eq_none hi];refine a9 ?_
 first|refine a9 (c9 hz.ty (ak ?_))|refine a9 (cZ hz.ty (ak ?_))
 show av _ _ (setField (.ref it) 0 .none >>= _) _ _ s;refine a9 (gc hz rfl (by simp) ?_);show av _ _ (nU (.type "StopIteration") [] >>= _) _ _ _;refine a9 ?_;simp only[nU,newTuple];refine a9 (bf ?_ (by size_fits));refine a9 (m:=gk _ _) (gf (a:=b8) ?_ ?_)
 .first|rfl|(simp only[gk];rfl)
 refine bf ?_ (by size_fits);simp only[raiseNew];refine a9 (o6 ?_);rw[show A.in1.handled=af from hh];refine a9 (ak (wpAny_throw (a9 ?_)));refine fm (T:="StopIteration") (b:=ae) ⟨_,X3 _ rfl,rfl⟩ nV ?_;exact ak (q _ (((Ph ..).extBut.push _).push _))
def jcm{n:Nat}{Q:k8w}(hz:Uj s.heap it d i n ep)(h:Q (.ref it) s):av (aC prog w) A (iA (.ref it)) Q E s:=by
 have hT:s.TypeIs (.ref it) "dict_keyiterator":=⟨_,hz,rfl⟩
 refine lN hT iv (b7 iv hT F.entry_dict_keyiterator_iter ?_ (F.args_dict_keyiterator_iter_1 _));show av _ _ (ret (.ref it)) _ _ s;exact ak ⟨_,rfl,"dict_keyiterator",_,hT,T3.lookup,h⟩
end
noncomputable def Itk(d:ai)(xs:List (zo×ai×aj))(ep:Nat):It :=
 ⟨λi H=>H d=a8 (.dI xs ep)/\i<xs.length,λi H v H'=>H'=H/\∃x,xs[i]?=a8 x/\v=.ref x.2.1,λi H=>H d=a8 (.dI xs ep)/\xs.length<=i⟩
def j3y{P:az}{w:aE}{K:k8v}{tg:au}{it d:ai}{xs:List (zo×ai×aj)}{ep:Nat}:Turn P w K tg (Itk d xs ep) [it] it (λi h=>Uj h it d i xs.length ep) where
 mem:=by simp
 obj:=λi h hz c hc=>by rw[xg.mp hc];exact⟨_,hz,λv e=>by cases e⟩
 keep:=λi h h' hz k=>k it (by simp) _ hz
 item:=by
  rintro X hP hw hK hc i pins s σ H E I hf hz ⟨hx,hlt⟩;subst hP hw hK;obtain⟨z1,z2,z3,od,en,h1,h2,h3,h4⟩:=(show jh X.prog X.w H s.heap d (.dI xs ep)from I.hok _ _ hx)
  have hsz:en.size=xs.length:=by have:=congrArg bL h4;simpa using this
  have hxi:=kh hlt;have he:en[i]?=a8 (dE (ba (bx X.prog X.w)) xs[i]):=by
   have:en.toList[i]?=a8 (dE (ba (bx X.prog X.w)) xs[i]):=by rw[h4,xn,hxi];rfl
   simpa using this
  obtain⟨f0,f1,f2,f3,f4,f5⟩:=hf it (by simp);have hz:Uj s.heap it d i xs.length ep:=hz;rw[<-hsz]at hz;refine jcn hz h1 h3 he λh' hz' sb=>?_;have I1:Inv X pins σ H { s with heap:=h' }:=I.turned (t':=s.toks) (λb o hb e=>(sb.2 b hb).trans e) f0 f1 f3 f4 f5;exact⟨_,rfl,N6 (s:={ s with heap:=h' }) hz' rfl rfl (by decide) ⟨.ref xs[i].2.1,H,I1,rfl,⟨rfl,_,hxi,rfl⟩,by rw[hsz]at hz';exact hz',λb hb=>(hf b hb).1⟩⟩
 done:=by
  rintro X hP hw hK hc i pins s σ H E I hf hz ⟨hx,hend⟩;subst hP hw hK;obtain⟨z1,z2,z3,od,en,h1,h2,h3,h4⟩:=(show jh X.prog X.w H s.heap d (.dI xs ep)from I.hok _ _ hx)
  have hsz:en.size=xs.length:=by have:=congrArg bL h4;simpa using this
  obtain⟨f0,f1,f2,f3,f4,f5⟩:=hf it (by simp);have hz:Uj s.heap it d i xs.length ep:=hz;rw[<-hsz]at hz;exact jgj (I.ok.hd hc) hz h1 h3 (by omega) λh' eb=>⟨rfl,I.turned (t':=s.toks) (λb o hb e=>eb b o hb e) f0 f1 f3 f4 f5⟩
 self:=λ_ _ _ _ _ hz h=>jcm hz h
noncomputable abbrev Mh(ks:List zo):List D:=ks.map λk=>D.tup (k.map D.int)
def j54{K:k8v}{F:Hp}{a:ai}{xs:List (zo×ai×aj)}{ep:Nat}(hx:F a=a8 (.dI xs ep))(kt:∀x∈xs,SqT K F x.2.1 (x.1.map V.int)):Ze K F (Itk a xs ep) (Mh (xs.map λx=>x.1)):=λi H A g hA=>by
 have hx':H a=a8 (.dI xs ep):=(of_del (g _ _ hx)).2;have hl:(Mh (xs.map λx=>x.1)).length=xs.length:=by simp
 refine⟨λh=>⟨hx',by rw[hl]at h;exact h⟩,λh=>⟨hx',by rw[hl]at h;exact h⟩,λv H' ⟨eH,x,hxi,ev⟩=>⟨by rw[eH];exact λ_ _ z=>z,λd hd=>?_⟩⟩;rw[eH,ev];unfold Mh at hd;rw[xn,xn,hxi]at hd;cases hd;exact⟨x.2.1,_,rfl,g.seqT (kt x (Xl hxi)),j4.ints x.1⟩
section
variable{X:Cx}{ρ:Rho}{a tg:au}{ks:List zo}{ds:List D}
def DI.dkeys(ha:DE X ρ a (.dct ks ds)):DI X ρ tg a (Mh ks):=λσ H R r q pins s I=>by
 refine thn (ha σ H (λv H'=>j0 H H'/\Enc X.K (del H' (owns ρ)) (.dct ks ds) v) r (λv H' g e=>⟨g,e⟩) pins s I) λv s1 ⟨x,H1,I1,r1,g1,en⟩=>?_;obtain⟨d,xs,ep,vs,ex,hx,ek,kt,rv,l⟩:=en;subst ex ek;cases r1;have hx1:H1 d=a8 (.dI xs ep):=(of_del hx).2;obtain⟨z1,z2,z3,od,en,h1,h2,h3,h4⟩:=(show jh X.prog X.w H1 s1.heap d (.dI xs ep)from I1.hok _ _ hx1)
 have hsz:en.size=xs.length:=by have:=congrArg bL h4;simpa using this
 refine jco ⟨od,h1,h2.1⟩ z2 h1 h3 ?_;rw[hsz];refine⟨_,[s1.heap.objs.size],_,Itk d xs ep,H1,rfl,I1.kept (t':=s1.toks) λb o e=>kj _ e,j3y,X3 _ rfl,λc hc=>?_,q _ H1 g1 (j54 hx kt)⟩;rw[xg.mp hc];exact I1.fpOk (xu _) (I1.hok.fresh (xu _))
end
def Lw (a v:aj):argsOk "min" ⟨[a],[(aQ "default",v)]⟩:=by unfold argsOk;kernel_rfl
section
variable{X:Cx}{pins:k8x}{σ:St}{H:Hp}{l S I:ai}{xs:List V}{R:f6->aq->Prop}{dv:aj}
def jhn(X:Cx)(pins:k8x)(σ:St)(H:Hp)(xs:List V)(bt:Nat->Nat->Bool):Prop:=∀(i j:Nat)(x y:V)(u v:aj)(s:aq)(Q:k8w)(E:k8w),xs[i]?=a8 x->xs[j]?=a8 y->RelV x u->RelV y v->Inv X pins σ H s ->
 Q (.bool (bt i j)) s->av (aC X.prog X.w) X.A.in1 (gh .Lt u v) Q E s
def j7a(bt:Nat->Nat->Bool)(hh:X.A.handled=af)(hl:SqL X.K H l xs)(hSI:S≠I)(fS:v6 X pins H S)(fI:v6 X pins H I)(cmp:jhn X pins σ H xs bt)
  (hR:∀x u s',xs[be bt (xs.length-1)]?=a8 x->RelV x u->Inv X pins σ H s'->R (.ok (.ret u)) s') :
  ∀(r j:Nat)(s:aq)(x:V)(u:aj)(c:Nat),xs.length-(j+1)=r->j+1<=xs.length->Inv X pins σ H s->s.heap.get? S=a8 (bT "list" #[u,u] c) ->
   s.heap.IsListIter I l (j+1)->xs[be bt j]?=a8 x->RelV x u->bY (aC X.prog X.w) X.A (.builtin "min.loop" ⟨[.ref I,.none,.ref S],[(aQ "default",dv)]⟩) R s:=by
 have hname:(toString "min" ++ toString ".loop":String) = "min.loop":=by decide
 have fp:∀b∈[S,I],v6 X pins H b:=λb hb=>by
  rcases xq.mp hb with e|hb
  .subst e;exact fS
  .rw[xg.mp hb];exact fI
 intro r;induction r with
 |zero =>
  intro j s x u c hr hj I1 oS it hx ru;have hin:j+1=xs.length:=by omega
  obtain⟨its,rv,p,_⟩:=I1.list hl;have hlen:=rv.length;refine bG T8 ?_;rw[Pr Xi _];show av _ X.A.in1 (dD (.ref S) >>= _) _ _ _;refine a9 (aS oS rfl ?_);show av _ X.A.in1 (tryCatch (cD (.ref I)) _ >>= _) _ _ _;refine a9 (bN (dB hh it p.isList (by simp;omega) λh' eb=>?_));have I2:Inv X pins σ H { s with heap:=h' }:=I1.chg (ch:=[S,I]) fp λb o hb e=>eb b o (λz=>hb (by simp[z])) e;have oS':h'.get? S=a8 (bT "list" #[u,u] c):=eb S _ hSI oS;show av _ X.A.in1 (jN S (λ_=>#[]) >>= _) _ _ _;refine a9 ?_;refine d6 oS' rfl (a9 (bJ (ak ?_)));have s1:=Ph h' S (bR λ_=>(#[]:Array aj));exact hR x u _ (by rw[<-hin];exact hx) ru (I2.chg (ch:=[S,I]) fp λb o hb e=>(s1.2 b (λz=>hb (by simp[z]))).trans e)
 |succ r ih =>
  intro j s x u c hr hj I1 oS it hx ru;have hlt:j+1<xs.length:=by omega
  obtain⟨its,rv,p,_⟩:=I1.list hl;have hlen:=rv.length;have hx1:xs[j+1]?=a8 xs[j+1]:=by simp[hlt]
  obtain⟨v,hv,rv1⟩:=rv.get hx1;refine bG T8 ?_;rw[Pr Xi _];show av _ X.A.in1 (dD (.ref S) >>= _) _ _ _;refine a9 (aS oS rfl ?_);show av _ X.A.in1 (tryCatch (cD (.ref I)) _ >>= _) _ _ _;refine a9 (bN (cg it p.isList (x:=v) (by simpa using hv) λh' it' sb=>?_));have I2:Inv X pins σ H { s with heap:=h' }:=I1.chg (ch:=[S,I]) fp λb o hb e=>(sb.2 b (λz=>hb (by simp[z]))).trans e;have oS':h'.get? S=a8 (bT "list" #[u,u] c):=(sb.2 S hSI).trans oS;obtain⟨oI,eI,cI,dI⟩:=id it';show av _ X.A.in1 (tryCatch (gw [v,v] (gh .Lt v u >>= _)) _ >>= _) _ _ _;refine a9 (bN (bj (a9 (cmp (j+1) (be bt j) _ _ v u _ _ _ hx1 hx rv1 ru I2 ?_))));refine a9 (bj (br ?_));refine a9 (bJ (ak ?_));cases hb:bt (j+1) (be bt j) with
  |true =>
   have s1:=Ph h' S (bR λ_=>#[v,v]);obtain⟨c2,hc2⟩:∃c2,(h'.update S (bR λ_=>#[v,v])).get? S=a8 (bT "list" #[v,v] c2):=⟨_,fM oS' λ_=>#[v,v]⟩
   simp only[if_true];refine a9 ?_;refine d6 oS' rfl (a9 (bJ ?_));rw[hname];exact ak ⟨bM Xi _,ih (j+1) _ _ v c2 (by omega) hlt (I2.chg (ch:=[S,I]) fp λb o hb e=>(s1.2 b (λz=>hb (by simp[z]))).trans e) hc2
    ⟨oI,(s1.2 I hSI.symm).trans eI,cI,dI⟩ (by simp only[be,hb,if_true];exact hx1) rv1⟩
  |false =>simp only[Xr,if_false];refine a9 (bJ ?_);rw[hname];exact ak ⟨bM Xi _,ih (j+1) _ x u c (by omega) hlt I2 oS' ⟨oI,eI,cI,dI⟩ (by simp only[be,hb,Xr,if_false];exact hx) ru⟩
def jbi(bt:Nat->Nat->Bool)(hh:X.A.handled=af){s:aq}{Q:VK}{E:k8w}(I0:Inv X pins σ H s)(hl:SqL X.K H l xs)(hne:0<xs.length)(cmp:jhn X pins σ H xs bt)
  (hQ:∀x,xs[be bt (xs.length-1)]?=a8 x->Q x H):av (aC X.prog X.w) X.A (call (.builtin "min") [.ref l] [(aQ "default",dv)]) (EP X pins σ Q) E s:=by
 have hname:(toString "min" ++ toString ".loop":String) = "min.loop":=by decide
 obtain⟨its0,rv0,p0,_⟩:=I0.list hl;refine kmk_tree fZ fO fP (Lw _ _) ?_;show av _ X.A.in1 (bc "min" ["key","default"] 0 ⟨[],[(aQ "default",dv)]⟩ >>= _) _ _ s;refine a9 (gf (show bc "min" ["key","default"] 0 ⟨[],[(aQ "default",dv)]⟩=pure [af,a8 dv]from rfl) ?_);refine a9 (ak ?_);refine a9 (bu p0.isList ?_);refine a9 (jH ?_ (Xw _));rw[hname];generalize hA:s.heap.push { cls:=.type "list_iterator",data:=.fields #[.ref l,.int 0 0] }=h1;have z1:h1.objs.size=s.heap.objs.size+1:=by rw[<-hA];exact size_push' ..
 have gI:(h1.push (bT "list" #[] 0)).get? s.heap.objs.size=a8 { cls:=.type "list_iterator",data:=.fields #[.ref l,.int 0 0] }:=by rw[<-hA];exact kj _ (X3 _ rfl)
 have gS:(h1.push (bT "list" #[] 0)).get? h1.objs.size=a8 (bT "list" #[] 0):=X3 _ rfl;have I1:Inv X pins σ H { s with heap:=h1.push (bT "list" #[] 0) }:=I0.kept (t':=s.toks) λb o e=>kj _ (by rw[<-hA];exact kj _ e);have fI:v6 X pins H s.heap.objs.size:=I0.fpOk (xu _) (I0.hok.fresh (xu _));have fS:v6 X pins H h1.objs.size:=I0.fpOk (by rw[z1];exact Pk _) (I0.hok.fresh (by rw[z1];exact Pk _));have hSI:h1.objs.size≠s.heap.objs.size:=by rw[z1];exact P0 (Ti _)
 have fp:∀b∈[h1.objs.size,s.heap.objs.size],v6 X pins H b:=λb hb=>by
  rcases xq.mp hb with e|hb
  .subst e;exact fS
  .rw[xg.mp hb];exact fI
 refine ak ⟨bM Xi _,?_⟩;obtain⟨its,rv,p,_⟩:=I1.list hl;have hlen:=rv.length;have hx0:xs[0]?=a8 xs[0]:=by simp[hne]
 obtain⟨v,hv,rv1⟩:=rv.get hx0;refine bG T8 ?_;rw[Pr Xi _];show av _ X.A.in1 (dD (.ref _) >>= _) _ _ _;refine a9 (aS gS rfl ?_);show av _ X.A.in1 (tryCatch (cD (.ref s.heap.objs.size)) _ >>= _) _ _ _;refine a9 (bN (cg (i:=0) ⟨_,gI,rfl,rfl⟩ p.isList (x:=v) (by simpa using hv) λh' it' sb=>?_));have I2:Inv X pins σ H { s with heap:=h' }:=I1.chg (ch:=[h1.objs.size,s.heap.objs.size]) fp λb o hb e=>(sb.2 b (λz=>hb (by simp[z]))).trans e;have oS':h'.get? h1.objs.size=a8 (bT "list" #[] 0):=(sb.2 _ hSI).trans gS;obtain⟨oI,eI,cI,dI⟩:=id it';have s1:=Ph h' h1.objs.size (bR λ_=>#[v,v]);obtain⟨c2,hc2⟩:∃c2,(h'.update h1.objs.size (bR λ_=>#[v,v])).get? h1.objs.size=a8 (bT "list" #[v,v] c2):=⟨_,fM oS' λ_=>#[v,v]⟩
 show av _ X.A.in1 (jN h1.objs.size (λ_=>#[v,v]) >>= _) _ _ _;refine a9 ?_;refine d6 oS' rfl ?_;rw[hname];exact ak ⟨bM Xi _,j7a bt hh hl hSI fS fI cmp (λx u s' hx ru I=>⟨x,H,I,ru,hQ x hx⟩) _ 0 _ _ v c2 rfl hne
  (I2.chg (ch:=[h1.objs.size,s.heap.objs.size]) fp λb o hb e=>(s1.2 b (λz=>hb (by simp[z]))).trans e) hc2 ⟨oI,(s1.2 _ hSI.symm).trans eI,cI,dI⟩ hx0 rv1⟩
def j79 (hh:X.A.handled=af) {s:aq} {Q:k8w} {E:k8w} (I0:Inv X pins σ H s) (hl:SqL X.K H l []) (hQ:∀s',Inv X pins σ H s'->Q dv s'):av (aC X.prog X.w) X.A (call (.builtin "min") [.ref l] [(aQ "default",dv)]) Q E s:=by
 have hname:(toString "min" ++ toString ".loop":String) = "min.loop":=by decide
 obtain⟨its0,rv0,p0,_⟩:=I0.list hl;cases rv0;refine kmk_tree fZ fO fP (Lw _ _) ?_;show av _ X.A.in1 (bc "min" ["key","default"] 0 ⟨[],[(aQ "default",dv)]⟩ >>= _) _ _ s;refine a9 (gf (show bc "min" ["key","default"] 0 ⟨[],[(aQ "default",dv)]⟩=pure [af,a8 dv]from rfl) ?_);refine a9 (ak ?_);refine a9 (bu p0.isList ?_);refine a9 (jH ?_ (Xw _));rw[hname];generalize hA:s.heap.push { cls:=.type "list_iterator",data:=.fields #[.ref l,.int 0 0] }=h1;have gI:(h1.push (bT "list" #[] 0)).get? s.heap.objs.size=a8 { cls:=.type "list_iterator",data:=.fields #[.ref l,.int 0 0] }:=by rw[<-hA];exact kj _ (X3 _ rfl)
 have gS:(h1.push (bT "list" #[] 0)).get? h1.objs.size=a8 (bT "list" #[] 0):=X3 _ rfl;have I1:Inv X pins σ H { s with heap:=h1.push (bT "list" #[] 0) }:=I0.kept (t':=s.toks) λb o e=>kj _ (by rw[<-hA];exact kj _ e);have fI:v6 X pins H s.heap.objs.size:=I0.fpOk (xu _) (I0.hok.fresh (xu _));have fp:∀b∈[s.heap.objs.size],v6 X pins H b:=λb hb=>by rw[xg.mp hb];exact fI
 refine ak ⟨bM Xi _,?_⟩;obtain⟨its,rv,p,_⟩:=I1.list hl;cases rv;refine bG T8 ?_;rw[Pr Xi _];show av _ X.A.in1 (dD (.ref _) >>= _) _ _ _;refine a9 (aS gS rfl ?_);show av _ X.A.in1 (tryCatch (cD (.ref s.heap.objs.size)) _ >>= _) _ _ _;refine a9 (bN (dB (i:=0) hh ⟨_,gI,rfl,rfl⟩ p.isList (by simp) λh' eb=>?_));have I2:Inv X pins σ H { s with heap:=h' }:=I1.chg (ch:=[s.heap.objs.size]) fp λb o hb e=>eb b o (λz=>hb (by simp[z])) e;show av _ X.A.in1 (lz _ >>= λ_=>ret dv) _ _ _;refine a9 (iX (ak ?_));exact hQ _ I2
end
section
variable{X:Cx}{ρ:Rho}{a b c:au}{ns:zo}{i j k:Int}{n:Nat}{p p1 pk pos:aO}
def DE.minD (hcalm:X.calm=ae) (hm:X.mg "min" = af) (hg:Gl X "min") (ha:DT X ρ a (.lst (ns.map D.int))) (hs:ah [a] X.env=[(aa,aD a X.env)]) :
  DE X ρ (.Call (.Name "min" p) [a] [⟨a8 "default",.Constant (.int 0) n p1,pk⟩] pos) (.int (J0 ns)):=λσ H Q R q pins s I=>by
 refine aY (Jx I hg hm kM ?_ (by decide) (by decide));refine callWith_builtin_kwB (by rw[hs];rfl) rfl (evalArgs_kw2 rfl ?_ hs);have h1:PA X [a] (Kd (Jo X a) j2j):=jc peS jn hs;refine thn (h1 pos pins s σ H (λvs H1=>∃v,vs=[v]/\j0 H H1/\Enc X.K H1 (.lst (ns.map D.int)) v) I (ha σ H _ R λv H1 g1 e1=>⟨v,rfl,g1,e1⟩)) λus s1 ⟨vs,H1,I1,r1,v,ev,g1,e1⟩=>?_;subst ev;have h2:PK X [⟨a8 "default",.Constant (.int 0) n p1,pk⟩] (Kd (tC (.int 0)) j2j):=jb6 Bo jec;refine thn (h2 pos pins s1 σ H1 (λvs H2=>vs=[.int 0]/\H2=H1) I1 ⟨rfl,rfl⟩) λks s2 ⟨ws,H2,I2,r2,ew,eH⟩=>?_;subst ew eH;obtain⟨b,xs,eb,sq,en⟩:=e1;subst eb;obtain⟨u,eu,ru⟩:=r1.one;subst eu;obtain⟨w,ek,rw⟩:=r2.one;subst ek;cases(show u=aK b from ru);obtain⟨tk,rfl⟩:=(show ∃t,w=bC 0 t from rw)
 have:=Yo en;subst this;show av (aC X.prog X.w) X.A (il (.builtin "min") [.ref b] [(aQ "default",.int 0 tk)]) _ _ _;by_cases hne:ns=[]
 .subst hne;exact j79 (I.ok.hd hcalm) I2 sq λs' I'=>⟨.int 0,H2,I',⟨_,rfl⟩,q _ H2 g1 rfl⟩
 .refine jbi (λi j=>decide (ns.getD i 0<ns.getD j 0)) (I.ok.hd hcalm) I2 sq (by rw[xf];exact List.length_pos_iff.mpr hne) (λi j x y u v s3 Q2 E2 hx hy rx ry I3 hq=>?_) λx hx=>?_
  .have at':∀{i:Nat}{x:V}{u:aj},(ns.map V.int)[i]?=a8 x->RelV x u->∃t,u=bC (ns.getD i 0) t:=λ{i x u} hx rx=>by rw[xn]at hx;obtain⟨z,hz,rfl⟩:=Xv.mp hx;rw[km,hz];exact rx
   obtain⟨t1,rfl⟩:=at' hx rx;obtain⟨t2,rfl⟩:=at' hy ry;exact(lt_int hq:av (aC X.prog X.w) X.A.in1 (aX .Lt _ _) Q2 E2 s3)
  .rw[xf]at hx;obtain⟨h1,h2⟩:=argBest_lt (λi=>ns.getD i 0) (ns.length-1);have hp:=List.length_pos_iff.mpr hne;rw[xn,kh (by omega)]at hx;cases hx;have hM:J0 ns=ns[be (λi j=>decide (ns.getD i 0<ns.getD j 0)) (ns.length-1)]'(by omega):=by refine Fv (Xo _) λc hc=>?_;obtain⟨k,hk,rfl⟩:=T7.mp hc;have:=h2 k (by omega);simp only[km]at this ⊢;rw[kh hk,kh (by simp only[km]at h1;omega)]at this;exact this
   exact q _ H2 g1 (by rw[hM];rfl)
end
section
variable{prog:az}{w:aE}{A:aF}{E:k8w}{s:aq}{d:ai}{od:dF}{es:Array dG}{ep:Nat}
def j8h {Q:k8w} (hT:s.TypeIs (.ref d) "dict") (lo:(d==bO)=aa) (ho:s.heap.get? d=a8 od) (hd:od.data=.dict es ep) (hfit:(es.size:Int)<2^63)
  (h:Q (.int es.size (s.toks+1)) { s with toks:=s.toks+1+1 }):av (aC prog w) A (call (.builtin "len") [.ref d]) Q E s:=by
 refine Calls.call_function_entry kind_len plain_len entry_len (args_len1 _) ?_;unfold cS.«len»;refine a9 (m:=oneArg "len" _) (ak ?_);refine a9 (m:=callSpecial? (.ref d) (aQ "__len__")) (b9 (name:=aQ "__len__") hT lL (b7 lL hT F.entry_dict_len ?_ (F.args_dict_len_1 _)));show av _ _ (dictSize d >>= _) _ _ s;unfold dictSize;refine a9 (a9 (aW ho hd (ak ?_)));show av _ _ (nr d >>= _) _ _ s;refine a9 (wpAny_pendingCount_other lo ?_);refine a9 (wpAny_mkInt (ak ⟨_,rfl,?_⟩));rw[mD];refine a9 (bj (ak (a9 (bJ ?_))));show av _ _ (if ((es.size:Nat):Int)<0 then _ else _) _ _ _;rw[if_neg (by omega)];show av _ _ (if ((es.size:Nat):Int)>=2^63 then _ else _) _ _ _;rw[if_neg (by omega)];exact a9 (wpAny_mkInt (ak ⟨_,rfl,h⟩))
end
section
variable{X:Cx}{ρ:Rho}{a:au}{ks:List zo}{ds:List D}{pos:aO}
def j5y:J5 X (.builtin "len") (λvs H Q=>∃(d:ai)(xs:List (zo×ai×aj)) (ep:Nat),vs=[.ref d]/\H d=a8 (.dI xs ep)/\Q (.int xs.length) H):=by
 rintro pins s σ H vs us Q I r ⟨d,xs,ep,e,hx,q⟩;subst e;obtain⟨u,eu,ru⟩:=vals1 r;subst eu;cases ru;obtain⟨z1,z2,z3,od,en,h1,h2,h3,h4⟩:=(show jh X.prog X.w H s.heap d (.dI xs ep)from I.hok _ _ hx)
 have hsz:en.size=xs.length:=by have:=congrArg bL h4;simpa using this
 have hn:=Yi;exact j8h ⟨od,h1,h2.1⟩ z2 h1 h3 (by rw[hsz];omega) ⟨.int xs.length,H,I.tok _,⟨s.toks+1,by rw[hsz]⟩,q⟩
def DE.lenD (ha:DT X ρ a (.dct ks ds)) (hm:X.mg "len" = af) (hg:Gl X "len":=by rfl) (hs:ah [a] X.env=[(aa,aD a X.env)]:=by rfl) {p2:aO}:DE X ρ (.Call (.Name "len" p2) [a] [] pos) (.int ks.length):=λσ H Q R q =>(v5 j5y hg hm d4 (jc peS jn hs) (by decide) (by decide) hs).to (ha σ H _ R λv H1 g1 ⟨d,xs,ep,vs,e,hx,ek,kt,rv,l⟩=>⟨d,xs,ep,by rw[e],hx,q _ H1 g1 (by rw[ek,xf];rfl)⟩)
end
section
variable{prog:az}{w:aE}{A:aF}{E:k8w}{s:aq}{o d:ai}{oo od:dF}{es:Array dG}{ep epd:Nat}
def j12 {id:String} {Q:Array dG->aq->Prop} (hoo:s.heap.get? o=a8 oo) (hdo:oo.data=.dict es ep) (hty:∀e∈es,∃t,e.key=.ref t/\s.TypeIs (.ref t) "tuple") (hh:∀e∈es,(es.filter (·.hash==e.hash)).size<=1) (h:Q es s) :
  av (aC prog w) A (fH id o) Q E s:=by
 unfold fH;refine a9 (aW hoo hdo ?_);refine a9 ?_;rw[<-Array.forIn_toList];refine fq _ (λrest _ s'=>s'=s/\∀e∈rest,e∈es) _ ?_ ?_ _ _ ⟨rfl,λe he=>Array.mem_toList_iff.mp he⟩
 .rintro e rest r s' ⟨rfl,hall⟩;obtain⟨t,et,ht⟩:=hty e (hall e xr);refine a9 ?_;rw[et];unfold nq;refine a9 (nE ht F.slot_tuple_eq.lookup (ak ?_));rw[show(a8 (kW "tuple.__eq__")==a8 (kW "object.__eq__"))=aa by decide +kernel];have:=hh e (hall e xr);simp only[l8,if_true];rw[if_neg (by omega)];exact ak ⟨rfl,λe' he'=>hall e' (xm _ he')⟩
 .rintro r s' ⟨rfl,_⟩;exact ak h
def j4u{nm:String}{Q:Unit->aq->Prop}(hdo:d≠o)(hoS:(o==bO)=aa)(hod:s.heap.get? d=a8 od)(hdd:od.data=.dict #[] epd)(hoo:s.heap.get? o=a8 oo)(hdo':oo.data=.dict es ep)
  (hty:∀e∈es,∃t,e.key=.ref t/\s.TypeIs (.ref t) "tuple") (hh:∀e∈es,(es.filter (·.hash==e.hash)).size<=1) (hne:es.size≠0) (hz:es.size<=aw)
  (h:Q () { s with heap:=s.heap.update d (ia λ_=>es) }):av (aC prog w) A (gQ nm d o) Q E s:=by
 unfold gQ;rw[if_neg (by simpa using hdo)];unfold cQ;rw[if_neg (λz=>by rw[hoS]at z;cases z)];refine a9 (ak ?_);refine a9 (aW hoo hdo' ?_);have few:(decide (es.size<=8)&&es.all λe=>(keyPart e.key).isSome)=aa:=by
  have hlt:0<es.size:=Nat.pos_of_ne_zero hne;obtain⟨t,et,_⟩:=hty es[0] (gv hlt);have:(es.all λe=>(keyPart e.key).isSome)=aa:=by rw[Array.all_eq_false'];exact⟨es[0],gv hlt,by rw[et];simp[keyPart]⟩
  rw[this,fF]
 simp only[few,l8,if_true];refine a9 (aW hod hdd ?_);rw[if_pos (by rfl)];refine a9 (j12 hoo hdo' hty hh ?_);rw[if_pos (by simpa [Array.isEmpty]using hne)];exact a9 (k7 hod hdd (ak h) (by show es.size<=_;omega))
def Ka{Q:k8w}(hoS:(o==bO)=aa)(hc:oo.ExactDict)(hoo:s.heap.get? o=a8 oo)(hdo':oo.data=.dict es ep)
  (hty:∀e∈es,∃t,e.key=.ref t/\s.TypeIs (.ref t) "tuple") (hh:∀e∈es,(es.filter (·.hash==e.hash)).size<=1) (hne:es.size≠0) (hz:es.size<=aw)
  (h:∀h' ep',h'.get? s.heap.objs.size=a8 { cls:=.type "dict",data:=.dict es ep' }->(∀b u,s.heap.get? b=a8 u->h'.get? b=a8 u)->Q (.ref s.heap.objs.size) { s with heap:=h' }) :
  av (aC prog w) A (call (.type "dict") [.ref o]) Q E s:=by
 refine callType_codes (Q₁:=λobj s₁=>obj=.ref s.heap.objs.size/\s₁={ s with heap:=s.heap.push { cls:=.type "dict",data:=.dict #[] } }) F.kt_called_dict (F.kt_typeCall_dict_1 _) F.entry_dict_init (kt_code_dict_new _ ⟨rfl,rfl⟩) ?_;rintro obj s₁ ⟨rfl,rfl⟩;have hn:(s.heap.push { cls:=.type "dict",data:=.dict #[] }).get? s.heap.objs.size=a8 { cls:=.type "dict",data:=.dict #[] }:=X3 _ rfl;have hoo':(s.heap.push { cls:=.type "dict",data:=.dict #[] }).get? o=a8 oo:=kj _ hoo;have hT:iq { s with heap:=s.heap.push { cls:=.type "dict",data:=.dict #[] } } (.ref s.heap.objs.size) "dict":=⟨_,hn,rfl⟩
 have hO:iq { s with heap:=s.heap.push { cls:=.type "dict",data:=.dict #[] } } (.ref o) "dict":=⟨_,hoo',hc.1⟩
 have hdo:s.heap.objs.size≠o:=λe=>absurd (xx hoo) (by rw[e];exact tu _);refine⟨hT,F.args_dict_init_2 _ _,?_⟩;unfold cS.«dict.__init__» ni;refine a9 (a9 (dC hT ?_));show av _ _ (pure (s.heap.objs.size,[aK o])) _ _ _;refine ak ?_;show av _ _ (gJ "dict.__init__" s.heap.objs.size (.ref o) [] .none) _ _ _;unfold gJ;refine a9 (wpAny_typeOf hO ?_);rw[if_neg (by decide)];refine a9 ?_;unfold nv;refine a9 ?_;unfold nj;refine a9 (fm hO isSubtype_dict_dict ?_);simp only[lF,Xr,if_false];refine a9 (nE hO F.slot_dict_iter.lookup (ak ?_));simp only[beq_self_eq_true,if_true];refine a9 (ak ?_);refine j4u hdo hoS hn rfl hoo' hdo' (λe he=>?_) hh hne hz ?_
 .obtain⟨t,et,u,hu,cu⟩:=hty e he;exact⟨t,et,u,kj _ hu,cu⟩
 .show av _ _ (nD s.heap.objs.size [] >>= _) _ _ _;refine a9 (ak (ak ⟨rfl,h _ _ (dn _ hn rfl) λb u e=>?_⟩));exact(eR _ _ (P0 (xx e))).trans (kj _ e)
end
noncomputable def hI(k:zo):Int:=mr (fi (k.map lB))
def j9r{P:az}{w:aE}{k:zo}:(ba (bx P w)).hash k=hI k:=rfl
def j77{α:Type}{f:α->zo}{l:List α}(hn:(l.map f).Nodup){p:α->Bool}(h:∀a∈l,∀b∈l,p a=ae->p b=ae->f a=f b):(l.filter p).length<=1:=by
 have hs:((l.filter p).map f).Nodup:=hn.sublist ((List.filter_sublist).map f);have hm:∀a∈l.filter p,a∈l/\p a=ae:=λa ha=>Pn.mp ha;generalize l.filter p=m at hs hm
 match m,hs,hm with
 |[],_,_=>simp
 |[a],_,_=>simp
 |a::b::r,hs,hm =>exfalso;rw[X6,X6,Xn]at hs;obtain⟨a1,a2⟩:=hm a (by simp);obtain⟨b1,b2⟩:=hm b (by simp);exact hs.1 (by rw[h a a1 b b1 a2 b2];exact xr ..)
section
variable{X:Cx}
def j3i:J5 X (.type "dict") (λvs H Q=>∃(d:ai)(xs:List (zo×ai×aj)) (ep:Nat),vs=[.ref d]/\H d=a8 (.dI xs ep)/\(∀x∈xs,SqT X.K H x.2.1 (x.1.map V.int))/\xs≠[] /\
  (∀x∈xs,∀y∈xs,hI x.1=hI y.1->x.1=y.1)/\∀p ep',H p=af->Q (.ref p) (upd H p (.dI xs ep'))):=by
 rintro pins s σ H vs us Q I r ⟨d,xs,ep,e,hx,kt,hne,hu,q⟩;subst e;obtain⟨u,eu,ru⟩:=vals1 r;subst eu;cases ru;obtain⟨z1,z2,z3,od,en,h1,h2,h3,h4⟩:=(show jh X.prog X.w H s.heap d (.dI xs ep)from I.hok _ _ hx)
 have hsz:en.size=xs.length:=by have:=congrArg bL h4;simpa using this
 have hmem:∀e∈en,∃x∈xs,e=dE (ba (bx X.prog X.w)) x:=λe he=>by have:e∈en.toList:=Array.mem_toList_iff.mpr he;rw[h4]at this;obtain⟨x,hx,rfl⟩:=Xj.mp this;exact⟨x,hx,rfl⟩
 refine Ka z2 h2 h1 h3 (λe he=>?_) (λe he=>?_) (by rw[hsz];exact λz=>hne (List.length_eq_zero_iff.mp z)) (by rw[hsz];exact z1) λh' ep' hb kp=>?_
 .obtain⟨x,hx,rfl⟩:=hmem e he;obtain⟨its,rv,p,_⟩:=I.tuple (kt x hx);obtain⟨o,e1,e2,_⟩:=p;exact⟨x.2.1,rfl,o,e1,e2⟩
 .obtain⟨x,hx,rfl⟩:=hmem e he;rw[<-cM,Array.toList_filter,h4,List.filter_map,xf];refine j77 (f:=λx=>x.1) z3 λa ha b hb pa pb=>hu a ha b hb ?_;have pa:((ba (bx X.prog X.w)).hash a.1==(ba (bx X.prog X.w)).hash x.1)=ae:=pa;have pb:((ba (bx X.prog X.w)).hash b.1==(ba (bx X.prog X.w)).hash x.1)=ae:=pb;rw[j9r,j9r,beq_iff_eq]at pa pb;rw[pa,pb]
 .exact⟨.ref s.heap.objs.size,_,I.laid (a:=s.heap.objs.size) (o:=.dI xs ep') (t':=s.toks) (λb o e=>kp b o e) (xu _)
   ⟨z1,beq_eq_false_iff_ne.mpr (bE (Xa I.bigD)),z3,_,en,hb,⟨rfl,rfl,rfl⟩,rfl,h4⟩,rfl,q _ _ (I.hok.fresh (xu _))⟩
end
section
variable{prog:az}{w:aE}{A:aF}{E:k8w}{s:aq}{a b:ai}{xs ys:List (zo×ai×aj)}
def j6q{nm:String}{Q:Bool->aq->Prop}(ha:(a==bO)=aa)(hb:(b==bO)=aa)(da:s.heap.DictOfH (ba (bx prog w)) a xs)(db:s.heap.DictOfH (ba (bx prog w)) b ys)(hu:(ba (bx prog w)).room A)(hl:xs.length=ys.length)
  (hk:∀x∈xs,∃y∈ys,y.1=x.1) (hv:∀x∈xs,∀y∈ys,y.1=x.1->∃(n:Int)(t u:iR),x.2.2=.int n t/\y.2.2=.int n u) (h:Q ae s):av (aC prog w) A (gP nm a b) Q E s:=by
 obtain⟨oa,es,ep,hoa,_,hda,hea,hia,hna⟩:=da;obtain⟨ob,es',ep',hob,_,hdb,heb,hib,hnb⟩:=db;have hla:es.size=xs.length:=by have:=congrArg bL hea;simpa using this
 have hlb:es'.size=ys.length:=by have:=congrArg bL heb;simpa using this
 unfold gP cQ;rw[if_neg (λz=>by rw[ha]at z;cases z),if_neg (λz=>by rw[hb]at z;cases z)];refine a9 (ak (a9 (ak (a9 (aW hoa hda ?_)))));dsimp only;refine a9 (aW hob hdb ?_);rw[if_neg (by rw[hla,hlb,hl];simp)];refine a9 (dS hoa hda (a9 ?_));rw[dM];simp only[fY,my,Nat.add_sub_cancel,Nat.div_one];refine fq _ (λrest q s'=>s'=s/\q=(af,())/\∀i∈rest,i<es.size) _ ?_ ?_ _ _ ⟨rfl,rfl,λi hi=>by have:=List.mem_range'_1.mp hi;omega⟩
 .rintro i rest q s' ⟨rfl,rfl,hr⟩;have hlt:=hr i (xr ..);have hlt':i<xs.length:=by omega
  have hei:es[i]=dE (ba (bx prog w)) xs[i]:=by
   have:es.toList[i]?=a8 (dE (ba (bx prog w)) xs[i]):=by rw[hea,xn,kh hlt'];rfl
   rw[dj,dW hlt]at this;exact ax this
  have hxm:xs[i]∈xs:=Xo hlt';refine a9 (aW hoa hda ?_);rw[dW hlt,hei];show av _ _ (gw [aK xs[i].2.1,xs[i].2.2] _ >>= _) _ _ _;refine a9 (bj (a9 ?_));refine wpAny_dictFind_heap (a:=xs[i].2.1) (k:=xs[i].1) hu (hia _ hxm) hob hdb heb hib hnb (λno=>?_) λj p hj=>?_
  .exfalso;obtain⟨y,hy,ey⟩:=hk _ hxm;obtain⟨j,hj,rfl⟩:=T7.mp hy;exact no j (ys[j].2) (by rw[kh hj,<-ey])
  .have hjl:j<ys.length:=(X4.mp hj).1;have hjv:ys[j]=(xs[i].1,p):=(X4.mp hj).2;have hej:es'[j]?=a8 (dE (ba (bx prog w)) ys[j]):=by rw[<-dj,heb,xn,kh hjl];rfl
   obtain⟨n,t,u,e1,e2⟩:=hv _ hxm _ (Xo hjl) (by rw[hjv]);refine a9 (aW hob hdb ?_);rw[hej];show av _ _ (gw [ys[j].2.2] (eqBool xs[i].2.2 ys[j].2.2)) _ _ _;rw[e1,e2];refine bj (mq ?_);rw[show(n==n)=ae from beq_self_eq_true n];show av _ _ (if (!true)=ae then _ else _) _ _ _;rw[if_neg (by decide)];refine a9 (dS hoa hda ?_);rw[if_neg (by simp)];exact ak ⟨rfl,rfl,λk hk=>hr k (xm _ hk)⟩
 .rintro q s' ⟨rfl,rfl,_⟩;exact ak h
def jgh{Q:k8w}(ha:(a==bO)=aa)(hb:(b==bO)=aa)(da:s.heap.DictOfH (ba (bx prog w)) a xs)(db:s.heap.DictOfH (ba (bx prog w)) b ys)(hu:A.units+1<aZ)(hl:xs.length=ys.length)
  (hk:∀x∈xs,∃y∈ys,y.1=x.1) (hv:∀x∈xs,∀y∈ys,y.1=x.1->∃(n:Int)(t u:iR),x.2.2=.int n t/\y.2.2=.int n u) (h:Q (.bool ae) s):av (aC prog w) A (aX .Eq (.ref a) (.ref b)) Q E s:=by
 have ta:s.TypeIs (.ref a) "dict":=let ⟨o,_,_,ho,hc,_⟩:=da;⟨o,ho,hc.1⟩;have tb:s.TypeIs (.ref b) "dict":=let ⟨o,_,_,ho,hc,_⟩:=db;⟨o,ho,hc.1⟩;refine wpAny_richCompare_same_room (op:=.Eq) ta tb iM (b7 iM ta PySem.F.entry_dict_eq ?_ (PySem.F.args_dict_eq_2 _ _)) (by omega);show av _ _ (g9 "__eq__" ⟨[.ref a,.ref b],[]⟩ >>= _) _ _ s;unfold g9;refine a9 (a9 (dC ta ?_));show av _ _ (pure (aK a,aK b)) _ _ s;refine ak (a9 (fm (T:="dict") tb PySem.F.sub_dict_dict ?_));simp only[lF,Xr,if_false];refine a9 (ak (a9 (ak (a9 (j6q ha hb da db (eJ hu) hl hk hv ?_)))));exact ak ⟨_,rfl,λx=>(nomatch x),h⟩
end
section
variable{X:Cx}{ρ:Rho}{ea eb:au}{ks:List zo}{ns:zo}{pos:aO}
def Ba{us:List aj}:∀{ns:zo},Vals (ns.map V.int) us->∀(j:Nat)(u:aj),us[j]?=a8 u->∃(n:Int)(t:iR),ns[j]?=a8 n/\u=bC n t:=λ{ns} h j u hu=>by
 have hl:=h.length;have hj:j<ns.length:=by rw[xf]at hl;have:=(X4.mp hu).1;omega
 obtain⟨v,hv,rv⟩:=h.get (i:=j) (x:=.int ns[j]) (by rw[xn,kh hj];rfl);rw[hu]at hv;cases hv;obtain⟨t,et⟩:=(show ∃t,u=bC ns[j] t from rv)
 exact⟨ns[j],t,kh hj,et⟩
def jbd(hu:X.A.units+100<aZ):OpR X (aX .Eq) (λx y H Q=>∃(a b:ai)(xs ys:List (zo×ai×aj)) (e e':Nat),x=.ref a/\y=.ref b/\H a=a8 (.dI xs e)/\H b=a8 (.dI ys e')/\(∀x∈xs,SqT X.K H x.2.1 (x.1.map V.int))/\(∀x∈ys,SqT X.K H x.2.1 (x.1.map V.int)) /\
  (xs.map λx=>x.1)=(ys.map λx=>x.1)/\(∃ns:zo,Vals (ns.map V.int) (xs.map λx=>x.2.2)/\Vals (ns.map V.int) (ys.map λx=>x.2.2))/\Q (.bl ae) H):=by
 rintro pins s σ H x y u v Q I rx ry ⟨a,b,xs,ys,e,e',rfl,rfl,hx,hy,kx,ky,ek,⟨ns,vx,vy⟩,q⟩;cases rx;cases ry;obtain⟨l1,z1,d1⟩:=Y9 I hx kx;obtain⟨l2,z2,d2⟩:=Y9 I hy ky;have hl:xs.length=ys.length:=by have:=congrArg bL ek;simpa using this
 have hnd:(ys.map λx=>x.1).Nodup:=let ⟨_,_,_,_,_,_,_,_,hn⟩:=d2;hn;have at':∀j:Nat,(xs[j]?).map (λx:zo×ai×aj=>x.1)=(ys[j]?).map λx:zo×ai×aj=>x.1:=λj=>by rw[<-xn,<-xn,ek]
 refine jgh l1 l2 d1 d2 (by omega) hl (λx hx=>?_) (λx hx y hy exy=>?_) ⟨.bl ae,H,I,rfl,q⟩
 .obtain⟨j,hj,rfl⟩:=T7.mp hx;have:=at' j;rw[kh hj,kh (by omega)]at this;exact⟨ys[j],Xo _,(ax this).symm⟩
 .obtain⟨j,hj,rfl⟩:=T7.mp hx;obtain⟨k,hk,rfl⟩:=T7.mp hy;have hjk:j=k:=by
   have h1:=at' j;rw[kh hj,kh (by omega)]at h1;have h1:xs[j].1=(ys[j]'(by omega)).1:=ax h1;rw[h1]at exy;have hk':k<(ys.map λx=>x.1).length:=by simpa using hk
   have hj':j<(ys.map λx=>x.1).length:=by simp;omega
   have:(ys.map λx=>x.1)[k]=(ys.map λx=>x.1)[j]:=by simpa using exy
   exact((kv (h₀:=hk') (h₁:=hj') hnd).mp this).symm
  subst hjk;obtain⟨n,t,e1,e2⟩:=Ba vx j xs[j].2.2 (by rw[xn,kh hj];rfl);obtain⟨n',t',e3,e4⟩:=Ba vy j ys[j].2.2 (by rw[xn,kh hk];rfl);rw[e1]at e3;cases e3;exact⟨n,t,t',e2,e4⟩
end
section
variable{X:Cx}{o k v:au}{td tk tv:TE}{p1 p2 pos:aO}
def jhv(td:TE):TE:=λσ H Q=>td σ H λx H1=>∃(a:ai)(xs:List (zo×ai×aj)) (ep:Nat),x=.ref a/\H1 a=a8 (.dI xs ep)/\∀ep',Q .non (upd H1 a (.dI [] ep'))
def j4i (ho:PE X o td) (hbase:aR o "clear" X.env (aD o X.env)=aD o X.env) (hline:(p1.endLine==p2.line)=ae):PE X (.Call (.Attribute o "clear" p1) [] [] p2) (jhv td):=by
 intro pins s σ H Q I h;refine jM hbase hline (thn (ho pins s σ H _ I h) λv s1 ⟨x,H1,I1,r1,a,xs,ep,ex,hx,q⟩=>?_);subst ex;cases r1;obtain⟨z1,z2,z3,od,en,h1,h2,h3,h4⟩:=(show jh X.prog X.w H1 s1.heap a (.dI xs ep)from I1.hok _ _ hx)
 have hsz:en.size=xs.length:=by have:=congrArg bL h4;simpa using this
 have ht:s1.TypeIs (.ref a) "dict":=⟨od,h1,h2.1⟩
 refine⟨"dict","dict.clear",PySem.F.plainAttrs_dict,ir,PySem.F.type_dict_clear,ht,λb e=>by cases e;exact⟨od,h1,h2.2.1⟩,Tu rfl (jA (b7 ir ht PySem.F.entry_dict_clear ?_ (PySem.F.args_dict_clear_1 _)))⟩;unfold cS.«dict.clear» nu;refine a9 (a9 (dC ht ?_));show av _ _ (pure a) _ _ s1;refine ak (a9 (aW h1 h3 ?_));unfold bearsInstanceDictMark;refine a9 (a9 (wpAny_load h1 (ak ?_)));refine a9 (k7 h1 h3 ?_ (Xw _));have hnew:=dn (ia λ_=>(#[]:Array dG)) h1 (Obj.isFreed_of_dict (jG h3 _));have fin:EP X pins σ Q .none { s1 with heap:=s1.heap.update a (ia λ_=>#[]) } :=
  ⟨.non,_,I1.write (x:=a) (e:=a) (o:=.dI [] (ep+1)) (t':=s1.toks) (by rw[hx];exact True.intro) (.inl rfl) (λc z nc e=>(eR _ _ (bE nc)).trans e) ⟨_,hnew⟩
   ⟨Xw _,z2,d8,_,#[],hnew,h2.mapDictKeys _,jG h3 _,rfl⟩,rfl,q _⟩
 split
 .exact a9 (bJ (ak ⟨.none,rfl,fin⟩))
 .exact a9 (ak (ak ⟨.none,rfl,fin⟩))
def jdm(K:k8v)(tk tv:TE):TE:=λσ H Q=>∀p,H p=af->tk σ (upd H p (.dI [] 0)) λy H1=>tv σ H1 λv H2=>∃(b:ai)(k:zo),y=.ref b/\SqT K H2 b (k.map V.int)/\H2 p=a8 (.dI [] 0)/\∀u ep,RelV v u->Q (.ref p) (upd H2 p (.dI [(k,b,u)] ep))
def j73(hu:X.A.units+100<aZ)(hk:PE X k tk)(hv:PE X v tv)(hs:(evalEachOpt [a8 k] X.env).zip ((evalEach [v] X.env).map λv=>do let x <-v;eS pos;pure x)=[(a8 (aD k X.env),do let x <-aD v X.env;eS pos;pure x)]:=by rfl) :
  PE X (.Dict [a8 k] [v] pos) (jdm X.K tk tv):=by
 intro pins s σ H Q I h;rw[arm_eval_Dict,hs];rw[show[(a8 (aD k X.env),do let x <-aD v X.env;eS pos;pure x)]=[(aD k X.env,(do let x <-aD v X.env;eS pos;pure x:nG aj))].map λp=>(a8 p.1,p.2)from rfl,dictDisplay_pairs _ (by simp) (by simp)];refine a9 (eX (a9 ?_));unfold subDict;refine a9 (wpAny_alloc (a9 (bj ?_)));rw[if_pos (by simp)];have I0:Inv X pins σ (upd H s.heap.objs.size (.dI [] 0)) { s with heap:=s.heap.push { cls:=.type "dict",data:=.dict #[] } }:=I.laid (a:=s.heap.objs.size) (o:=.dI [] 0) (t':=s.toks) (λ_ _ q=>kj _ q) (xu _)
  ⟨Xw _,beq_eq_false_iff_ne.mpr (bE (Xa I.bigD)),d8,_,#[],X3 _ rfl,⟨rfl,rfl,rfl⟩,rfl,rfl⟩
 refine a9 (evalPairs_cons (thn (hk _ _ σ _ _ I0 (h _ (I.hok.fresh (xu _)))) λkv s1 ⟨y,H1,J1,ry,q1⟩=>a9 (thn (hv _ s1 σ H1 _ J1 q1) λvv s2 ⟨x,H2,J2,rx,b,kk,ey,sq,hp,q⟩=>a9 (eX (ak (evalPairs_nil ?_))))));subst ey;cases ry;obtain⟨lo,hz,dd⟩:=Y9 J2 hp (λx hx=>nomatch hx);refine bj (a9 ?_);rw[ff];refine a9 (a9 (wpAny_dictSet_heap (hsz:=hz) (show X.A.units<aZ by omega) (Ut J2 sq) dd λh' dd' sb=>ak ?_));dsimp only;rw[fE];obtain⟨ob,es,ep',w1,w2,w3,w4,w5,w6⟩:=dd';refine ak (ak (ak (ak ⟨.ref s.heap.objs.size,_,J2.write (x:=s.heap.objs.size) (e:=s.heap.objs.size) (o:=.dI [(kk,b,vv)] ep') (t':=s2.toks+(ba (bx X.prog X.w)).draws kk) (by rw[hp];exact True.intro) (.inl rfl) (λc z nc e=>(sb.2 c nc).trans e) ⟨ob,w1⟩ ?_,rfl,q vv ep' rx⟩)));exact⟨by show 1<=aw;decide,lo,w6,ob,es,w1,w2,w3,w4⟩
end
def Q0(K:k8v)(a:ai)(ks:List zo)(G F H:Hp):Prop:=∃(xs:List (zo×ai×aj)) (ep:Nat),H=upd F a (.dI xs ep)/\F a=af/\ks=(xs.map λz=>z.1)/\(∀z∈xs,SqT K G z.2.1 (z.1.map V.int))/\∀z∈xs,z.2.2=.bool ae
section
variable{K:k8v}{a:ai}{ks:List zo}{G G' F F' H:Hp}
def Q0.hd(h:Q0 K a ks G F H):∀b∈[a],Hd (H b):=λb hb=>by obtain⟨xs,ep,e,_⟩:=h;exact .inr ⟨xs,ep,by rw[xg.mp hb,e];exact jb⟩
theorem Q0.del(h:Q0 K a ks G F H):L2.del H [a]=F:=by obtain⟨xs,ep,e,n,_⟩:=h;rw[e];exact j09 n
theorem Q0.mrg(h:Q0 K a ks G F H)(g:j0 G G')(n:F' a=af):Q0 K a ks G' F' (L2.mrg [a] H F'):=by obtain⟨xs,ep,e,_,ek,kt,rv⟩:=h;exact⟨xs,ep,by rw[e];exact j1n jb,n,ek,λz hz=>g.seqT (kt z hz),rv⟩
end
def TSs(X:Cx)(a:ai)(ρ:Rho)(ks:List zo)(sts:List aP)(N:Rho->List zo->Prop):Prop:=∀σ F H E,Rep X.K ρ σ F->Q0 X.K a ks (del F (owns ρ)) F H ->
 (∀ρ' ks' σ' F' H',N ρ' ks'->Rep X.K ρ' σ' F'->Q0 X.K a ks' (del F' (owns ρ')) F' H'->Fr0 ρ ρ' F F'->E.nx σ' H')->Jr X sts E σ H
section
variable{X:Cx}{a:ai}{ρ:Rho}{ks:List zo}{st:aP}{rest body:List aP}{N:Rho->List zo->Prop}{it c:au}
def TSs.nil(h:N ρ ks):TSs X a ρ ks [] N:=λσ F H E R hd q=>Uq.to (q ρ ks σ F H h R hd (Fr0.refl ρ F))
def TSs.plain{M:Rho->Prop}(h1:DS X ρ st { nx:=M,rt:=λ_=>False })(h2:∀ρ1,M ρ1->TSs X a ρ1 ks rest N):TSs X a ρ ks (st::rest) N:=λσ F H E R hd q=>by
 refine(qw psS Jc).to (Uz (A:=[a]) (D':={ nx:=λσ' F'=>∃ρ',M ρ'/\Rep X.K ρ' σ' F'/\Fr0 ρ ρ' F F',rt:=λ_ _=>False }) hd.hd (by
  rw[hd.del]
  exact h1 σ F _ R ⟨λρ' σ' F' n R' f=>⟨ρ',n,R',f⟩,λ_ _ _ n=>n.elim,λ_ _ _ n=>n.elim,λ_ _ _ n=>n.elim,λ_ _ _ _ n=>n.elim⟩)
  (λσ' F' ⟨ρ',n,R',f⟩ na=>?_) (λ_ _ z=>z) (λ_ _ z=>z) (λ_ _ z=>z))
 exact h2 ρ' n σ' F' _ E R' (hd.mrg f (na a (by simp))) λρ2 ks2 σ2 F2 H2 n2 R2 d2 f2=>q ρ2 ks2 σ2 F2 H2 n2 R2 d2 (j0.trans f f2)
def TSs.new{x y w:Nat}{nx ny nw:ar}{lA:ai}{ds:List D}{k:zo}{n:Nat}{q1 q2 q3 q4 q5 q6 q7 q8 q9 q10 q11 q12 q13 q14:aO}(hx:ρ[x]?=a8 (.raw a dOb rfN))(hy:ρ[y]?=a8 (.val (.tup (k.map D.int))))(hw:ρ[w]?=a8 (.own lA ds))(hu:X.A.units+100<aZ)(hl:ds.length<aw)(hlk:ks.length<aw)
  (hX:X.N[x]?=a8 nx) (vx:Vis X.env.scope nx) (dx:(nx==k8z)=aa) (cx:(nx==k90)=aa) (hY:X.N[y]?=a8 ny) (vy:Vis X.env.scope ny) (dy:(ny==k8z)=aa) (cy:(ny==k90)=aa)
  (hW:X.N[w]?=a8 nw) (vw:Vis X.env.scope nw) (dw:(nw==k8z)=aa) (cw:(nw==k90)=aa) (hm:aG .NotIn (.Name nx q2)=aa) (s1:aJ (.Constant (.bool ae) n q7) (a8 (.Subscript (.Name nx q4) (.Name ny q5) q6)) q8.line X.env=pure aa)
  (hst:ah [.Name ny q11] X.env=[(aa,aD (.Name ny q11) X.env)]) (hline:(q10.endLine==q12.line)=ae) (hbase:aR (.Name nw q9) "append" X.env (aD (.Name nw q9) X.env)=aD (.Name nw q9) X.env)
  (hfew:((aU q12 (ah [.Name ny q11] X.env)).all (λx=>!x.1)&&(cC q12 (bF [] X.env)).all (λx=>x.1.isSome)&&decide (([.Name ny q11]:List au).length+([]:List bq).length+(if ([]:List bq).isEmpty then 0 else 1)<30))=ae)
  (s2:aJ (.Call (.Attribute (.Name nw q9) "append" q10) [.Name ny q11] [] q12) af q13.line X.env=pure aa)
  (h1:ks.contains k=ae->TSs X a ρ ks rest N) (h2:ks.contains k=aa->TSs X a (ρ.set w (.own lA (ds++[.tup (k.map D.int)]))) (ks++[k]) rest N) :
  TSs X a ρ ks (.If (.Compare (.Name ny q1) [.NotIn] [.Name nx q2] q3) [.Assign [.Subscript (.Name nx q4) (.Name ny q5) q6] (.Constant (.bool ae) n q7) q8,.Expr (.Call (.Attribute (.Name nw q9) "append" q10) [.Name ny q11] [] q12) q13] [] q14::rest) N:=λσ F H E R hd q=>by
 have sx:=(R.raw x a dOb rfN hx).1;obtain⟨v,sy,b,ys,ev,sq,l⟩:=R.val y _ hy;subst ev;rw[z9 l]at sq;obtain⟨xs,ep,eH,fa,ek,kt,tv⟩:=id hd;have gF:j0 (del F (owns ρ)) H:=by rw[eH];exact je.trans (j6 fa)
 have ha:H a=a8 (.dI xs ep):=by rw[eH];exact jb
 refine(qw (Kf (Je (R9 hu) (v4 hY vy dy cy) (v4 hX vx dx cx) hm) (qw (j1l hu (v4 hX vx dx cx) (v4 hY vy dy cy) j2u s1) Jc) Uq) Jc).to ?_;refine⟨.ref b,sy,.ref a,sx,b,k,a,xs,ep,rfl,gF.seqT sq,rfl,ha,λz hz=>gF.seqT (kt z hz),_,rfl,?_⟩;rw[<-ek];cases hc:ks.contains k with
 |true=>exact Uc (h1 hc σ F H E R hd q)
 |false =>
  refine W7 ?_;refine⟨.ref a,sx,.ref b,sy,a,b,xs,ep,k,rfl,ha,λz hz=>gF.seqT (kt z hz),rfl,gF.seqT sq,by rw[<-ek];exact hc,?_,λu ep' ru=>?_⟩
  .have:=congrArg bL ek;rw[xf]at this;omega
  .have hd':Q0 X.K a (ks++[k]) (del F (owns ρ)) F (upd H a (.dI (xs++[(k,b,u)]) ep')):=⟨xs++[(k,b,u)],ep',by rw[eH,Nt],fa,by rw[Xu,<-ek];rfl,λz hz=>by
     rcases Xp.mp hz with z1|z1
     .exact kt z z1
     .rw[xg.mp z1];exact sq,λz hz=>by
     rcases Xp.mp hz with z1|z1
     .exact tv z z1
     .rw[xg.mp z1];exact ru⟩
   refine TSs.plain (N:=λρ' ks'=>ρ'=ρ.set w (.own lA (ds++[.tup (k.map D.int)]))/\ks'=ks++[k]) (M:=λρ'=>ρ'=ρ.set w (.own lA (ds++[.tup (k.map D.int)]))) (DS.append w hw (DE.var y hy hY vy dy cy) hl rfl hW vw dw cw hst hline hbase hfew s2) (λρ1 e1=>TSs.nil ⟨e1,rfl⟩) σ F _ _ R hd' ?_;rintro ρ2 ks2 σ2 F2 H2 ⟨rfl,rfl⟩ R2 d2 f2;exact h2 hc σ2 F2 H2 E R2 d2 λρ3 ks3 σ3 F3 H3 n3 R3 d3 f3=>q ρ3 ks3 σ3 F3 H3 n3 R3 d3 (j0.trans f2 f3)
end
section
variable{X:Cx}{a:ai}{ρ:Rho}{ks:List zo}{st:aP}{rest body:List aP}{N:Rho->List zo->Prop}{it c:au}{ds:List D}{t:Nat}{nt:ar}{p1 p2 pos:aO}
def TSs.loop(W:Nat->Rho->List zo->Prop)(hi:DI X ρ (.Name nt p1) it ds)(h0:W 0 ρ ks)(hs:∀i d ρ' ks',ds[i]?=a8 d->W i ρ' ks'->TSs X a (ρ'.set t (.val d)) ks' body (W (i+1)))(hd:∀ρ' ks',W ds.length ρ' ks'->TSs X a ρ' ks' rest N)
  (hc:X.calm=ae) (hp:fv (aC X.prog X.w) X.A X.env X.xe) (hN:X.N.Nodup) (hT:X.N[t]?=a8 nt) (lt:Loc X.env.scope nt) (ft:X.fn nt=ae\/X.env.scope.names.lookup nt=a8 .local) (hf:∀x,aI it X.env x=pure x) :
  TSs X a ρ ks (.For (.Name nt p1) it body [] p2::rest) N:=λσ F H E R hD q=>by
 refine(qw (j4b hp hc piS (Y6 hN hT lt ft) Jc hf) Jc).to ?_;refine Bl (A:=[a]) (R':=λJ F1=>j0 F F1/\Ze X.K (del F1 (owns ρ)) J ds) hD.hd (by rw[hD.del];exact hi σ F _ R λJ F1 g ok=>⟨g,ok⟩) λJ F1 ⟨g,ok⟩ hn=>?_;have fa:F1 a=af:=hn a (by simp);have hD1:=hD.mrg (F':=F1) (jf (A:=owns ρ) g) fa;refine⟨λi m σ' H'=>∃ρ' ks' F',Rep X.K ρ' σ' F'/\Q0 X.K a ks' (del F' (owns ρ')) F' H'/\Fr0 ρ ρ' F1 F'/\W i ρ' ks'/\m=ds.length-i/\i<=ds.length,⟨ds.length,ρ,ks,F1,R.grow g,hD1,Fr0.refl _ _,h0,rfl,Xw _⟩,?_⟩;rintro i m σ' H' ⟨ρ',ks',F',R',D',f,w,rfl,hle⟩;obtain⟨xs,ep,eH,fa',ek,kt,tv⟩:=id D';obtain⟨go,stop,yld⟩:=ok i H' (a::owns ρ') (λb o eb=>by
  obtain⟨nb,eb'⟩:=of_del (f b o eb)
  have nba:b≠a:=λz=>by rw[z,fa']at eb';cases eb'
  rw[j7,eH,jd nba]
  .exact eb'
  .intro z
   rcases xq.mp z with z|z
   .exact nba z
   .exact nb z) (λb hb=>by
  rcases xq.mp hb with z|z
  .rw[z,eH,jb];simp
  .obtain⟨ys,eb⟩:=R'.owned b z
   have nba:b≠a:=λz=>by rw[z,fa']at eb;cases eb
   rw[eH,jd nba,eb];simp)
 by_cases hlt:i<ds.length
 .refine .inr ⟨go hlt,λσ2 H2=>∃ρ2 ks2 F2,Rep X.K ρ2 σ2 F2/\Q0 X.K a ks2 (del F2 (owns ρ2)) F2 H2/\Fr0 ρ ρ2 F1 F2/\W (i+1) ρ2 ks2,
   λσ2 H2 ⟨ρ2,ks2,F2,z1,z2,z3,z4⟩=>⟨ds.length-(i+1),by omega,ρ2,ks2,F2,z1,z2,z3,z4,rfl,hlt⟩,λv H2 yv=>?_⟩
  obtain⟨g2,en⟩:=yld v H2 yv;have en:=en _ (kh hlt);have h2a:H2 a=a8 (.dI xs ep):=g2 _ _ (by rw[eH];exact jb);have e2:H2=upd (del H2 [a]) a (.dI xs ep):=M6 h2a;have f2a:del H2 [a] a=af:=qp (by simp);have gF2:j0 F' (del H2 [a]):=λb o eb=>by
   have nb:b≠a:=λz=>by rw[z,fa']at eb;cases eb
   rw[j7 (by simpa using nb)];exact g2 b o (by rw[eH,jd nb];exact eb)
  have en2:Enc X.K (del (del H2 [a]) (owns ρ')) ds[i] v:=by rw[Jy];exact en
  generalize del H2 [a]=F2 at e2 f2a gF2 en2;have R2:Rep X.K (ρ'.set t (.val ds[i])) (σ'.set t (a8 v)) F2:=(R'.grow gF2).set_val en2;have f1:Fr0 ρ' (ρ'.set t (.val ds[i])) F' F2:=j0.trans (Fr0.grow gF2) (Fr0.drop λb hb=>(jg rfl).subset hb);have D2:Q0 X.K a ks' (del F2 (owns (ρ'.set t (.val ds[i])))) F2 H2:=⟨xs,ep,e2,f2a,ek,λz hz=>f1.seqT (kt z hz),tv⟩
  show Jr X body _ (σ'.set t (a8 v)) H2;exact hs i _ ρ' ks' (kh hlt) w _ F2 H2 _ R2 D2 λρ3 ks3 σ3 F3 H3 n3 R3 d3 f3=>⟨ρ3,ks3,F3,R3,d3,j0.trans f (j0.trans f1 f3),n3⟩
 .have e:i=ds.length:=by omega
  subst e;exact .inl ⟨stop (xu _),hd ρ' ks' w σ' F' H' E R' D' λρ3 ks3 σ3 F3 H3 n3 R3 d3 f3=>q ρ3 ks3 σ3 F3 H3 n3 R3 d3 (j0.trans (Fr0.grow g) (j0.trans f f3))⟩
def DS.popS{i w:Nat}{x u:ar}{l:ai}{d:D}{P:Po}{p3 p4 p5 p6:aO}(hk:ρ[w]?=a8 (.own l (ds++[d])))(h:P.nx ((ρ.set w (.own l ds)).set i (.val d)))(nd:X.N.Nodup)(hi:X.N[i]?=a8 x)(hN:X.N[w]?=a8 u)(hx:Loc X.env.scope x)(fx:X.fn x=ae\/X.env.scope.names.lookup x=a8 .local)
  (hv:Vis X.env.scope u) (hd:(u==k8z)=aa) (hcd:(u==k90)=aa) (hline:(p5.endLine==p6.line)=ae) (hbase:aR (.Name u p4) "pop" X.env (aD (.Name u p4) X.env)=aD (.Name u p4) X.env)
  (hs:aJ (.Call (.Attribute (.Name u p4) "pop" p5) [] [] p6) (a8 (.Name x p3)) pos.line X.env=pure aa):DS X ρ (.Assign [.Name x p3] (.Call (.Attribute (.Name u p4) "pop" p5) [] [] p6) pos) P:=λσ H E R q=>by
 obtain⟨hσ,xs,m,en⟩:=R.own w l _ hk;obtain⟨ys,v,ex,el,ev⟩:=en.last;subst ex;refine(Qx nd hi hx (jeh cO jL PySem.F.type_list_pop jex (v4 hN hv hd hcd) hbase hline) hs fx).to ?_;have R1:=R.upd_own hk el;refine⟨_,hσ,.inl ⟨rfl,_,.inl (.inl m)⟩,l,ys++[v],v,rfl,rfl,m,by simp,?_⟩;rw[jD];refine q.nx _ _ _ h (R1.set_val (by rw[Z3 hk,Zg (Jp hk)];exact ev)) (j0.trans (j02 (σ:=σ) hk (j0.refl H)) (Fr0.drop λb hb=>(jg rfl).subset hb))
end
end L2
end
section
namespace L2
noncomputable def step(acc:List zo)(f:zo):List zo:=acc.flatMap λa=>f.map λx=>a++[x]
noncomputable def zr(fs:List zo):List zo:=fs.foldl step [[]]
noncomputable def W0:List zo->List zo
 |[]=>[[]]
 |f::fs=>f.flatMap λx=>(W0 fs).map (x :: ·)
theorem N8:∀(fs:List zo) (acc:List zo),fs.foldl step acc=acc.flatMap λa=>(W0 fs).map (a ++ ·)
 |[],acc=>by simp[W0]
 |f::fs,acc=>by
  rw[Pq,N8 fs,step,List.flatMap_assoc];congr 1
  funext a
  rw[W0,List.map_flatMap,List.flatMap_map];congr 1
  funext x
  rw[Xf];congr 1
  funext r
  simp
def j3g(fs:List zo):zr fs=W0 fs:=by rw[zr,N8];simp
noncomputable def vd:Nat->List zo
 |0=>[[]]
 |m+1=>(vd m).map (0 :: ·)++(vd m).map (1 :: ·)
theorem j06{b:Int}(hb:0<b)(n c:Int):∀{i m:Nat},i<=m->ju b i (n+b^m*c)=ju b i n
 |0,m,_=>rfl
 |i+1,m,h=>by
  rw[ju,ju,j06 hb n c (by omega)];congr 1;obtain⟨k,rfl⟩:∃k,m=i+(k+1):=⟨m-i-1,by omega⟩
  have hp:b^i≠0:=mG (jJ hb);rw[Int.pow_add,lU,jE _ _ hp,mF,mI (b^k) b,lU,Int.add_mul_emod_self_left]
theorem Ir:∀m:Nat,(aA (2^m)).map (λn=>ju 2 m ((n:Nat):Int))=vd m
 |0=>rfl
 |m+1=>by
  have e:2^(m+1)=2^m+2^m:=by rw[gK];omega
  rw[e,List.range_add,Xu,vd,<-Ir m,Xf,Xf,Xf];have pc:((2^m:Nat):Int)=(2:Int)^m:=by simp
  congr 1
  .apply Tt;intro n hn;have hn':n<2^m:=Xc.mp hn;show ju 2 (m+1) (n:Int)=0::ju 2 m (n:Int);rw[ju];congr 1;have h0:(n:Int)/2^m=0:=fh (by omega) (by rw[<-pc];omega);rw[h0];rfl
  .apply Tt;intro n hn;have hn':n<2^m:=Xc.mp hn;show ju 2 (m+1) ((2^m+n:Nat):Int)=1::ju 2 m (n:Int);have e1:((2^m+n:Nat):Int)=(n:Int)+2^m*1:=by rw[Int.natCast_add,pc,nK,Int.add_comm]
   rw[e1,ju,j06 (by decide) _ _ (xu m)];congr 1;have hp:(2:Int)^m≠0:=mG (jJ (by decide));have h0:(n:Int)/2^m=0:=fh (by omega) (by rw[<-pc];omega);rw[jE _ _ hp,h0];rfl
end L2
end
section
namespace L2
open PySem
inductive Sv where
 |un
 |val (d:D)
 |own (l:List D)
 |exc (x:ar)
noncomputable abbrev En:=List Sv
set_option genInjectivity true in
inductive Rk where
 |e (d:D)
 |o (l:List D)
 |w (l:List D)
 |t (d:D)
noncomputable def Rk.d:Rk->D
 |.e d=>d
 |.o l=>.lst l
 |.w l=>.lst l
 |.t d=>d
noncomputable def Rk.st:Rk->Option D
 |.e d=>a8 d
 |.o l=>a8 (.lst l)
 |.w l=>af
 |.t d=>if Zk d=ae then a8 d else af
noncomputable def Rk.sq:Rk->Option (Bool×List D)
 |.e (.lst l)=>a8 (ae,l)
 |.e (.tup l)=>a8 (aa,l)
 |.o l=>a8 (ae,l)
 |.w l=>a8 (ae,l)
 |_=>af
noncomputable def Rk.lw:Rk->Option (List D)
 |.o l=>a8 l
 |.w l=>a8 l
 |_=>af
inductive Rc where
 |val (d:D)
 |fresh (l:List D)
 |err (x:ar)
 |lval (d:D)
 |mval (d:D) (k:Nat)
 |merr (x:ar)
 |dval (d:D) (ks:List zo) (ns:zo)
 |hnd (sp:k8v->(ar->Option aj)->Sp)
 |no
noncomputable def Rc.rk:Rc->Option Rk
 |.val d=>a8 (.e d)
 |.fresh l=>a8 (.o l)
 |_=>af
inductive Bop where
 |add|sub|mul|fdiv|mod|pow|shl|shr|band|bxor
inductive Cop where
 |lt|le|gt|ge|eq|ne|isin|notin
inductive Bf where
 |len|min|max|all|tuple|list|sum|int|any|sorted
inductive Ex where
 |lit (d:D)
 |var (i:Nat)
 |glob (x:ar)
 |bin (op:Bop) (a b:Ex)
 |neg (a:Ex)
 |cmp (op:Cop) (a b:Ex)
 |isN (a:Ex)
 |and (a b:Ex)
 |or (a b:Ex)
 |not (a:Ex)
 |ite (c a b:Ex)
 |nil
 |cons (a b:Ex)
 |tup (es:Ex)
 |lst (es:Ex)
 |ix (a b:Ex)
 |sl (a lo hi:Ex)
 |call (f:ar) (es:Ex)
 |blt (f:Bf) (es:Ex)
 |isi (a:Ex) (ts:List String)
 |comp (is:List Nat) (elt it cond:Ex)
 |seq (a:Ex)
 |range (es:Ex)
 |zip (a b:Ex)
 |join (sep:ar) (a:Ex)
 |enum (a:Ex)
 |lset (a:Ex)
 |tix (a b:Ex)
 |minD (a:Ex)
 |rpr (a:Ex)
 |exc (a:Ex)
 |din (a b:Ex)
 |dget (a b:Ex)
set_option genInjectivity true in
inductive W where
 |v (r:Rk)
 |a (rs:List Rk)
 |i (ds:List D)
noncomputable def jm(n:Nat):Bool:=decide (n<=aw)
noncomputable def binI:Bop->Int->Int->Option Int
 |.add,i,j=>a8 (i+j)
 |.sub,i,j=>a8 (i-j)
 |.mul,i,j=>if (-(2^64)<i/\i<2^64)\/(-(2^64)<j/\j<2^64)then a8 (i*j)else af
 |.fdiv,i,j=>if 0<j/\j<18446744073709551616 then a8 (i/j)else af
 |.mod,i,j=>if 0<j then a8 (i%j)else af
 |.pow,i,j=>if 0<=j/\j<=1000000/\i.natAbs<2^64 then a8 (i^j.toNat)else af
 |.shl,i,j=>if 0<=j/\j<=1000000/\i.natAbs<2^64 then a8 (i*2^j.toNat)else af
 |.shr,i,j=>if 0<=j then a8 (i/2^j.toNat)else af
 |.band,i,j=>a8 (k6 i j)
 |.bxor,i,j=>a8 (bS i j)
noncomputable def Wl(op:Bop)(a b:Rk):Option Rk :=
 match a.d,b.d with
 |.int i,.int j=>(binI op i j).map λk=>.e (.int k)
 |.str y,.str z=>match op with
  |.add=>if jm (y.length+z.length)=ae then a8 (.e (.str (y++z)))else af
  |_=>af
 |.str y,.int k=>match op with
  |.mul=>if (1<=k/\k<=1000)/\y.length<=1000 then a8 (.e (.str (jY y k)))else af
  |_=>af
 |_,_=>match op,a.sq,b.sq,b.d with
  |.add,a8 (ae,l),a8 (ae,m),_=>if jm (l.length+m.length)=ae then a8 (.o (l++m))else af
  |.add,a8 (aa,l),a8 (aa,m),_=>if jm (l.length+m.length)=ae then a8 (.e (.tup (l++m)))else af
  |.mul,a8 (aa,l),_,.int k=>if 1<=k/\k<2^63/\l.isEmpty=aa/\jm (l.length*k.toNat)=ae then a8 (.e (.tup (ay k.toNat l).flatten))else af
  |.mul,_,_,.int k=>match a.lw with
   |some l=>if -(2^63)<=k/\k<2^63/\jm (l.length*k.toNat)=ae then a8 (.o (ay k.toNat l).flatten)else af
   |none=>af
  |_,_,_,_=>af
noncomputable def cmpI:Cop->Int->Int->Option Bool
 |.lt,i,j=>a8 (decide (i<j))
 |.le,i,j=>a8 (decide (i<=j))
 |.gt,i,j=>a8 (decide (j<i))
 |.ge,i,j=>a8 (decide (j<=i))
 |.eq,i,j=>a8 (decide (i=j))
 |.ne,i,j=>a8 (!decide (i=j))
 |_,_,_=>af
noncomputable def D.sqv:D->Option (Bool×List D)
 |.lst l=>a8 (ae,l)
 |.tup l=>a8 (aa,l)
 |_=>af
noncomputable def Qj(op:Cop)(a b:D):Option Bool :=
 match op,a,b with
 |op,.int i,.int j=>cmpI op i j
 |.eq,a,b=>if a.dep<=90/\b.dep<=90 then a8 (deq a b)else af
 |.ne,.bl a,.bl b=>a8 (a != b)
 |.ne,.str a,.str b=>a8 (!decide (a=b))
 |.ne,.non,.non=>a8 aa
 |.ne,.lst l,.lst m=>if D.depL l<=90/\D.depL m<=90 then a8 (!vm l m)else af
 |.ne,.tup l,.tup m=>if D.depL l<=90/\D.depL m<=90 then a8 (!vm l m)else af
 |.isin,.str a,.str b=>a8 (inS a b)
 |.lt,.str a,.str b=>a8 (decide (a.cps.toList<b.cps.toList))
 |.gt,.str a,.str b=>a8 (decide (b.cps.toList<a.cps.toList))
 |.isin,a,b=>match b.sqv with
  |some (_,l)=>if D.depL l<=90/\a.dep<=90 then a8 (l.any λe=>deq e a)else af
  |none=>af
 |.notin,a,b=>match b.sqv with
  |some (_,l)=>if D.depL l<=90/\a.dep<=90 then a8 (!l.any λe=>deq e a)else af
  |none=>af
 |_,_,_=>af
noncomputable def boolsOf:List D->Option (List Bool)
 |[]=>a8 []
 |.bl b::r=>(boolsOf r).map (b :: ·)
 |_::_=>af
noncomputable def intsOf:List D->Option zo
 |[]=>a8 []
 |.int b::r=>(intsOf r).map (b :: ·)
 |_::_=>af
noncomputable def strsOf:List D->Option (List ar)
 |[]=>a8 []
 |.str b::r=>(strsOf r).map (b :: ·)
 |_::_=>af
noncomputable def Zu:Bf->List Rk->Option Rk
 |.len,[a]=>match a.d with
  |.lst l=>a8 (.e (.int l.length))
  |.tup l=>a8 (.e (.int l.length))
  |.dct ks _=>a8 (.e (.int ks.length))
  |.str y=>if jm y.length=ae then a8 (.e (.int y.length))else af
  |_=>af
 |.min,[a,b]=>match a.d,b.d with
  |.int i,.int j=>a8 (.e (.int (if j<i then j else i)))
  |_,_=>af
 |.max,[a,b]=>match a.d,b.d with
  |.int i,.int j=>a8 (.e (.int (if j>i then j else i)))
  |_,_=>af
 |.max,[a]=>match a.d with
  |.lst l=>match intsOf l with
   |some ns=>if ns.isEmpty=aa then a8 (.e (.int (Zm ns)))else af
   |none=>af
  |_=>af
 |.min,[a]=>match a.d with
  |.lst l=>match intsOf l with
   |some ns=>if ns.isEmpty=aa then a8 (.e (.int (J0 ns)))else af
   |none=>af
  |_=>af
 |.all,[a]=>match a.d with
  |.lst l=>(boolsOf l).map λbs=>.e (.bl (bs.all id))
  |_=>af
 |.any,[a]=>match a.d with
  |.lst l=>(boolsOf l).map λbs=>.e (.bl (bs.any id))
  |_=>af
 |.tuple,[a]=>match a.sq with
  |some (_,l)=>a8 (.e (.tup l))
  |none=>af
 |.list,[a]=>match a.sq with
  |some (_,l)=>a8 (.o l)
  |none=>af
 |.sum,[a]=>match a.d with
  |.lst l=>(intsOf l).map λns=>.e (.int ns.sum)
  |.tup l=>(intsOf l).map λns=>.e (.int ns.sum)
  |_=>af
 |.int,[a]=>match a.d with
  |.bl k=>a8 (.e (.int (if k then 1 else 0)))
  |.str y=>if y.length<=640 then(ie y).map λn=>.e (.int n)else af
  |_=>af
 |_,_=>af
noncomputable def qx(t c:String):Option Bool :=
 if t = "function" then af else
 if c = "int" then a8 (t == "int" || t == "bool") else
 if c = "bool" then a8 (t == "bool") else
 if c = "str" then a8 (t == "str") else
 if c = "list" then a8 (t == "list") else
 if c = "tuple" then a8 (t == "tuple") else
 if c = "dict" then a8 (t == "dict")else af
noncomputable def jy(d:D):List String->Option Bool
 |[]=>a8 aa
 |c::cs=>match qx d.ty c,jy d cs with
  |some a,a8 b=>a8 (a || b)
  |_,_=>af
noncomputable def qz:List Nat->D->En->Option En
 |[i],d,ρ=>a8 (ρ.set i (.val d))
 |[i,j],d,ρ=>match d with
  |.tup [a,b]=>a8 ((ρ.set i (.val a)).set j (.val b))
  |_=>af
 |[i,j,k],d,ρ=>match d with
  |.tup [a,.tup [b,c]]=>a8 (((ρ.set i (.val a)).set j (.val b)).set k (.val c))
  |_=>af
 |[i,j,k,_],d,ρ=>match d with
  |.tup [a,b,c]=>a8 (((ρ.set i (.val a)).set j (.val b)).set k (.val c))
  |_=>af
 |_,_,_=>af
noncomputable def N7(is:List Nat)(ρ:En):Bool:=is.all λi=>match ρ[i]? with
 |some .un=>ae
 |_=>aa
noncomputable def Qc(f:D->Option (Option D)):List D->Option (List D)
 |[]=>a8 []
 |d::ds=>match f d,Qc f ds with
  |some (a8 x),a8 xs=>a8 (x::xs)
  |some af,a8 xs=>a8 xs
  |_,_=>af
noncomputable def zu:List Rk->Option (List D)
 |[]=>a8 []
 |r::rs=>match r.st,zu rs with
  |some d,a8 ds=>a8 (d::ds)
  |_,_=>af
noncomputable def W.one:W->Option Rk
 |.v r=>a8 r
 |_=>af
noncomputable def W.args:W->Option (List Rk)
 |.a rs=>a8 rs
 |_=>af
noncomputable def W.it:W->Option (List D)
 |.i ds=>a8 ds
 |_=>af
noncomputable def Qt:Option W->Option (Option Int)
 |some (.a [])=>a8 af
 |some (.a [r])=>match r.d with
  |.int i=>a8 (a8 i)
  |_=>af
 |_=>af
noncomputable def truth:Option W->Option Bool
 |some (.v r)=>match r.d with
  |.bl k=>a8 k
  |_=>af
 |_=>af
noncomputable def j86:Ex->Option Nat
 |.seq (.var i)=>a8 i
 |.enum (.var i)=>a8 i
 |_=>af
noncomputable def frz(t:Ex)(ρ:En):En:=match j86 t with
 |some i=>match ρ[i]? with
  |some (.own l)=>ρ.set i (.val (.lst l))
  |_=>ρ
 |none=>ρ
noncomputable def Jm(t:Ex)(ρ:En):Bool:=match j86 t with
 |some i=>match ρ[i]? with
  |some (.own _)=>ae
  |_=>aa
 |none=>aa
noncomputable def j9a:D->Option ar
 |.int i=>if -18446744073709551616<i/\i<18446744073709551616 then a8 (aQ (toString i))else af
 |.str y=>if y.length<=10000 then a8 y else af
 |.tup l=>match intsOf l with
  |some is=>if (∀i∈is,-18446744073709551616<i/\i<18446744073709551616)/\(tupS is).length<=10000 then a8 (tupS is)else af
  |none=>af
 |_=>af
noncomputable def bang(x:ar):ar:=("!":ar)++x
noncomputable def qm(f:ar):ar:=("??":ar)++f
noncomputable def dq(f:ar):ar:=("#":ar)++f
noncomputable def tupI:D->Option zo
 |.tup l=>intsOf l
 |_=>af
noncomputable def Rc.lv:Rc->Option W
 |.lval d=>a8 (.v (.e d))
 |_=>af
noncomputable def Nr(s:Option Sv):Option W:=match s with
 |some (.val d)=>a8 (.v (.e d))
 |some (.own l)=>a8 (.v (.w l))
 |_=>af
noncomputable def blW(i:Option Bool):Option W:=i.map λk=>.v (.e (.bl k))
noncomputable def rkW(r:Option Rk):Option W:=r.map .v
noncomputable def Zv(op:Bop)(a b:Option W):Option W:=match a,b with
 |some (.v x),a8 (.v y)=>rkW (Wl op x y)
 |_,_=>af
noncomputable def El(a:Option W):Option W:=match a with
 |some (.v x)=>match x.d with
  |.int i=>a8 (.v (.e (.int (-i))))
  |_=>af
 |_=>af
noncomputable def Do(op:Cop)(a b:Option W):Option W:=match a,b with
 |some (.v x),a8 (.v y)=>blW (Qj op x.d y.d)
 |_,_=>af
noncomputable def consW(a b:Option W):Option W:=match a,b with
 |some (.v x),a8 (.a xs)=>a8 (.a (x::xs))
 |_,_=>af
noncomputable def U9(a:Option W):Option W:=match a with
 |some (.a rs)=>match zu rs with
  |some ds=>if jm ds.length=ae then a8 (.v (.e (.tup ds)))else af
  |none=>af
 |_=>af
noncomputable def Zn(a:Option W):Option W:=match a with
 |some (.a rs)=>match zu rs with
  |some ds=>if jm ds.length=ae then a8 (.v (.o ds))else af
  |none=>af
 |_=>af
noncomputable def ixW(a b:Option W):Option W:=match a,b with
 |some (.v x),a8 (.v y)=>match x.sq,y.d with
  |some (_,l),.int i=>(atI l i).map λd=>.v (.e d)
  |none,.int i=>match x.d with
   |.str z=>if jm z.length=ae then(atI z.cps.toList i).map λc=>.v (.e (.str ⟨#[c]⟩))else af
   |_=>af
  |_,_=>af
 |_,_=>af
noncomputable def Mi(sep:ar)(a:Option W):Option W:=match a with
 |some (.v x)=>match x.d with
  |.lst l=>match strsOf l with
   |some ts=>if gq sep ts=ae then a8 (.v (.e (.str (fG sep ts))))else af
   |none=>af
  |_=>af
 |_=>af
noncomputable def j6j(a b:Option W):Option W:=match a,b with
 |some (.v x),a8 (.v y)=>match x.d with
  |.tup l=>if D.depL l<=90/\y.d.dep<=90 then(ixD y.d l).map λk=>.v (.e (.int (k:Nat)))else af
  |.lst l=>if D.depL l<=90/\y.d.dep<=90 then(ixD y.d l).map λk=>.v (.e (.int (k:Nat)))else af
  |_=>af
 |_,_=>af
noncomputable def W4(a:Option W):Option W:=match a with
 |some (.v x)=>match x.d with
  |.lst l=>match strsOf l with
   |some ts=>if ts.length<4000 then a8 (.v (.e (.int (dd ts).length)))else af
   |none=>match intsOf l with
    |some ns=>if ns.length<4000 then a8 (.v (.e (.int (ddI ns).length)))else af
    |none=>af
  |_=>af
 |_=>af
noncomputable def Mj(a:Option W):Option W:=match a with
 |some (.v x)=>match x.st with
  |some (.lst l)=>a8 (.i (Qa l))
  |some (.tup l)=>a8 (.i (Qa l))
  |_=>af
 |_=>af
noncomputable def Qd(Γ:ar->List D->Rc)(f:ar)(a:Option W):Option W:=match a with
 |some (.a rs)=>match zu rs with
  |some ds=>rkW (Γ f ds).rk
  |none=>match Γ f (rs.map Rk.d) with
   |.val d=>a8 (.v (.t d))
   |.fresh l=>if za l=ae then a8 (.v (.o l))else af
   |_=>af
 |_=>af
noncomputable def vo(f:Bf)(a:Option W):Option W:=match a with
 |some (.a rs)=>rkW (Zu f rs)
 |_=>af
noncomputable def Df(a:Option W)(ts:List String):Option W:=match a with
 |some (.v x)=>blW (jy x.d ts)
 |_=>af
noncomputable def Wv(a:Option W):Option W:=match a with
 |some (.v (.e (.lst l)))=>a8 (.i l)
 |some (.v (.e (.tup l)))=>a8 (.i l)
 |some (.v (.o l))=>a8 (.i l)
 |some (.v (.e (.dct ks _)))=>a8 (.i (Mh ks))
 |some (.v (.e (.str y)))=>if ascii y=ae then a8 (.i (chs y))else af
 |_=>af
noncomputable def Wz(a:Option W):Option W:=match a with
 |some (.a [x])=>match x.d with
  |.int n=>if -(2^62)<=n/\n<2^62 then a8 (.i (upto 0 n.toNat))else af
  |_=>af
 |some (.a [x,y])=>match x.d,y.d with
  |.int m,.int n=>if -(2^62)<=m/\m<2^62/\-(2^62)<=n/\n<2^62 then a8 (.i (upto m (n-m).toNat))else af
  |_,_=>af
 |_=>af
noncomputable def Np(a b:Option W):Option W:=match a,b with
 |some (.v x),a8 (.v y)=>match x.st,y.st with
  |some (.lst l),a8 (.lst m)=>a8 (.i (V3 l m))
  |some (.lst l),a8 (.tup m)=>a8 (.i (V3 l m))
  |some (.tup l),a8 (.lst m)=>a8 (.i (V3 l m))
  |some (.tup l),a8 (.tup m)=>a8 (.i (V3 l m))
  |_,_=>af
 |_,_=>af
noncomputable def Ou(a b:Option W):Option W:=match a,b with
 |some (.v x),a8 (.v y)=>match x.d,y.d with
  |.tup l,.dct ks _=>(intsOf l).map λk=>.v (.e (.bl (ks.contains k)))
  |_,_=>af
 |_,_=>af
noncomputable def M9(a:Option W):Option W:=match a with
 |some (.v x)=>match x.d with
  |.lst l=>match intsOf l with
   |some ns=>a8 (.v (.e (.int (J0 ns))))
   |none=>af
  |_=>af
 |_=>af
noncomputable def noOwn(ρ:En):Bool:=ρ.all λs=>match s with
 |.own _=>aa
 |_=>ae
noncomputable def Ml(a b:Option W):Option W:=match a,b with
 |some (.v (.e (.dct ks ds))),a8 (.v y)=>match tupI y.d with
  |some k=>(Ql ks ds k).map λd=>.v (.e d)
  |none=>af
 |_,_=>af
noncomputable def ev(Γ:ar->List D->Rc)(G:ar->Option D):Ex->En->Option W
 |.lit d,_=>a8 (.v (.e d))
 |.var i,ρ=>Nr ρ[i]?
 |.glob x,_=>(G x).map λd=>.v (.e d)
 |.bin op a b,ρ=>Zv op (ev Γ G a ρ) (ev Γ G b ρ)
 |.neg a,ρ=>El (ev Γ G a ρ)
 |.cmp op a b,ρ=>Do op (ev Γ G a ρ) (ev Γ G b ρ)
 |.isN a,ρ=>match ev Γ G a ρ with
  |some (.v x)=>a8 (.v (.e (.bl x.d.isNon)))
  |_=>af
 |.and a b,ρ=>match truth (ev Γ G a ρ) with
  |some aa=>a8 (.v (.e (.bl aa)))
  |some ae=>(truth (ev Γ G b ρ)).map λk=>.v (.e (.bl k))
  |none=>af
 |.or a b,ρ=>match truth (ev Γ G a ρ) with
  |some ae=>a8 (.v (.e (.bl ae)))
  |some aa=>(truth (ev Γ G b ρ)).map λk=>.v (.e (.bl k))
  |none=>af
 |.not a,ρ=>(truth (ev Γ G a ρ)).map λk=>.v (.e (.bl (!k)))
 |.ite c a b,ρ=>match truth (ev Γ G c ρ) with
  |some ae=>match ev Γ G a ρ with
   |some (.v x)=>x.st.map λd=>.v (.e d)
   |_=>af
  |some aa=>match ev Γ G b ρ with
   |some (.v x)=>x.st.map λd=>.v (.e d)
   |_=>af
  |none=>af
 |.nil,_=>a8 (.a [])
 |.cons a b,ρ=>consW (ev Γ G a ρ) (ev Γ G b ρ)
 |.tup es,ρ=>U9 (ev Γ G es ρ)
 |.lst es,ρ=>Zn (ev Γ G es ρ)
 |.ix a b,ρ=>ixW (ev Γ G a ρ) (ev Γ G b ρ)
 |.sl a lo hi,ρ=>match ev Γ G a ρ,Qt (ev Γ G lo ρ),Qt (ev Γ G hi ρ) with
  |some (.v x),a8 l,a8 h=>match x.sq with
   |some (ae,ds)=>a8 (.v (.o (cutD ds l h)))
   |some (aa,ds)=>if HT.sIx ds.length 0 l=0/\HT.sIx ds.length ds.length h=ds.length then af else a8 (.v (.e (.tup (cutD ds l h))))
   |none=>match x.d with
    |.str z=>if jm z.length=ae then a8 (.v (.e (.str (cq z l h))))else af
    |_=>af
  |_,_,_=>af
 |.call f es,ρ=>Qd Γ f (ev Γ G es ρ)
 |.blt f es,ρ=>vo f (ev Γ G es ρ)
 |.isi a ts,ρ=>Df (ev Γ G a ρ) ts
 |.comp is elt it cond,ρ=>match ev Γ G it (frz it ρ) with
  |some (.i ds)=>if N7 is (frz it ρ)=ae/\jm ds.length=ae then
    (Qc (λd=>match qz is d (frz it ρ) with
     |none=>af
     |some ρ2=>match ev Γ G cond ρ2 with
      |some (.a [])=>match ev Γ G elt ρ2 with
       |some (.v x)=>x.st.map a8
       |_=>af
      |some (.a [y])=>match y.d with
       |.bl ae=>match ev Γ G elt ρ2 with
        |some (.v x)=>x.st.map a8
        |_=>af
       |.bl aa=>a8 af
       |_=>af
      |_=>af) ds).bind λl=>if (Jm it ρ && !za l)=ae then af else a8 (.v (.o l))
   else af
  |_=>af
 |.seq a,ρ=>Wv (ev Γ G a ρ)
 |.minD a,ρ=>M9 (ev Γ G a ρ)
 |.range es,ρ=>Wz (ev Γ G es ρ)
 |.zip a b,ρ=>Np (ev Γ G a ρ) (ev Γ G b ρ)
 |.join sep a,ρ=>Mi sep (ev Γ G a ρ)
 |.enum a,ρ=>Mj (ev Γ G a ρ)
 |.tix a b,ρ=>j6j (ev Γ G a ρ) (ev Γ G b ρ)
 |.rpr a,ρ=>match ev Γ G a ρ with
  |some (.v x)=>match x.d with
   |.str y=>if (reprText y).length<=2000 then a8 (.v (.e (.str (reprText y))))else af
   |_=>af
  |_=>af
 |.exc a,ρ=>ev Γ G a ρ
 |.lset a,ρ=>W4 (ev Γ G a ρ)
 |.din a b,ρ=>Ou (ev Γ G a ρ) (ev Γ G b ρ)
 |.dget a b,ρ=>Ml (ev Γ G a ρ) (ev Γ G b ρ)
section
variable{Γ:ar->List D->Rc}{G:ar->Option D}{ρ:En}
def j3m{d}:ev Γ G (.lit d) ρ=(a8 (.v (.e d))):=(rfl)
def jji{i}:ev Γ G (.var i) ρ=(Nr ρ[i]?):=(rfl)
def jh8{x}:ev Γ G (.glob x) ρ=((G x).map λd=>.v (.e d)):=(rfl)
def jjq{op a b}:ev Γ G (.bin op a b) ρ=(Zv op (ev Γ G a ρ) (ev Γ G b ρ)):=(rfl)
def jjm{a}:ev Γ G (.neg a) ρ=(El (ev Γ G a ρ)):=(rfl)
def ja2{op a b}:ev Γ G (.cmp op a b) ρ=(Do op (ev Γ G a ρ) (ev Γ G b ρ)):=(rfl)
def ja1{a}:ev Γ G (.isN a) ρ=(match ev Γ G a ρ with
  |some (.v x)=>a8 (.v (.e (.bl x.d.isNon)))
  |_=>af):=(rfl)
def ja3{a b}:ev Γ G (.and a b) ρ=(match truth (ev Γ G a ρ) with
  |some aa=>a8 (.v (.e (.bl aa)))
  |some ae=>(truth (ev Γ G b ρ)).map λk=>.v (.e (.bl k))
  |none=>af):=(rfl)
def jh4{a b}:ev Γ G (.or a b) ρ=(match truth (ev Γ G a ρ) with
  |some ae=>a8 (.v (.e (.bl ae)))
  |some aa=>(truth (ev Γ G b ρ)).map λk=>.v (.e (.bl k))
  |none=>af):=(rfl)
def j9z{a}:ev Γ G (.not a) ρ=((truth (ev Γ G a ρ)).map λk=>.v (.e (.bl (!k)))):=(rfl)
def jjo{c a b}:ev Γ G (.ite c a b) ρ=(match truth (ev Γ G c ρ) with
  |some ae=>match ev Γ G a ρ with
   |some (.v x)=>x.st.map λd=>.v (.e d)
   |_=>af
  |some aa=>match ev Γ G b ρ with
   |some (.v x)=>x.st.map λd=>.v (.e d)
   |_=>af
  |none=>af):=(rfl)
def Mu:ev Γ G (.nil) ρ=(a8 (.a [])):=(rfl)
def Nm{a b}:ev Γ G (.cons a b) ρ=(consW (ev Γ G a ρ) (ev Γ G b ρ)):=(rfl)
def jjj{es}:ev Γ G (.tup es) ρ=(U9 (ev Γ G es ρ)):=(rfl)
def jjn{es}:ev Γ G (.lst es) ρ=(Zn (ev Γ G es ρ)):=(rfl)
def jla{a b}:ev Γ G (.ix a b) ρ=(ixW (ev Γ G a ρ) (ev Γ G b ρ)):=(rfl)
def jl9{a lo hi}:ev Γ G (.sl a lo hi) ρ=(match ev Γ G a ρ,Qt (ev Γ G lo ρ),Qt (ev Γ G hi ρ) with
  |some (.v x),a8 l,a8 h=>match x.sq with
   |some (ae,ds)=>a8 (.v (.o (cutD ds l h)))
   |some (aa,ds)=>if HT.sIx ds.length 0 l=0/\HT.sIx ds.length ds.length h=ds.length then af else a8 (.v (.e (.tup (cutD ds l h))))
   |none=>match x.d with
    |.str z=>if jm z.length=ae then a8 (.v (.e (.str (cq z l h))))else af
    |_=>af
  |_,_,_=>af):=(rfl)
def jhc{f es}:ev Γ G (.call f es) ρ=(Qd Γ f (ev Γ G es ρ)):=(rfl)
def U8{f es}:ev Γ G (.blt f es) ρ=(vo f (ev Γ G es ρ)):=(rfl)
def ja0{a ts}:ev Γ G (.isi a ts) ρ=(Df (ev Γ G a ρ) ts):=(rfl)
def jhb{is elt it cond}:ev Γ G (.comp is elt it cond) ρ=(match ev Γ G it (frz it ρ) with
  |some (.i ds)=>if N7 is (frz it ρ)=ae/\jm ds.length=ae then
    (Qc (λd=>match qz is d (frz it ρ) with
     |none=>af
     |some ρ2=>match ev Γ G cond ρ2 with
      |some (.a [])=>match ev Γ G elt ρ2 with
       |some (.v x)=>x.st.map a8
       |_=>af
      |some (.a [y])=>match y.d with
       |.bl ae=>match ev Γ G elt ρ2 with
        |some (.v x)=>x.st.map a8
        |_=>af
       |.bl aa=>a8 af
       |_=>af
      |_=>af) ds).bind λl=>if (Jm it ρ && !za l)=ae then af else a8 (.v (.o l))
   else af
  |_=>af):=(rfl)
def jjl{a}:ev Γ G (.seq a) ρ=(Wv (ev Γ G a ρ)):=(rfl)
def jh5{a}:ev Γ G (.minD a) ρ=(M9 (ev Γ G a ρ)):=(rfl)
def jd9{es}:ev Γ G (.range es) ρ=(Wz (ev Γ G es ρ)):=(rfl)
def jjh{a b}:ev Γ G (.zip a b) ρ=(Np (ev Γ G a ρ) (ev Γ G b ρ)):=(rfl)
def jh7{sep a}:ev Γ G (.join sep a) ρ=(Mi sep (ev Γ G a ρ)):=(rfl)
def jh9{a}:ev Γ G (.enum a) ρ=(Mj (ev Γ G a ρ)):=(rfl)
def jjk{a b}:ev Γ G (.tix a b) ρ=(j6j (ev Γ G a ρ) (ev Γ G b ρ)):=(rfl)
def jh6{a}:ev Γ G (.lset a) ρ=(W4 (ev Γ G a ρ)):=(rfl)
def jjp{a b}:ev Γ G (.din a b) ρ=(Ou (ev Γ G a ρ) (ev Γ G b ρ)):=(rfl)
def jha{a b}:ev Γ G (.dget a b) ρ=(Ml (ev Γ G a ρ) (ev Γ G b ρ)):=(rfl)
end
noncomputable def er(Γ:ar->List D->Rc)(G:ar->Option D):Ex->En->Option ar
 |.call f es,ρ=>match er Γ G es ρ with
  |some x=>if (G (qm f)).isSome=ae then a8 x else af
  |none=>match ev Γ G es ρ with
   |some (.a rs)=>match Γ f (rs.map Rk.d) with
    |.err x=>if (G (bang x)).isSome=ae then a8 x else af
    |_=>af
   |_=>af
 |.cons a b,ρ=>match er Γ G a ρ with
  |some x=>a8 x
  |none=>match ev Γ G a ρ with
   |some (.v _)=>er Γ G b ρ
   |_=>af
 |.ix a _,ρ=>er Γ G a ρ
 |.dget a b,ρ=>match er Γ G a ρ with
  |some x=>a8 x
  |none=>match ev Γ G a ρ with
   |some (.v _)=>er Γ G b ρ
   |_=>af
 |.exc (.comp [i] elt it .nil),ρ=>match ev Γ G it ρ with
  |some (.i (d::_))=>if N7 [i] ρ=ae then er Γ G elt (ρ.set i (.val d))else af
  |_=>af
 |_,_=>af
end L2
end
section
namespace L2
open PySem PySem.Spec PyProof.Rows
def DM(X:Cx)(ρ:Rho)(e:au)(s:Bool)(ds:List D):Prop:=∀σ H Q,Rep X.K ρ σ H->(∀a xs H',j0 H H'->SqB X.K s H' a xs->j4 X.K (del H' (owns ρ)) ds xs->Q (.ref a) H')->Jo X e σ H Q
section
variable{X:Cx}{ρ:Rho}{e a b c:au}{es:List au}{d:D}{ds ds':List D}{i j:Int}{pos p p2:aO}{k:Nat}{x:ar}{s:Bool}
def ji1{K:k8v}{H:Hp}{a:ai}{xs:List V}(h:SqL K H a xs):SqB K ae H a xs:=by unfold SqB;rw[if_pos rfl];exact h
def Um{K:k8v}{H:Hp}{a:ai}{xs:List V}(h:SqB K ae H a xs):SqL K H a xs:=by unfold SqB at h;rw[if_pos rfl]at h;exact h
def Qp{K:k8v}{H:Hp}{a:ai}{xs:List V}(h:SqB K aa H a xs):SqT K H a xs:=by unfold SqB at h;rw[if_neg xj]at h;exact h
def DE.toM(h:DE X ρ e (D.seq s ds)):DM X ρ e s ds:=λσ H Q R q=>h σ H Q R λv H1 g1 e1=>by obtain⟨t,xs,ev,sq,en⟩:=Qv e1;subst ev;exact q t xs H1 g1 (je.seqB sq) en
def DL.toM(h:DL X ρ e ds):DM X ρ e ae ds:=λσ H Q R q=>h σ H Q R λt xs H1 g1 m en=>q t xs H1 g1 (ji1 (.inl (.inl m))) en
theorem DO.toM(h:DO X ρ e ds):DM X ρ e ae ds:=h.toL.toM
def Has(X:Cx)(ρ:Rho)(e:au):Rk->Prop
 |.e d=>DE X ρ e d
 |.o l=>DO X ρ e l
 |.w l=>DL X ρ e l
 |.t d=>DT X ρ e d
theorem Has.toT:∀{r:Rk},Has X ρ e r->DT X ρ e r.d
 |.e _,h=>DE.toT h
 |.o _,h=>DL.toT (DO.toL h)
 |.w _,h=>DL.toT h
 |.t _,h=>h
theorem Has.toE:∀{r:Rk}{d:D},Has X ρ e r->r.st=a8 d->DE X ρ e d
 |.e _,_,h,q=>by cases q;exact h
 |.o _,_,h,q=>by cases q;exact DO.toE h
 |.w _,_,h,q=>by cases q
 |.t d',d,h,q=>by
  have q:(if Zk d'=ae then a8 d' else af)=a8 d:=q;by_cases z:Zk d'=ae
  .rw[if_pos z]at q;cases q;exact DT.toE h z
  .rw[if_neg z]at q;cases q
theorem Has.toM:∀{r:Rk}{s:Bool}{l:List D},Has X ρ e r->r.sq=a8 (s,l)->DM X ρ e s l
 |.e (.lst l),_,_,h,q=>by cases q;exact DE.toM (s:=ae) h
 |.e (.tup l),_,_,h,q=>by cases q;exact DE.toM (s:=aa) h
 |.e .non,_,_,_,q=>by cases q
 |.e (.bl _),_,_,_,q=>by cases q
 |.e (.int _),_,_,_,q=>by cases q
 |.e (.str _),_,_,_,q=>by cases q
 |.o l,_,_,h,q=>by cases q;exact DO.toM h
 |.w l,_,_,h,q=>by cases q;exact DL.toM h
 |.t _,_,_,_,q=>by cases q
def jbf:OpR X (bB .Add) (λx y H Q=>∃l b xs zs,x=.ref l/\y=.ref b/\SqL X.K H l xs/\SqL X.K H b zs/\xs.length+zs.length<=aw/\∀p,H p=af->Q (.ref p) (upd H p (.lst (xs++zs)))):=by
 intro pins s σ H x y v u Q I rx ry h;obtain⟨l,b,xs,zs,e1,e2,hH,hB,hz,q⟩:=h;subst e1 e2;cases rx;cases ry;obtain⟨us,ru,⟨⟨c1,d1,f1,g1⟩,n1,h1,k1,w1,m1⟩,_⟩:=I.list hH;obtain⟨vs,rv,⟨⟨c2,d2,f2,g2⟩,n2,h2,k2,w2,m2⟩,_⟩:=I.list hB;have k1:c1=.type "list":=k1;have m1:f1=.seq us.toArray n1:=m1;have k2:c2=.type "list":=k2;have m2:f2=.seq vs.toArray n2:=m2;subst k1 m1 k2 m2;have l1:=ru.length;have l2:=rv.length;have ea:us.toArray++vs.toArray=(us++vs).toArray:=by simp
 refine ij ⟨_,h1,rfl⟩ ⟨_,h2,rfl⟩ noFill_list_add seq_list_add PySem.F.slot_list_add PySem.F.entry_list_add (PySem.F.args_list_add_2 _ _)
  (list_addW l b us.toArray vs.toArray n1 n2 d1 d2 g1 g2 (by rw[X5,X5,<-l1,<-l2];exact hz)) ⟨h1,h2,?_⟩
 rw[ea];exact⟨.ref _,_,I.lnew (t':=s.toks) (ru.append rv) (by rw[Xh];exact hz),rfl,q _ I.fresh⟩
def DO.catM(ha:DM X ρ a ae ds)(hb:DM X ρ b ae ds')(hl:ds.length+ds'.length<=aw):DO X ρ (.BinOp a .Add b pos) (ds++ds'):=λσ H Q R q =>
 (Yx jbf peS peS).to (ha σ H _ R λl xs H1 g1 s1 e1=>hb σ H1 _ (R.grow g1) λl' ys H2 g2 s2 e2 =>
  ⟨l,l',xs,ys,rfl,rfl,g2.seq (Um s1),Um s2,by rw[e1.length,e2.length];exact hl,λp hp=>q p _ _ ((g1.trans g2).trans (j6 hp)) ((g1.trans g2).free hp) jb (We hp ((e1.mono (jf g2)).append e2))⟩)
def DE.catTM(ha:DM X ρ a aa ds)(hb:DM X ρ b aa ds')(hl:ds.length+ds'.length<=aw):DE X ρ (.BinOp a .Add b pos) (.tup (ds++ds')):=λσ H Q R q =>
 (Yx j76 peS peS).to (ha σ H _ R λt xs H1 g1 sq l=>hb σ H1 _ (R.grow g1) λt' ys H2 g2 sq' l'=>by
  have l2:=l.mono (jf g2)
  have enT:∀{t:ai}{xs:List V}{ds:List D},SqT X.K H2 t xs->j4 X.K (del H2 (owns ρ)) ds xs->Enc X.K (del H2 (owns ρ)) (.tup ds) (.ref t):=λ{t xs ds} sq l=>by
   refine⟨t,xs,rfl,?_,l⟩
   have ow:=(R.grow (g1.trans g2)).owned
   have out:∀{o:HO},H2 t=a8 o->(∀zs,o≠.lst zs)->del H2 (owns ρ) t=a8 o:=λ{o} h z=>by
    rw[j7];exact h
    intro y;obtain⟨zs,e'⟩:=ow t y;rw[h]at e';cases e';exact z zs rfl
   rcases sq with (h|⟨o,h⟩)|h
   .exact .inl (.inl (out h λ_ z=>by cases z))
   .exact .inl (.inr ⟨o,out h λ_ z=>by cases z⟩)
   .exact .inr h
  refine⟨t,t',xs,ys,rfl,rfl,g2.seqT (Qp sq),Qp sq',by rw[l.length,l'.length];exact hl,λh=>?_,λh h'=>?_,λh h' p hp=>?_⟩
  .subst h
   cases ds with
   |nil=>exact q _ H2 (g1.trans g2) (enT (Qp sq') l')
   |cons _ _=>have:=l.length;cases this
  .subst h'
   cases ds' with
   |nil=>exact q _ H2 (g1.trans g2) (by rw[Xy];exact enT (g2.seqT (Qp sq)) l2)
   |cons _ _=>have:=l'.length;cases this
  .have np:p∉owns ρ:=(R.grow (g1.trans g2)).fresh hp
   exact q _ _ ((g1.trans g2).trans (j6 hp)) ⟨p,xs++ys,rfl,.inl (.inl (by rw[j7 np];exact jb)),(l2.append l').mono (jf (j6 hp))⟩)
def DE.ixM(ha:DM X ρ a s ds)(hb:DT X ρ b (.int i))(h:L2.atI ds i=a8 d)(hs:Jz b):DE X ρ (.Subscript a b pos) d:=by
 cases s with
 |true=>exact λσ H Q R q=>(Yy jbs peS peS hs).to (ha σ H _ R λl xs H1 g1 sq en=>hb σ H1 _ (R.grow g1) λu H2 g2 e2=>by
   obtain⟨y,hy,ey⟩:=en.atI h
   exact⟨l,xs,i,y,rfl,e2,g2.seq (Um sq),hy,q y H2 (g1.trans g2) (ey.mono (jf g2))⟩)
 |false=>exact λσ H Q R q=>(Yy Rj peS peS hs).to (ha σ H _ R λl xs H1 g1 sq en=>hb σ H1 _ (R.grow g1) λu H2 g2 e2=>by
   obtain⟨y,hy,ey⟩:=en.atI h
   exact⟨l,xs,i,y,rfl,e2,g2.seqT (Qp sq),hy,q y H2 (g1.trans g2) (ey.mono (jf g2))⟩)
variable{lo hi:Option au}{l u:Option Int}
def DO.sliceM(ha:DM X ρ a ae ds)(hl:DP X ρ lo l)(hu:DP X ρ hi u):DO X ρ (.Subscript a (.Slice lo hi af p2) pos) (cutD ds l u):=λσ H Q R q =>
 (Og jam peS poS poS).to (ha σ H _ R λt xs H1 g1 sq en=>hl σ H1 _ (R.grow g1) λH2 g2=>hu σ H2 _ (R.grow (g1.trans g2)) λH3 g3=>⟨t,xs,rfl,(g2.trans g3).seq (Um sq),λp hp =>
  q p _ _ ((g1.trans (g2.trans g3)).trans (j6 hp)) ((g1.trans (g2.trans g3)).free hp) jb (We hp ((en.mono (jf (g2.trans g3))).cut l u))⟩)
def DE.sliceM(ha:DM X ρ a aa ds)(hl:DP X ρ lo l)(hu:DP X ρ hi u)(hw:¬(HT.sIx ds.length 0 l=0/\HT.sIx ds.length ds.length u=ds.length)):DE X ρ (.Subscript a (.Slice lo hi af p2) pos) (.tup (cutD ds l u)):=λσ H Q R q =>
 (Og jdp peS poS poS).to (ha σ H _ R λt xs H1 g1 sq en=>hl σ H1 _ (R.grow g1) λH2 g2=>hu σ H2 _ (R.grow (g1.trans g2)) λH3 g3=>⟨t,xs,rfl,(g2.trans g3).seqT (Qp sq),by rw[en.length];exact hw,λp hp =>
  q _ _ ((g1.trans (g2.trans g3)).trans (j6 hp)) ⟨p,_,rfl,.inl (.inl (by rw[j7 ((R.grow (g1.trans (g2.trans g3))).fresh hp)];exact jb)),((en.mono (jf (g2.trans g3))).cut l u).mono (jf (j6 hp))⟩⟩)
def DE.tupM (ha:DM X ρ a s ds) (hm:X.mg "tuple" = af) (hg:Gl X "tuple") (hs:ah [a] X.env=[(aa,aD a X.env)]):DE X ρ (.Call (.Name "tuple" p) [a] [] pos) (.tup ds):=λσ H Q R q =>
 (Vf K8 hg hm boot_tuple (jc peS jn hs) (by decide) (by decide) hs).to (ha σ H _ R λl xs H1 g1 sq en=>by
  cases s with
  |true =>
   refine⟨l,xs,rfl,.inl ⟨Um sq,λt ht=>?_⟩⟩
   have nt:t∉owns ρ:=(R.grow g1).fresh ht
   exact q _ _ (g1.trans (j6 ht)) ⟨t,xs,rfl,.inl (.inl (by rw[j7 nt];exact jb)),en.mono (jf (j6 ht))⟩
  |false =>
   refine⟨l,xs,rfl,.inr ⟨Qp sq,?_⟩⟩
   refine q _ _ g1 ⟨l,xs,rfl,?_,en⟩
   have ow:=(R.grow g1).owned
   have out:∀{o:HO},H1 l=a8 o->(∀zs,o≠.lst zs)->del H1 (owns ρ) l=a8 o:=λ{o} h z=>by
    rw[j7];exact h
    intro y;obtain⟨zs,e'⟩:=ow l y;rw[h]at e';cases e';exact z zs rfl
   rcases Qp sq with (h|⟨o,h⟩)|h
   .exact .inl (.inl (out h λ_ z=>by cases z))
   .exact .inl (.inr ⟨o,out h λ_ z=>by cases z⟩)
   .exact .inr h)
def DO.listM (ha:DM X ρ a s ds) (hm:X.mg "list" = af) (hg:Gl X "list") (hs:ah [a] X.env=[(aa,aD a X.env)]):DO X ρ (.Call (.Name "list" p) [a] [] pos) ds:=λσ H Q R q =>
 (Vf j0j hg hm boot_list (jc peS jn hs) (by decide) (by decide) hs).to (ha σ H _ R λl xs H1 g1 sq en =>
  ⟨l,xs,rfl,(by cases s with|true=>exact .inl (Um sq)|false=>exact .inr (Qp sq)),λp hp=>q p _ _ (g1.trans (j6 hp)) (g1.free hp) jb (We hp en)⟩)
end
def Ft:fillsNumberSlot (.type "tuple") "mul" = pure aa :=
 PySem.fillsNumberSlot_seq (id:="tuple.__mul__") (r:=a8 (.builtin "tuple.__rmul__")) PySem.F.slot_tuple_mul.lookup (by decide +kernel) PySem.F.slot_tuple_rmul.lookup (by decide +kernel)
def jb0:seqRepeat? (.type "tuple")=pure (a8 (.builtin "tuple.__mul__")):=by
 unfold seqRepeat?;rw[k9 (T:="tuple") (name:="__mul__") (id:="tuple.__mul__") PySem.F.slot_tuple_mul.lookup (by decide +kernel),
  k9 (T:="tuple") (name:="__rmul__") (id:="tuple.__rmul__") PySem.F.slot_tuple_rmul.lookup (by decide +kernel)]
 rfl
section
variable(a:Int)(t:iR)(l:ai)(its:Array aj)(n:Nat)(d1:Option ai)(sl:Array (Option aj))
def Ez:kK (cS.«int.__rmul__» ⟨[.int a t,.ref l],[]⟩) (λ_ R s=>s.heap.get? l=a8 ⟨.type "tuple",d1,.seq its n,sl⟩/\R (.ok (.ret iT)) s) :=
 .of_wp λ_ _ _ _ s h=>by
  obtain⟨_,_,_,_,_⟩:=s;obtain⟨hl,h⟩:=h
  wp_walk
  exact⟨_,rfl,h⟩
def j6f:kK (cS.«tuple.__mul__» ⟨[.ref l,.int 1 t],[]⟩) (λ_ R s=>s.heap.get? l=a8 ⟨.type "tuple",d1,.seq its n,sl⟩/\R (.ok (.ret (.ref l))) s) :=
 .of_wp λ_ _ _ _ s h=>by
  obtain⟨_,_,_,_,_⟩:=s;obtain⟨hl,h⟩:=h
  wp_walk
  exact⟨_,rfl,h⟩
def j6e(h0:its.isEmpty=aa)(h1:1<a)(h2:a<2^63)(hz:its.size*a.toNat<=aw) :
  kK (cS.«tuple.__mul__» ⟨[.ref l,.int a t],[]⟩) (λ_ R s=>s.heap.get? l=a8 ⟨.type "tuple",d1,.seq its n,sl⟩ /\
   R (.ok (.ret (.ref s.heap.objs.size))) { s with heap:=s.heap.push { cls:=.type "tuple",data:=.seq (dQ (λx y=>x++y) #[] (ay a.toNat its)) } }) :=
 .of_wp λ_ _ _ _ s h=>by
  obtain⟨_,_,_,_,_⟩:=s;obtain⟨hl,h⟩:=h;have c1:(decide (a < -2^63) || decide (a>=2^63))=aa:=by rw[decide_eq_false (by omega),decide_eq_false (by omega)];rfl
  have c2:(its.isEmpty || a==1)=aa:=by rw[h0,beq_eq_false_iff_ne.mpr (by omega)];rfl
  have c3:(decide (a<=0) || its.isEmpty)=aa:=by rw[h0,decide_eq_false (by omega)];rfl
  have ea:((its.size*a.toNat:Nat):Int)=(its.size:Int)*a:=by rw[Int.natCast_mul,Int.toNat_of_nonneg (by omega)]
  have hz':(its.size:Int)*a<=(aw:Int):=by rw[<-ea];exact Int.ofNat_le.mpr hz
  have c4:¬(its.size:Int)*a>(2^63-1)/8:=by
   have:(aw:Int)<=(2^63-1)/8:=by decide
   omega
  have c5:fR ((its.size:Int)*a)=aa:=by unfold fR;exact decide_eq_false (by omega)
  have c6:(dQ (λx y=>x++y) #[] (ay a.toNat its)).size<=aw:=by rw[AutoListH.size_joined,Array.size_empty,df,gL];exact hz
  wp_walk
  rw[c1]
  wp_walk
  rw[c2]
  wp_walk
  rw[c3]
  wp_walk
  rw[if_neg c4]
  wp_walk
  exact⟨_,rfl,h⟩
end
def jbc{X:Cx}:OpR X (bB .Mult) (λx y H Q=>∃a k xs,x=.ref a/\y=.int k/\SqT X.K H a xs/\xs≠[]/\1<=k/\k<2^63/\xs.length*k.toNat<=aw /\
  (k=1->Q (.ref a) H)/\(1<k->∀p,H p=af->Q (.ref p) (upd H p (.tup (ay k.toNat xs).flatten)))):=by
 intro pins s σ H x y v u Q I rx ry h;obtain⟨a,k,xs,e1,e2,sq,hne,h1,h2,hz,q1,q2⟩:=h;subst e1 e2;cases rx;obtain⟨t,e⟩:=ry;subst e;obtain⟨us,ru,⟨⟨c1,d1,f1,g1⟩,p1,k1,n1,m1⟩,_⟩:=I.tuple sq;have k1:c1=.type "tuple":=k1;have m1:f1=.seq us.toArray n1:=m1;subst k1 m1;have lu:=ru.length;have hne':us.toArray.isEmpty=aa:=by
  cases us with
  |nil=>cases ru;exact absurd rfl hne
  |cons _ _=>simp
 refine jv (T:="tuple") (U:="int") (by decide) ⟨_,p1,rfl⟩ (λs'=>hZ s' k t) Ft lM fD jb0 F.slot_int_index.lookup
  (cj fD (hZ s k t) lp (kZ _ _) (Ez k t a us.toArray n1 d1 g1) ⟨p1,rfl,⟨_,p1,rfl⟩,?_⟩)
 by_cases hk:k=1
 .subst hk;exact cj lb ⟨_,p1,rfl⟩ kX (kD _ _) (j6f t a us.toArray n1 d1 g1) ⟨p1,⟨.ref a,H,I,rfl,q1 rfl⟩⟩
 .have hz':us.toArray.size*k.toNat<=aw:=by rw[X5,<-lu];exact hz
  refine cj lb ⟨_,p1,rfl⟩ kX (kD _ _) (j6e k t a us.toArray n1 d1 g1 hne' (by omega) h2 hz') ⟨p1,?_⟩;have hnew:dQ (λx1 x2=>x1++x2) #[] (ay k.toNat us.toArray)=(ay k.toNat us).flatten.toArray:=by have:=foldl_rep us k.toNat [];rw[i5]at this;exact this
  rw[hnew];refine⟨.ref _,_,I.laid (t':=s.toks) (λb o e=>kj _ e) (xu _) ?_,rfl,q2 (by omega) _ I.fresh⟩;exact⟨by rw[len_rep,gL];exact hz,_,ru.rep k.toNat,IsTup.new _ _,Zz.new _ _⟩
def DE.repT{X:Cx}{ρ:Rho}{a b:au}{ds:List D}{k:Int}{pos:aO}(ha:DM X ρ a aa ds)(hb:DT X ρ b (.int k))(hne:ds≠[])(h1:1<=k)(h2:k<2^63)(hl:ds.length*k.toNat<=aw) :
  DE X ρ (.BinOp a .Mult b pos) (.tup (ay k.toNat ds).flatten):=λσ H Q R q =>
 (Yx jbc peS peS).to (ha σ H _ R λt xs H1 g1 sq l=>hb σ H1 _ (R.grow g1) λu H2 g2 e2=>by
  have l2:=l.mono (jf g2)
  refine⟨t,k,xs,rfl,e2,g2.seqT (Qp sq),?_,h1,h2,by rw[l.length];exact hl,λh=>?_,λh p hp=>?_⟩
  .intro z;subst z
   cases ds with
   |nil=>exact hne rfl
   |cons _ _=>have:=l.length;cases this
  .subst h
   have e:(ay (1:Int).toNat ds).flatten=ds:=by simp
   rw[e]at q
   refine q _ H2 (g1.trans g2) ⟨t,xs,rfl,?_,l2⟩
   have ow:=(R.grow (g1.trans g2)).owned
   have out:∀{o:HO},H2 t=a8 o->(∀zs,o≠.lst zs)->del H2 (owns ρ) t=a8 o:=λ{o} h z=>by
    rw[j7];exact h
    intro y;obtain⟨zs,e'⟩:=ow t y;rw[h]at e';cases e';exact z zs rfl
   rcases g2.seqT (Qp sq)with (h|⟨o,h⟩)|h
   .exact .inl (.inl (out h λ_ z=>by cases z))
   .exact .inl (.inr ⟨o,out h λ_ z=>by cases z⟩)
   .exact .inr h
  .have np:p∉owns ρ:=(R.grow (g1.trans g2)).fresh hp
   exact q _ _ ((g1.trans g2).trans (j6 hp)) ⟨p,_,rfl,.inl (.inl (by rw[j7 np];exact jb)),(l2.rep k.toNat).mono (jf (j6 hp))⟩)
end L2
end
section
namespace L2
open PySem PySem.Spec PyProof.Rows
noncomputable def Sl.abs:Sl->Sv
 |.un=>.un
 |.val d=>.val d
 |.own _ l=>.own l
 |.raw _ _ x=>.exc x
noncomputable def j5(ρ:Rho):En:=ρ.map Sl.abs
def Oz{ρ:Rho}{i:Nat}:(j5 ρ)[i]?=(ρ[i]?).map Sl.abs:=xn ..
def Wo{ρ:Rho}{i:Nat}{d:D}(h:(j5 ρ)[i]?=a8 (.val d)):ρ[i]?=a8 (.val d):=by
 rw[Oz]at h;cases e:ρ[i]? with
 |none=>rw[e]at h;cases h
 |some s=>rw[e]at h;cases s<;>cases h;rfl
def Dv{ρ:Rho}{i:Nat}(h:(j5 ρ)[i]?=a8 .un):ρ[i]?=a8 .un:=by
 rw[Oz]at h;cases e:ρ[i]? with
 |none=>rw[e]at h;cases h
 |some s=>rw[e]at h;cases s<;>cases h;rfl
def Qu{ρ:Rho}{i:Nat}{l:List D}(h:(j5 ρ)[i]?=a8 (.own l)):∃a,ρ[i]?=a8 (.own a l):=by
 rw[Oz]at h;cases e:ρ[i]? with
 |none=>rw[e]at h;cases h
 |some s=>rw[e]at h;cases s<;>cases h;exact⟨_,rfl⟩
def jo{ρ:Rho}{i:Nat}{s:Sl}:j5 (ρ.set i s)=(j5 ρ).set i s.abs:=List.map_set ..
noncomputable def Bop.op:Bop->kJ
 |.add=>.Add
 |.sub=>.Sub
 |.mul=>.Mult
 |.fdiv=>.FloorDiv
 |.mod=>.Mod
 |.pow=>.Pow
 |.shl=>.LShift
 |.shr=>.RShift
 |.band=>.BitAnd
 |.bxor=>.BitXor
noncomputable def Cop.op:Cop->iI
 |.lt=>.Lt
 |.le=>.LtE
 |.gt=>.Gt
 |.ge=>.GtE
 |.eq=>.Eq
 |.ne=>.NotEq
 |.isin=>.In
 |.notin=>.NotIn
noncomputable def Bf.name:Bf->ar
 |.len=>"len"
 |.min=>"min"
 |.max=>"max"
 |.all=>"all"
 |.tuple=>"tuple"
 |.list=>"list"
 |.sum=>"sum"
 |.int=>"int"
 |.any=>"any"
 |.sorted=>"sorted"
noncomputable def Vl:List ar:=["len","min","max","all","tuple","list","sum","int","any","sorted","isinstance","bool","str","range","zip","enumerate","reversed","ValueError","set","dict"]
noncomputable def Vj(x:ar):Bool:=x.cps.toList.head?==a8 33 || x.cps.toList.head?==a8 63
inductive Nd where
 |e (x:au)
 |b (x:au)
 |w (x:au)
 |a (xs:List au)
 |i (tg it:au)
 |o (x:Option au)
 |c (xs:List au)
 |p (xs:List au)
structure Cok(X:Cx)(G:ar->Option D):Prop where
 un':X.A.units+100<aZ
 un:X.calm=ae->X.A.units+150<aZ
 dp:X.calm=ae->X.A.depth+4<gi
 bt:∀x∈Vl,X.mg x=af
 gl:∀x d,Vj x=aa->G x=a8 d->∃u v,X.mg x=a8 u/\RelV v u/\∀H,Enc X.K H d v
 nd:X.N.Nodup
 po:fv (aC X.prog X.w) X.A X.env X.xe
 ea:Kl X.K=ae
 ec:∀x d,G (bang x)=a8 d->x∈Jg/\∃o,W.nsIn X.K aB x=a8 (a8 o)
 el:G "?" = a8 (.bl ae)->∀c∈Jg,∃v,W.nsIn X.K aB c=a8 (a8 v)
 kin:X.K.In X.base
 ns:X.base.Ns aB X.mg
 kd:∀x l,G (bang x)=a8 (.lst l)->Kinds X "_law_kinds" x l
 fn:∀f d,G (qm f)=a8 d->∃fa,X.mg f=a8 (.ref fa)/\W.keepIn X.K (.ref fa)=ae
 gd:X.calm=ae->X.A.guards=a8 []
 fr:∃(env0:dO)(out0:List dO)(L:ai),X.stack=env0::out0/\env0.frame=a8 L/\X.env.frame=a8 L
 lm:∀x∈Vo,X.env.qual=x ++ ".<locals>."->∃c P,X.env.code=.ref c/\W.codeHdIn X.K c P=ae/\W.tabIn X.K x=a8 (c,P)
def Gok(X:Cx)(Γ:ar->List D->Rc):Prop:=∀f ds,match Γ f ds with
 |.val d=>Cal X f (spP X.K λds' d'=>ds'=ds/\d'=d)
 |.fresh l=>Cal X f (spF X.K λds' l'=>ds'=ds/\l'=l)
 |.err x=>CalX X f (spX X.K X.mg λds' y=>ds'=ds/\y=x)
 |.lval d=>∀x,f=zm x->∃k,Room k X.A/\j3p X.prog X.w X.K X.mg X.base k x λds' d'=>ds'=ds/\d'=d
 |.mval _ _=>True
 |.merr _=>True
 |.dval d ks' ns'=>∀g ks ns ds',f=dq g->ds=.dct ks (ns.map D.int)::ds'->CalD X g λks2 ns2 ds2 d2 ks2' ns2'=>ks2=ks/\ns2=ns/\ds2=ds'/\d2=d/\ks2'=ks'/\ns2'=ns'
 |.hnd _=>True
 |.no=>True
def Cok.comp{X:Cx}{G:ar->Option D}{scope:bH}{C:ai}{s:aq}{H:Hp}{fp:List ai}{pn:k8x}(h:Cok X G):Cok (cCx X scope C s H fp pn) G:=⟨h.un',h.un,h.dp,h.bt,h.gl,h.nd,bU,h.ea,h.ec,h.el,h.kin,h.ns,h.kd,h.fn,h.gd,h.fr,h.lm⟩
theorem Gok.comp{X:Cx}{Γ:ar->List D->Rc}{scope:bH}{C:ai}{s:aq}{H:Hp}{fp:List ai}{pn:k8x}(h:Gok X Γ):Gok (cCx X scope C s H fp pn) Γ:=λf ds=>by
 have q:=h f ds;cases e:Γ f ds with
 |val d=>rw[e]at q;exact Cal.comp q
 |fresh l=>rw[e]at q;exact Cal.comp q
 |err x=>rw[e]at q;exact⟨q.ex⟩
 |lval d=>rw[e]at q;exact q
 |mval d k=>trivial
 |merr x=>trivial
 |dval d ks ns=>rw[e]at q;exact λg ks ns ds' h1 h2=>⟨(q g ks ns ds' h1 h2).ex⟩
 |hnd sp=>trivial
 |no=>trivial
inductive HasA(X:Cx)(ρ:Rho):List au->List Rk->Prop where
 |nil:HasA X ρ [] []
 |cons {a:au} {es:List au} {r:Rk} {rs:List Rk} (hs:ah (a::es) X.env=(aa,aD a X.env)::ah es X.env):Has X ρ a r->HasA X ρ es rs->HasA X ρ (a::es) (r::rs)
section
variable{X:Cx}{ρ:Rho}{es:List au}{rs:List Rk}
theorem HasA.toA:∀{es:List au}{rs:List Rk}{ds:List D},HasA X ρ es rs->zu rs=a8 ds->DA X ρ es ds
 |_,_,_,.nil,q=>by cases q;exact DA.nil
 |_,_,ds,.cons (r:=r) (rs:=rs) hs h t,q=>by
  unfold zu at q;cases e1:r.st with
  |none=>rw[e1]at q;cases q
  |some d =>
   cases e2:zu rs with
   |none=>rw[e1,e2]at q;cases q
   |some ds'=>rw[e1,e2]at q;cases q;exact DA.cons (h.toE e1) (t.toA e2) hs
theorem HasA.toT:∀{es:List au}{rs:List Rk},HasA X ρ es rs->DTA X ρ es (rs.map Rk.d)
 |_,_,.nil=>DTA.nil
 |_,_,.cons hs h t=>DTA.cons h.toT t.toT hs
def DO.unfrz{e:au}{i:Nat}{a:ai}{l ds:List D}(hk:ρ[i]?=a8 (.own a l))(h:DO X (ρ.set i (.val (.lst l))) e ds)(hn:za ds=ae):DO X ρ e ds:=λσ H Q R q =>
 h σ H Q (R.freeze hk) λb xs H' g n m en=>q b xs H' g n m ((en.mono je).hide (λc hc=>by
  rcases xq.mp hc with z|z
  .rw[z];exact .inl ⟨xs,m⟩
  .exact .inl ((R.grow g).owned c z)) hn)
end
theorem Ni{f:D->Option (Option D)}:∀{ds l:List D},Qc f ds=a8 l ->
  l=(ds.filter (λd=>(f d).join.isSome)).map (λd=>(f d).join.getD .non)/\∀d∈ds,∃o,f d=a8 o
 |[],l,h=>by cases h;exact⟨rfl,λd hd=>nomatch hd⟩
 |d::ds,l,h=>by
  unfold Qc at h;cases e1:f d with
  |none=>rw[e1]at h;cases h
  |some o =>
   cases e2:Qc f ds with
   |none=>rw[e1,e2]at h;cases o<;>cases h
   |some xs =>
    rw[e1,e2]at h;obtain⟨q1,q2⟩:=Ni e2;have mem:∀d'∈d::ds,∃o,f d'=a8 o:=λd' hd=>by
     rcases xq.mp hd with z|z
     .subst z;exact⟨o,e1⟩
     .exact q2 d' z
    cases o with
    |none=>cases h;exact⟨by rw[cX (by rw[e1];simp)];exact q1,mem⟩
    |some x=>cases h;exact⟨by rw[eP (by rw[e1];rfl),X6,<-q1,e1];rfl,mem⟩
section
variable{X:Cx}{ρ:Rho}{a b:au}{d da db:D}{ds ds':List D}{pos:aO}{k:Bool}
def j56 {t c:String} (h:qx t c=a8 k):t ≠ "function":=λz=>by unfold qx at h;rw[if_pos z]at h;cases h
def j1p{K:k8v}{c:String}(h:qx d.ty c=a8 k):W.kitOne K (.type d.ty) (.type c)=a8 k:=by
 have nf:d.ty ≠ "function":=j56 h;unfold qx at h;rw[if_neg nf]at h;by_cases h1:c = "int"
 .subst h1;cases d<;>first|exact absurd rfl nf|(simp[D.ty]at h;subst h;kernel_rfl)
 rw[if_neg h1]at h;by_cases h2:c = "bool"
 .subst h2;cases d<;>first|exact absurd rfl nf|(simp[D.ty]at h;subst h;kernel_rfl)
 rw[if_neg h2]at h;by_cases h3:c = "str"
 .subst h3;cases d<;>first|exact absurd rfl nf|(simp[D.ty]at h;subst h;kernel_rfl)
 rw[if_neg h3]at h;by_cases h4:c = "list"
 .subst h4;cases d<;>first|exact absurd rfl nf|(simp[D.ty]at h;subst h;kernel_rfl)
 rw[if_neg h4]at h;by_cases h5:c = "tuple"
 .subst h5;cases d<;>first|exact absurd rfl nf|(simp[D.ty]at h;subst h;kernel_rfl)
 rw[if_neg h5]at h;by_cases h6:c = "dict"
 .subst h6;cases d<;>first|exact absurd rfl nf|(simp[D.ty]at h;subst h;kernel_rfl)
 rw[if_neg h6]at h;cases h
def j1s {c:String} {cs:List String} (h:jy d (c::cs)=a8 k):d.ty ≠ "function":=by
 unfold jy at h;split at h
 .rename_i e _;exact j56 e
 .cases h
theorem Eu{K:k8v}:∀{cs:List String}{k:Bool},jy d cs=a8 k->W.kitAny K (.type d.ty) (cs.map dk)=a8 k
 |[],k,h=>by cases h;rfl
 |c::cs,k,h=>by
  unfold jy at h;cases e1:qx d.ty c with
  |none=>rw[e1]at h;cases h
  |some x =>
   cases e2:jy d cs with
   |none=>rw[e1,e2]at h;cases h
   |some y =>
    rw[e1,e2]at h;cases h;rw[X6,W.kitAny,j1p e1];cases x with
    |true=>simp
    |false=>simp;exact Eu e2
def DE.neD(s:Bool)(hu:X.A.units+100<aZ)(ha:DT X ρ a (D.seq s ds))(hb:DT X ρ b (D.seq s ds'))(hd:D.depL ds<=98)(nd:D.depL ds'<10000):DE X ρ (.Compare a [.NotEq] [b] pos) (.bl (!vm ds ds')):=λσ H Q R q =>(Jf (j4l hu) peS peS (zg _)).to (ha σ H _ R λv H1 g1 e1=>hb σ H1 _ (R.grow g1) λu H2 g2 e2=>⟨ds,ds',s,e1.mono g2,e2,hd,nd,q _ H2 (g1.trans g2) rfl⟩)
def DE.notIn(s:Bool)(hu:X.A.units+100<aZ)(ha:DT X ρ a d)(hb:DT X ρ b (D.seq s ds))(hd:D.depL ds<=98)(nd:d.dep<10000)(hm:aG .NotIn b=aa):DE X ρ (.Compare a [.NotIn] [b] pos) (.bl (!ds.any λe=>deq e d)):=λσ H Q R q =>(Jf (Cg hu) peS peS hm).to (ha σ H _ R λv H1 g1 e1=>hb σ H1 _ (R.grow g1) λu H2 g2 e2=>⟨d,ds,s,e1.mono g2,e2,hd,nd,q _ H2 (g1.trans g2) rfl⟩)
def DE.in(s:Bool)(hu:X.A.units+100<aZ)(ha:DT X ρ a d)(hb:DT X ρ b (D.seq s ds))(hd:D.depL ds<=98)(nd:d.dep<10000)(hm:aG .In b=aa):DE X ρ (.Compare a [.In] [b] pos) (.bl (ds.any λe=>deq e d)):=λσ H Q R q =>(Jf (j4m hu) peS peS hm).to (ha σ H _ R λv H1 g1 e1=>hb σ H1 _ (R.grow g1) λu H2 g2 e2=>⟨d,ds,s,e1.mono g2,e2,hd,nd,q _ H2 (g1.trans g2) rfl⟩)
def jai:∀{b:D}{s:Bool}{l:List D},b.sqv=a8 (s,l)->b=D.seq s l
 |.lst _,_,_,h=>by cases h;rfl
 |.dct _ _,_,_,h=>by cases h
 |.sct _,_,_,h=>by cases h
 |.fn _ _,_,_,h=>by cases h
 |.tup _,_,_,h=>by cases h;rfl
 |.non,_,_,h=>by cases h
 |.bl _,_,_,h=>by cases h
 |.int _,_,_,h=>by cases h
 |.str _,_,_,h=>by cases h
def j3f{op:Cop}{i j:Int}(h:cmpI op i j=a8 k)(ha:DT X ρ a (.int i))(hb:DT X ρ b (.int j)):DE X ρ (.Compare a [op.op] [b] pos) (.bl k)/\DB X ρ (.Compare a [op.op] [b] pos) k:=by
 cases op<;>(first|(cases h;done)|skip)
 .cases h;exact⟨DE.lt ha hb,DB.lt ha hb⟩
 .cases h;exact⟨DE.le ha hb,DB.le ha hb⟩
 .cases h;exact⟨DE.gt ha hb,DB.gt ha hb⟩
 .cases h;exact⟨DE.ge ha hb,DB.ge ha hb⟩
 .cases h;exact⟨DE.eqI ha hb,DB.eqI ha hb⟩
 .cases h;exact⟨DE.neI ha hb,DB.neI ha hb⟩
def Le{op:Cop}(hu:X.A.units+100<aZ)(h:Qj op da db=a8 k)(ha:DT X ρ a da)(hb:DT X ρ b db)(hm:aG op.op b=aa) :
  DE X ρ (.Compare a [op.op] [b] pos) (.bl k)/\DB X ρ (.Compare a [op.op] [b] pos) k:=by
 have inn:∀{r:Bool->Bool},(match db.sqv with|some (_,l)=>if D.depL l<=90/\da.dep<=90 then a8 (r (l.any λe=>deq e da))else af|none=>af)=a8 k->∃s l,DT X ρ b (D.seq s l)/\D.depL l<=98/\da.dep<10000/\k=r (l.any λe=>deq e da):=λ{r} h=>by
  cases e:db.sqv with
  |none=>rw[e]at h;cases h
  |some p =>
   obtain⟨s,l⟩:=p;rw[e]at h;have h:(if D.depL l<=90/\da.dep<=90 then a8 (r (l.any λe=>deq e da))else af)=a8 k:=h;by_cases z:D.depL l<=90/\da.dep<=90
   .rw[if_pos z]at h;cases h;exact⟨s,l,jai e▸hb,by omega,by omega,rfl⟩
   .rw[if_neg z]at h;cases h
 unfold Qj at h;split at h
 .exact j3f h ha hb
 .by_cases z:da.dep<=90/\db.dep<=90
  .rw[if_pos z]at h;cases h;exact⟨DE.eqD hu ha hb (by omega) (by omega),DB.eqD hu ha hb (by omega) (by omega)⟩
  .rw[if_neg z]at h;cases h
 .cases h;exact⟨DE.neB ha hb,DB.neB ha hb⟩
 .cases h;exact⟨(DE.neS ha hb).eq (by rw[j0a]),(DB.neS ha hb).eq (by rw[j0a])⟩
 .cases h;exact⟨(DE.neS ha hb).eq (by simp),(DB.neS ha hb).eq (by simp)⟩
 .rename_i l m;by_cases z:D.depL l<=90/\D.depL m<=90
  .rw[if_pos z]at h;cases h;exact⟨DE.neD ae hu ha hb (by omega) (by omega),DB.neD ae hu ha hb (by omega) (by omega)⟩
  .rw[if_neg z]at h;cases h
 .rename_i l m;by_cases z:D.depL l<=90/\D.depL m<=90
  .rw[if_pos z]at h;cases h;exact⟨DE.neD aa hu ha hb (by omega) (by omega),DB.neD aa hu ha hb (by omega) (by omega)⟩
  .rw[if_neg z]at h;cases h
 .cases h;exact⟨DE.inS ha hb hm,DB.inS ha hb hm⟩
 .cases h;exact⟨DE.ltS ha hb,DB.ltS ha hb⟩
 .cases h;exact⟨DE.gtS ha hb,DB.gtS ha hb⟩
 .obtain⟨s,l,hb,hd,nd,e⟩:=inn (r:=id) h;subst e;exact⟨DE.in s hu ha hb hd nd hm,DB.in s hu ha hb hd nd hm⟩
 .obtain⟨s,l,hb,hd,nd,e⟩:=inn (r:=(!·)) h;subst e;exact⟨DE.notIn s hu ha hb hd nd hm,DB.notIn s hu ha hb hd nd hm⟩
 .cases h
def DE.shr{i j:Int}(ha:DT X ρ a (.int i))(hb:DT X ρ b (.int j))(h:0<=j):DE X ρ (.BinOp a .RShift b pos) (.int (i/2^j.toNat)):=DE.arI (g:=λi j=>i/2^j.toNat) jem ha hb h
def jq{α:Type}{c:Prop}[Decidable c]{x y:α}(h:(if c then a8 x else af)=a8 y):c/\x=y:=by
 by_cases z:c
 .rw[if_pos z]at h;exact⟨z,ax h⟩
 .rw[if_neg z]at h;cases h
def j3j{op:Bop}{i j n:Int}(h:binI op i j=a8 n)(ha:DT X ρ a (.int i))(hb:DT X ρ b (.int j)):DE X ρ (.BinOp a op.op b pos) (.int n):=by
 cases op
 .cases h;exact DE.add ha hb
 .cases h;exact DE.sub ha hb
 .obtain⟨z,e⟩:=jq h;subst e;exact DE.mul ha hb z
 .obtain⟨z,e⟩:=jq h;subst e;exact DE.fdivB ha hb z
 .obtain⟨z,e⟩:=jq h;subst e;exact DE.mod ha hb z
 .obtain⟨z,e⟩:=jq h;subst e;exact DE.pow ha hb z
 .obtain⟨z,e⟩:=jq h;subst e;exact DE.shl ha hb z
 .obtain⟨z,e⟩:=jq h;subst e;exact DE.shr ha hb z
 .cases h;exact DE.arI0 jes ha hb
 .cases h;exact DE.arI0 jek ha hb
def zj{n:Nat}(h:jm n=ae):n<=aw:=of_decide_eq_true h
end
section
variable{X:Cx}{ρ:Rho}{a b e:au}{es:List au}{d:D}{pos p:aO}
theorem Has.lw:∀{r:Rk}{l:List D},Has X ρ a r->r.lw=a8 l->DL X ρ a l
 |.o l,_,h,q=>by cases q;exact DO.toL h
 |.w l,_,h,q=>by cases q;exact h
 |.e _,_,_,q=>by cases q
 |.t _,_,_,q=>by cases q
def j63{op:Bop}{x y r:Rk}(h:Wl op x y=a8 r)(ha:Has X ρ a x)(hb:Has X ρ b y):Has X ρ (.BinOp a op.op b pos) r:=by
 unfold Wl at h;split at h
 .rename_i i j e1 e2;cases z:binI op i j with
  |none=>rw[z]at h;cases h
  |some n=>rw[z]at h;cases h;exact j3j z (e1▸ha.toT) (e2▸hb.toT)
 .rename_i y z e1 e2;split at h
  .obtain⟨q,e⟩:=jq h;subst e;exact DE.catS (e1▸ha.toT) (e2▸hb.toT) (zj q)
  .cases h
 .rename_i y k e1 e2;split at h
  .obtain⟨q,e⟩:=jq h;subst e;exact DE.mulS (e1▸ha.toT) (e2▸hb.toT) q.1 q.2
  .cases h
 .split at h
  .rename_i l m _ e1 e2;obtain⟨z,q⟩:=jq h;subst q;exact DO.catM (ha.toM e1) (hb.toM e2) (zj z)
  .rename_i l m _ e1 e2;obtain⟨z,q⟩:=jq h;subst q;exact DE.catTM (ha.toM e1) (hb.toM e2) (zj z)
  .rename_i l k _ _ e1 e3;obtain⟨z,q⟩:=jq h;subst q;exact DE.repT (ha.toM e1) (e3▸hb.toT) (λe=>by subst e;exact absurd z.2.2.1 (by simp)) z.1 z.2.1 (zj z.2.2.2)
  .rename_i k _ _ _ e3 _;cases e:x.lw with
   |none=>rw[e]at h;cases h
   |some l =>rw[e]at h;obtain⟨z,q⟩:=jq h;subst q;exact DO.rep (ha.lw e) (e3▸hb.toT) z.1 z.2.1 (zj z.2.2)
  .cases h
theorem Wj:∀{l:List D}{bs:List Bool},boolsOf l=a8 bs->l=bs.map D.bl
 |[],_,h=>by cases h;rfl
 |.bl b::r,bs,h=>by
  unfold boolsOf at h;cases e:boolsOf r with
  |none=>rw[e]at h;cases h
  |some q=>rw[e]at h;cases h;rw[Wj e];rfl
 |.non::_,_,h=>by cases h
 |.int _::_,_,h=>by cases h
 |.str _::_,_,h=>by cases h
 |.tup _::_,_,h=>by cases h
 |.lst _::_,_,h=>by cases h
 |.dct _ _::_,_,h=>by cases h
 |.sct _::_,_,h=>by cases h
 |.fn _ _::_,_,h=>by cases h
theorem vh:∀{l:List D}{bs:zo},intsOf l=a8 bs->l=bs.map D.int
 |[],_,h=>by cases h;rfl
 |.int b::r,bs,h=>by
  unfold intsOf at h;cases e:intsOf r with
  |none=>rw[e]at h;cases h
  |some q=>rw[e]at h;cases h;rw[vh e];rfl
 |.non::_,_,h=>by cases h
 |.bl _::_,_,h=>by cases h
 |.str _::_,_,h=>by cases h
 |.tup _::_,_,h=>by cases h
 |.lst _::_,_,h=>by cases h
 |.dct _ _::_,_,h=>by cases h
 |.sct _::_,_,h=>by cases h
 |.fn _ _::_,_,h=>by cases h
theorem Wu:∀{l:List D}{bs:List ar},strsOf l=a8 bs->l=bs.map D.str
 |[],_,h=>by cases h;rfl
 |.str b::r,bs,h=>by
  unfold strsOf at h;cases e:strsOf r with
  |none=>rw[e]at h;cases h
  |some q=>rw[e]at h;cases h;rw[Wu e];rfl
 |.non::_,_,h=>by cases h
 |.bl _::_,_,h=>by cases h
 |.int _::_,_,h=>by cases h
 |.tup _::_,_,h=>by cases h
 |.lst _::_,_,h=>by cases h
 |.dct _ _::_,_,h=>by cases h
 |.sct _::_,_,h=>by cases h
 |.fn _ _::_,_,h=>by cases h
def zy{w:Option W}{k:Bool}(h:truth w=a8 k):∃r,w=a8 (.v r)/\r.d=.bl k:=by
 unfold truth at h;split at h
 .rename_i r;split at h
  .rename_i q e;cases h;exact⟨r,rfl,e⟩
  .cases h
 .cases h
def jhl(X:Cx)(ρ:Rho):List au->List Rk->Prop
 |[],[]=>True
 |e::es,r::rs=>(∀y,j9a r.d=a8 y->DE X ρ e (.str y))/\jhl X ρ es rs
 |_,_=>False
def jhj(Γ:ar->List D->Rc)(G:ar->Option D)(X:Cx)(t:Ex):Nd->Prop
 |.e e=>∀ρ r,ev Γ G t (j5 ρ)=a8 (.v r)->Has X ρ e r
 |.b e=>∀ρ k,truth (ev Γ G t (j5 ρ))=a8 k->DB X ρ e k
 |.w e=>∀ρ k,truth (ev Γ G t (j5 ρ))=a8 k->DW X ρ e k
 |.a es=>∀ρ rs,ev Γ G t (j5 ρ)=a8 (.a rs)->HasA X ρ es rs
 |.i tg it=>∀ρ ds,ev Γ G t (j5 ρ)=a8 (.i ds)->DI X ρ tg it ds
 |.o e=>∀ρ o,Qt (ev Γ G t (j5 ρ))=a8 o->DP X ρ e o
 |.p es=>∀ρ rs,ev Γ G t (j5 ρ)=a8 (.a rs)->jhl X ρ es rs
 |.c ifs=>∀ρ,(ev Γ G t (j5 ρ)=a8 (.a [])->DTs X ρ ifs ae)/\∀y k,ev Γ G t (j5 ρ)=a8 (.a [y])->y.d=.bl k->DTs X ρ ifs k
end
section
variable{Γ:ar->List D->Rc}{G:ar->Option D}{X:Cx}
def Ug{is:List Nat}{elt' it' c':Ex}{elt it tg:au}{ifs:List au}{scope:bH}{ρ:Rho}{r:Rk}
  (hit:∀ρ ds,ev Γ G it' (j5 ρ)=a8 (.i ds)->DI X ρ tg it ds)
  (hb:∀ρ d ρ2,qz is d (j5 ρ)=a8 ρ2->(∀j∈is,ρ[j]?=a8 .un)->∃ρ',j5 ρ'=ρ2/\Wk ρ' ρ/\owns ρ'=owns ρ/\∀C s H fp pn,DG (cCx X scope C s H fp pn) ρ tg d ρ')
  (he:∀C s H fp pn ρ r,ev Γ G elt' (j5 ρ)=a8 (.v r)->Has (cCx X scope C s H fp pn) ρ elt r)
  (hc:∀C s H fp pn ρ,(ev Γ G c' (j5 ρ)=a8 (.a [])->DTs (cCx X scope C s H fp pn) ρ ifs ae)/\∀y k,ev Γ G c' (j5 ρ)=a8 (.a [y])->y.d=.bl k->DTs (cCx X scope C s H fp pn) ρ ifs k)
  (h:ev Γ G (.comp is elt' it' c') (j5 ρ)=a8 (.v r)):∃(l:List D)(ρf:Rho)(ds:List D)(pr:D->Bool)(g:D->D),r=.o l/\l=(ds.filter pr).map g /\
   (ρf=ρ\/(za l=ae/\∃(i:Nat)(a:ai)(l':List D),ρ[i]?=a8 (.own a l')/\ρf=ρ.set i (.val (.lst l'))))/\DI X ρf tg it ds/\(∀j∈is,ρf[j]?=a8 .un)/\ds.length<=aw /\
   (∀C s H fp pn,∀d∈ds,∃ρ2,DG (cCx X scope C s H fp pn) ρf tg d ρ2/\Wk ρ2 ρf/\owns ρ2=owns ρf/\DTs (cCx X scope C s H fp pn) ρ2 ifs (pr d)/\(pr d=ae->DE (cCx X scope C s H fp pn) ρ2 elt (g d))):=by
 have fr:∃ρf,j5 ρf=frz it' (j5 ρ)/\((Jm it' (j5 ρ)=aa/\ρf=ρ)\/(Jm it' (j5 ρ)=ae/\∃i a l,ρ[i]?=a8 (.own a l)/\ρf=ρ.set i (.val (.lst l)))):=by
  by_cases z:Jm it' (j5 ρ)=ae
  .unfold Jm at z;split at z
   .rename_i i ei;split at z
    .rename_i l e;obtain⟨a,q⟩:=Qu e;refine⟨ρ.set i (.val (.lst l)),?_,.inr ⟨?_,i,a,l,q,rfl⟩⟩
     .rw[jo];simp only[frz,ei,e,Sl.abs]
     .simp only[Jm,ei,e]
    .cases z
   .cases z
  .have z':Jm it' (j5 ρ)=aa:=by simpa using z
   refine⟨ρ,?_,.inl ⟨z',rfl⟩⟩;unfold frz;split
   .rename_i i ei;split
    .rename_i l e;simp only[Jm,ei,e]at z';cases z'
    .rfl
   .rfl
 obtain⟨ρf,ef,fr⟩:=fr;rw[jhb]at h;rw[<-ef]at h;split at h
 .rename_i ds hds;split at h
  .rename_i hz;obtain⟨hfree,hlen⟩:=hz;generalize hf:(λd=>_:D->Option (Option D))=f at h;cases hl:Qc f ds with
   |none=>rw[hl]at h;cases h
   |some l =>
    rw[hl]at h;have h:(if (Jm it' (j5 ρ) && !za l)=ae then af else a8 (W.v (.o l)))=a8 (.v r):=h;by_cases zz:(Jm it' (j5 ρ) && !za l)=ae
    .rw[if_pos zz]at h;cases h
    .rw[if_neg zz]at h;cases h;obtain⟨el,hmem⟩:=Ni hl;have hun:∀j∈is,ρf[j]?=a8 .un:=λj hj=>by
      have:=T6.mp hfree j hj;split at this
      .rename_i e;exact Dv e
      .cases this
     refine⟨l,ρf,ds,_,_,rfl,el,?_,hit ρf ds hds,hun,zj hlen,λC s H fp pn d hd=>?_⟩
     .rcases fr with ⟨_,e⟩|⟨e1,i,a,l',hk,e⟩
      .exact .inl e
      .exact .inr ⟨by rw[e1]at zz;simpa using zz,i,a,l',hk,e⟩
     ·
      obtain⟨o,ho⟩:=hmem d hd;rw[<-hf]at ho ⊢;dsimp only at ho ⊢;cases hb2:qz is d (j5 ρf) with
      |none=>rw[hb2]at ho;cases ho
      |some ρ2 =>
       obtain⟨ρ',e',wk,ow,dg⟩:=hb ρf d ρ2 hb2 hun;subst e';refine⟨ρ',dg C s H fp pn,wk,ow,?_⟩;rw[hb2]at ho;dsimp only at ho ⊢;cases hcv:ev Γ G c' (j5 ρ') with
       |none=>rw[hcv]at ho;cases ho
       |some w =>
        rw[hcv]at ho;split at ho
        .rename_i hw;cases hw;cases hev:ev Γ G elt' (j5 ρ') with
         |none=>rw[hev]at ho;cases ho
         |some w =>
          rw[hev]at ho;cases w with
          |i _=>cases ho
          |a _=>cases ho
          |v x =>
           dsimp only at ho ⊢;cases hst:x.st with
           |none=>rw[hst]at ho;cases ho
           |some y =>simp only[hst,kg,jV,fN,Te];exact⟨((hc C s H fp pn ρ').1 hcv),λ_=>(he C s H fp pn ρ' x hev).toE hst⟩
        .rename_i y hw;cases hw;split at ho
         .rename_i e1;cases hev:ev Γ G elt' (j5 ρ') with
          |none=>rw[hev]at ho;cases ho
          |some w =>
           rw[hev]at ho;cases w with
           |i _=>cases ho
           |a _=>cases ho
           |v x =>
            dsimp only at ho ⊢;cases hst:x.st with
            |none=>rw[hst]at ho;cases ho
            |some z =>simp only[e1,hst,kg,jV,fN,Te];exact⟨(hc C s H fp pn ρ').2 y ae hcv e1,λ_=>(he C s H fp pn ρ' x hev).toE hst⟩
         .rename_i e1;simp only[e1,Option.join,lD];exact⟨(hc C s H fp pn ρ').2 y aa hcv e1,λz=>by cases z⟩
         .cases ho
        .cases ho
  .cases h
 .cases h
def Nh{is:List Nat}{elt' it' c':Ex}{elt it tg:au}{ifs:List au}{scope:bH}{p:aO}{ρ:Rho}{r:Rk}(hq:X.calm=ae)(hX:Cok X G)
  (hit:∀ρ ds,ev Γ G it' (j5 ρ)=a8 (.i ds)->DI X ρ tg it ds) (hkind:scope.kind=.function) (hok:v7 scope X.env X.N is=ae) (hs:∀x,aI it X.env x=pure x)
  (hb:∀ρ d ρ2,qz is d (j5 ρ)=a8 ρ2->(∀j∈is,ρ[j]?=a8 .un)->∃ρ',j5 ρ'=ρ2/\Wk ρ' ρ/\owns ρ'=owns ρ/\∀C s H fp pn,DG (cCx X scope C s H fp pn) ρ tg d ρ')
  (he:∀C s H fp pn ρ r,ev Γ G elt' (j5 ρ)=a8 (.v r)->Has (cCx X scope C s H fp pn) ρ elt r)
  (hc:∀C s H fp pn ρ,(ev Γ G c' (j5 ρ)=a8 (.a [])->DTs (cCx X scope C s H fp pn) ρ ifs ae)/\∀y k,ev Γ G c' (j5 ρ)=a8 (.a [y])->y.d=.bl k->DTs (cCx X scope C s H fp pn) ρ ifs k)
  (h:ev Γ G (.comp is elt' it' c') (j5 ρ)=a8 (.v r)):∃l,r=.o l/\DO X ρ (.ListComp elt [⟨tg,it,ifs,0⟩] scope p) l:=by
 obtain⟨l,ρf,ds,pr,g,er,el,hf,hi,hun,hz,hb'⟩:=Ug hit hb he hc h;refine⟨l,er,?_⟩;have main:DO X ρf (.ListComp elt [⟨tg,it,ifs,0⟩] scope p) ((ds.filter pr).map g):=DO.comp is _ _ hi hb' hun hz hq hkind hok hs;rw[<-el]at main;rcases hf with e|⟨hn,i,a,l',hk,e⟩
 .subst e;exact main
 .subst e;exact DO.unfrz hk main hn
end
section
variable{X:Cx}{ρ:Rho}{a b e:au}{es:List au}{d:D}{pos p:aO}
def Has.map(h:∀σ H Q,Jo X a σ H Q->Jo X e σ H Q):∀{r:Rk},Has X ρ a r->Has X ρ e r
 |.e _,q=>λσ H Q R z=>h σ H Q (q σ H Q R z)
 |.o _,q=>λσ H Q R z=>h σ H Q (q σ H Q R z)
 |.w _,q=>λσ H Q R z=>h σ H Q (q σ H Q R z)
 |.t _,q=>λσ H Q R z=>h σ H Q (q σ H Q R z)
theorem Has.bl{r:Rk}{k:Bool}(h:Has X ρ a r)(e:r.d=.bl k):DE X ρ a (.bl k):=DT.toE (e▸h.toT)
def Q5{f:Bf}{rs:List Rk}{r:Rk}{p2:aO}{G:ar->Option D}(c:Cok X G)(hq:f=.min\/f=.all\/f=.sum\/f=.any\/f=.max->X.calm=ae)(hg:Gl X f.name)(h:Zu f rs=a8 r)(ha:HasA X ρ es rs):Has X ρ (.Call (.Name f.name p) es [] p2) r:=by
 have one:∀{x:Rk},HasA X ρ es [x]->∃e,es=[e]/\Has X ρ e x/\ah [e] X.env=[(aa,aD e X.env)]:=λ{x} h=>by cases h with|cons hs h t=>cases t;exact⟨_,rfl,h,hs⟩
 have two:∀{x y:Rk},HasA X ρ es [x,y]->∃e f,es=[e,f]/\Has X ρ e x/\Has X ρ f y/\ah [e,f] X.env=(aa,aD e X.env)::ah [f] X.env/\ah [f] X.env=[(aa,aD f X.env)]:=λ{x y} h=>by cases h with|cons hs h t=>cases t with|cons hs2 h2 t2=>cases t2;exact⟨_,_,rfl,h,h2,hs,hs2⟩
 unfold Zu at h;split at h
 .rename_i x;obtain⟨e,ee,hx,hs⟩:=one ha;subst ee;split at h
  .rename_i l el;cases h;exact DE.lenL (el▸hx.toT) (c.bt _ (by decide)) hg hs
  .rename_i l el;cases h;exact DE.lenT (el▸hx.toT) (c.bt _ (by decide)) hg hs
  .rename_i ks ds el;cases h;exact DE.lenD (el▸hx.toT) (c.bt _ (by decide)) hg hs
  .rename_i y el;obtain⟨z,q⟩:=jq h;subst q;exact DE.lenS (el▸hx.toT) (zj z) (c.bt _ (by decide)) hg hs
  .cases h
 .rename_i x y;obtain⟨e,f,ee,hx,hy,hs,hs2⟩:=two ha;subst ee;split at h
  .rename_i i j ei ej;cases h;exact DE.min (ei▸hx.toT) (ej▸hy.toT) (c.bt _ (by decide)) (hq (.inl rfl)) hg hs hs2 (by rw[hs2];rfl)
  .cases h
 .rename_i x y;obtain⟨e,f,ee,hx,hy,hs,hs2⟩:=two ha;subst ee;split at h
  .rename_i i j ei ej;cases h;exact DE.max2 (ei▸hx.toT) (ej▸hy.toT) (c.bt _ (by decide)) (hq (.inr (.inr (.inr (.inr rfl))))) hg hs hs2 (by rw[hs2];rfl)
  .cases h
 .rename_i x;obtain⟨e,ee,hx,hs⟩:=one ha;subst ee;split at h
  .rename_i l el;split at h
   .rename_i ns en;obtain⟨z,q⟩:=jq h;cases q;have:=vh en;subst this;exact DE.maxL (el▸hx.toT) (λz'=>by subst z';simp at z) (c.bt _ (by decide)) (hq (.inr (.inr (.inr (.inr rfl))))) hg hs
   .cases h
  .cases h
 .rename_i x;obtain⟨e,ee,hx,hs⟩:=one ha;subst ee;split at h
  .rename_i l el;split at h
   .rename_i ns en;obtain⟨z,q⟩:=jq h;cases q;have:=vh en;subst this;exact DE.minL (el▸hx.toT) (λz'=>by subst z';simp at z) (c.bt _ (by decide)) (hq (.inl rfl)) hg hs
   .cases h
  .cases h
 .rename_i x;obtain⟨e,ee,hx,hs⟩:=one ha;subst ee;split at h
  .rename_i l el;cases q:boolsOf l with
   |none=>rw[q]at h;cases h
   |some bs =>rw[q]at h;cases h;have:=Wj q;subst this;exact DE.all (el▸hx.toT) (c.bt _ (by decide)) (hq (.inr (.inl rfl))) hg hs
  .cases h
 .rename_i x;obtain⟨e,ee,hx,hs⟩:=one ha;subst ee;split at h
  .rename_i l el;cases q:boolsOf l with
   |none=>rw[q]at h;cases h
   |some bs =>rw[q]at h;cases h;have:=Wj q;subst this;exact DE.any (el▸hx.toT) (c.bt _ (by decide)) (hq (.inr (.inr (.inr (.inl rfl))))) hg hs
  .cases h
 .rename_i x;obtain⟨e,ee,hx,hs⟩:=one ha;subst ee;split at h
  .rename_i s l el;cases h;exact DE.tupM (hx.toM el) (c.bt _ (by decide)) hg hs
  .cases h
 .rename_i x;obtain⟨e,ee,hx,hs⟩:=one ha;subst ee;split at h
  .rename_i s l el;cases h;exact DO.listM (hx.toM el) (c.bt _ (by decide)) hg hs
  .cases h
 .rename_i x;obtain⟨e,ee,hx,hs⟩:=one ha;subst ee;split at h
  .rename_i l el;cases q:intsOf l with
   |none=>rw[q]at h;cases h
   |some ns =>rw[q]at h;cases h;have:=vh q;subst this;exact DE.sum ae (show DT X ρ e (.lst (ns.map D.int))from el▸hx.toT) (c.bt _ (by decide)) (hq (.inr (.inr (.inl rfl)))) hg hs
  .rename_i l el;cases q:intsOf l with
   |none=>rw[q]at h;cases h
   |some ns =>rw[q]at h;cases h;have:=vh q;subst this;exact DE.sum aa (show DT X ρ e (.tup (ns.map D.int))from el▸hx.toT) (c.bt _ (by decide)) (hq (.inr (.inr (.inl rfl)))) hg hs
  .cases h
 .rename_i x;obtain⟨e,ee,hx,hs⟩:=one ha;subst ee;split at h
  .rename_i k el;cases h;exact DE.int1 (el▸hx.toT) (c.bt _ (by decide)) hg hs
  .rename_i y el;split at h
   .rename_i hl;obtain⟨n,hn,rfl⟩:=Xv.mp h;exact DE.intS (el▸hx.toT) hn hl (c.bt _ (by decide)) hg hs
   .cases h
  .cases h
 .cases h
end
section
variable{Γ:ar->List D->Rc}{G:ar->Option D}{X:Cx}
def jac{d:D}{ns:zo}(h:tupI d=a8 ns):d=.tup (ns.map D.int):=by
 unfold tupI at h;split at h
 .rw[vh h]
 .cases h
def j3h {ρ:Rho} {f:ar} {e:au} {es:List au} {rs:List Rk} {r:Rk} {p p2:aO} (g:Gok X Γ) (hg:Gl X f) (hdb:(f==k8z)=aa) (he:ah (e::es) X.env=(aa,aD e X.env)::ah es X.env)
  (hpl:(aU p2 (ah es X.env)).any (·.1)=aa) (ha:HasA X ρ (e::es) rs)
  (h:(match zu rs with|some ds=>(Γ f ds).rk.map W.v|none=>match Γ f (rs.map Rk.d)with|.val d=>a8 (.v (.t d))|.fresh l=>if za l=ae then a8 (.v (.o l))else af|_=>af)=a8 (.v r)):Has X ρ (.Call (.Name f p) (e::es) [] p2) r:=by
 split at h
 .rename_i ds hds;have q:=g f ds;cases z:Γ f ds with
  |val d=>rw[z]at h q;cases h;exact DE.call q (ha.toA hds) ⟨rfl,rfl⟩ hg hdb he hpl
  |fresh l=>rw[z]at h q;cases h;exact DO.call q (ha.toA hds) ⟨rfl,rfl⟩ hg hdb he hpl
  |err x=>rw[z]at h;cases h
  |lval d=>rw[z]at h;cases h
  |mval d k=>rw[z]at h;cases h
  |merr x=>rw[z]at h;cases h
  |dval d ks ns=>rw[z]at h;cases h
  |hnd sp=>rw[z]at h;cases h
  |no=>rw[z]at h;cases h
 .have q:=g f (rs.map Rk.d);split at h
  .rename_i d z;rw[z]at q;cases h;exact DT.call q ha.toT ⟨rfl,rfl⟩ hg hdb he hpl
  .rename_i l z;rw[z]at q;obtain⟨hn,e1⟩:=jq h;cases e1;exact DO.callT q ha.toT ⟨rfl,rfl⟩ hn hg hdb he hpl
  .cases h
theorem Vu:∀{ρ:Rho},noOwn (j5 ρ)=ae->owns ρ=[]
 |[],_=>rfl
 |.un::ρ,h=>Vu (ρ:=ρ) h
 |.val _::ρ,h=>Vu (ρ:=ρ) h
 |.own _ _::ρ,h=>by cases h
 |.raw _ _ _::ρ,h=>Vu (ρ:=ρ) h
def jcp{a b:Option W}{r:W}(h:Ou a b=a8 r):∃(x y:Rk)(k:zo)(ks:List zo) (vs:List D),a=a8 (.v x)/\b=a8 (.v y)/\x.d=.tup (k.map D.int)/\y.d=.dct ks vs/\r=.v (.e (.bl (ks.contains k))):=by
 unfold Ou at h;split at h
 .rename_i x y;split at h
  .rename_i l ks vs el ek;cases q:intsOf l with
   |none=>rw[q]at h;cases h
   |some k =>rw[q]at h;cases h;have:=vh q;subst this;exact⟨x,y,k,ks,vs,rfl,rfl,el,ek,rfl⟩
  .cases h
 .cases h
end
def XM(X:Cx)(ρ:Rho)(y:ar):Nd->Prop
 |.e e=>DX X ρ e y
 |.a es=>DXA X ρ es y
 |_=>True
structure Tr(X:Cx)(t:Ex)(nd:Nd):Prop where
 m:∀(Γ:ar->List D->Rc)(G:ar->Option D),Cok X G->Gok X Γ->jhj Γ G X t nd
 x:∀(Γ:ar->List D->Rc)(G:ar->Option D),Cok X G->Gok X Γ->∀ρ y,er Γ G t (j5 ρ)=a8 y->XM X ρ y nd
theorem Tr.int:∀{X:Cx}{i:Int}{n:Nat}{p:aO},Tr X (.lit (.int i)) (.e (.Constant (.int i) n p)):=by intro _ _ _ _;refine⟨λΓ G=>?_,λ_ _ _ _ _ _ h=>nomatch h⟩;intro _ _ ρ r h;simp only[j3m]at h;cases h;exact DE.int
theorem Tr.bl:∀{X:Cx}{b:Bool}{n:Nat}{p:aO},Tr X (.lit (.bl b)) (.e (.Constant (.bool b) n p)):=by intro _ _ _ _;refine⟨λΓ G=>?_,λ_ _ _ _ _ _ h=>nomatch h⟩;intro _ _ ρ r h;simp only[j3m]at h;cases h;exact DE.bl
theorem Tr.str:∀{X:Cx}{y:ar}{n:Nat}{p:aO},Tr X (.lit (.str y)) (.e (.Constant (.str y) n p)):=by intro _ _ _ _;refine⟨λΓ G=>?_,λ_ _ _ _ _ _ h=>nomatch h⟩;intro _ _ ρ r h;simp only[j3m]at h;cases h;exact DE.str
theorem Tr.var:∀{X:Cx}{k:Nat}{x:ar}{p:aO}(hN:X.N[k]?=a8 x) (hv:Vis X.env.scope x) (hd:(x==k8z)=aa) (hcd:(x==k90)=aa),Tr X (.var k) (.e (.Name x p)):=by
 intro _ _ _ _ hN hv hd hcd;refine⟨λΓ G=>?_,λ_ _ _ _ _ _ h=>nomatch h⟩;intro _ _ ρ r h;simp only[jji,Nr]at h;split at h
 .rename_i e;cases h;exact DE.var _ (Wo e) hN hv hd hcd
 .rename_i e;cases h;obtain⟨a,q⟩:=Qu e;exact DL.var _ q hN hv hd hcd
 .cases h
theorem Tr.glob:∀{X:Cx}{x:ar}{p:aO}(hg:Gl X x)(hd:(x==k8z)=aa) (hb:Vj x=aa),Tr X (.glob x) (.e (.Name x p)):=by
 intro _ _ _ hg hd hb;refine⟨λΓ G=>?_,λ_ _ _ _ _ _ h=>nomatch h⟩;rename_i X x p;intro c _ ρ r h;simp only[jh8]at h;cases e:G x with
 |none=>rw[e]at h;cases h
 |some d=>rw[e]at h;cases h;obtain⟨u,v,hm,r,q⟩:=c.gl x d hb e;exact DE.glob hg hm r q hd
theorem Tr.bin:∀{X:Cx}{op:Bop}{a' b':Ex}{a b:au}{p:aO},Tr X a' (.e a)->Tr X b' (.e b)->Tr X (.bin op a' b') (.e (.BinOp a op.op b p)):=by
 intro _ _ _ _ _ _ _ q0 q1;refine⟨λΓ G=>?_,λ_ _ _ _ _ _ h=>nomatch h⟩;have iha:=q0.m Γ G;have ihb:=q1.m Γ G;intro c g ρ r h;simp only[jjq,Zv]at h;split at h
 .rename_i x y ex ey;cases e:Wl _ x y with
  |none=>rw[e]at h;cases h
  |some z=>rw[e]at h;cases h;exact j63 e (iha c g ρ x ex) (ihb c g ρ y ey)
 .cases h
theorem Tr.neg:∀{X:Cx}{a':Ex}{a:au}{p:aO},Tr X a' (.e a)->Tr X (.neg a') (.e (.UnaryOp .USub a p)):=by
 intro _ _ _ _ q0;refine⟨λΓ G=>?_,λ_ _ _ _ _ _ h=>nomatch h⟩;have iha:=q0.m Γ G;intro c g ρ r h;simp only[jjm,El]at h;split at h
 .rename_i x ex;split at h
  .rename_i i e;cases h;exact DE.neg (e▸(iha c g ρ x ex).toT)
  .cases h
 .cases h
theorem Tr.cmp:∀{X:Cx}{op:Cop}{a' b':Ex}{a b:au}{p:aO}(hm:aG op.op b=aa),Tr X a' (.e a)->Tr X b' (.e b)->Tr X (.cmp op a' b') (.e (.Compare a [op.op] [b] p)):=by
 intro _ _ _ _ _ _ _ hm q0 q1;refine⟨λΓ G=>?_,λ_ _ _ _ _ _ h=>nomatch h⟩;have iha:=q0.m Γ G;have ihb:=q1.m Γ G;intro c g ρ r h;simp only[ja2,Do]at h;split at h
 .rename_i x y ex ey;cases e:Qj _ x.d y.d with
  |none=>rw[e]at h;cases h
  |some z=>rw[e]at h;cases h;exact(Le c.un' e (iha c g ρ x ex).toT (ihb c g ρ y ey).toT hm).1
 .cases h
def Tr.bcmp:∀{X:Cx}{op:Cop}{a' b':Ex}{a b:au}{p:aO}(hm:aG op.op b=aa),Tr X a' (.e a)->Tr X b' (.e b)->Tr X (.cmp op a' b') (.b (.Compare a [op.op] [b] p)):=by
 intro _ _ _ _ _ _ _ hm q0 q1;refine⟨λΓ G=>?_,λ_ _ _ _ _ _ _=>trivial⟩;have iha:=q0.m Γ G;have ihb:=q1.m Γ G;intro c g ρ k h;obtain⟨r,h,hk⟩:=zy h;simp only[ja2,Do]at h;split at h
 .rename_i x y ex ey;cases e:Qj _ x.d y.d with
  |none=>rw[e]at h;cases h
  |some z=>rw[e]at h;cases h;cases hk;exact(Le c.un' e (iha c g ρ x ex).toT (ihb c g ρ y ey).toT hm).2
 .cases h
theorem Tr.isN:∀{X:Cx}{a':Ex}{a:au}{n:Nat}{p p2:aO},Tr X a' (.e a)->Tr X (.isN a') (.e (.Compare a [.Is] [.Constant .none n p2] p)):=by
 intro _ _ _ _ _ _ q0;refine⟨λΓ G=>?_,λ_ _ _ _ _ _ h=>nomatch h⟩;have iha:=q0.m Γ G;intro c g ρ r h;simp only[ja1]at h;split at h
 .rename_i x ex;cases h;exact DE.isN (iha c g ρ x ex).toT
 .cases h
def Tr.bisN:∀{X:Cx}{a':Ex}{a:au}{n:Nat}{p p2:aO},Tr X a' (.e a)->Tr X (.isN a') (.b (.Compare a [.Is] [.Constant .none n p2] p)):=by
 intro _ _ _ _ _ _ q0;refine⟨λΓ G=>?_,λ_ _ _ _ _ _ _=>trivial⟩;have iha:=q0.m Γ G;intro c g ρ k h;obtain⟨r,h,hk⟩:=zy h;simp only[ja1]at h;split at h
 .rename_i x ex;cases h;cases hk;exact DB.isN (iha c g ρ x ex).toT
 .cases h
def Tr.one:∀{X:Cx}{a':Ex}{a:au}{op:BoolOp}{p:aO},Tr X a' (.e a)->Tr X a' (.e (.BoolOp op [a] p)):=by intro _ _ _ _ _ q0;refine⟨λΓ G=>?_,λΓ G c g ρ y h σ H Q R k=>(j4h peS).to (q0.x Γ G c g ρ y h σ H Q R k)⟩;have iha:=q0.m Γ G;intro c g ρ r h;exact Has.map (λσ H Q q=>(j4h peS).to q) (iha c g ρ r h)
theorem Tr.and:∀{X:Cx}{a' t':Ex}{a b:au}{rest:List au}{p:aO},Tr X a' (.e a)->Tr X t' (.e (.BoolOp .And (b::rest) p))->Tr X (.and a' t') (.e (.BoolOp .And (a::b::rest) p)):=by
 intro _ _ _ _ _ _ _ q0 q1;refine⟨λΓ G=>?_,λ_ _ _ _ _ _ h=>nomatch h⟩;have iha:=q0.m Γ G;have ihb:=q1.m Γ G;intro c g ρ r h;simp only[ja3]at h;split at h
 .rename_i e;cases h;obtain⟨x,ex,ed⟩:=zy e;exact(DE.and (m:=aa) ((iha c g ρ x ex).bl ed).toT λz=>by cases z)
 .rename_i e;obtain⟨x,ex,ed⟩:=zy e;cases e2:truth (ev Γ G _ (j5 ρ)) with
  |none=>rw[e2]at h;cases h
  |some k =>rw[e2]at h;cases h;obtain⟨y,ey,fd⟩:=zy e2;exact(DE.and ((iha c g ρ x ex).bl ed).toT λ_=>(ihb c g ρ y ey).bl fd).eq (by simp)
 .cases h
theorem Tr.or:∀{X:Cx}{a' t':Ex}{a b:au}{rest:List au}{p:aO},Tr X a' (.e a)->Tr X t' (.e (.BoolOp .Or (b::rest) p))->Tr X (.or a' t') (.e (.BoolOp .Or (a::b::rest) p)):=by
 intro _ _ _ _ _ _ _ q0 q1;refine⟨λΓ G=>?_,λ_ _ _ _ _ _ h=>nomatch h⟩;have iha:=q0.m Γ G;have ihb:=q1.m Γ G;intro c g ρ r h;simp only[jh4]at h;split at h
 .rename_i e;cases h;obtain⟨x,ex,ed⟩:=zy e;exact(DE.or (m:=aa) ((iha c g ρ x ex).bl ed).toT λz=>by cases z)
 .rename_i e;obtain⟨x,ex,ed⟩:=zy e;cases e2:truth (ev Γ G _ (j5 ρ)) with
  |none=>rw[e2]at h;cases h
  |some k =>rw[e2]at h;cases h;obtain⟨y,ey,fd⟩:=zy e2;exact(DE.or ((iha c g ρ x ex).bl ed).toT λ_=>(ihb c g ρ y ey).bl fd).eq (by simp)
 .cases h
def Tr.wand1:∀{X:Cx}{a':Ex}{a:au}{p:aO},Tr X a' (.b a)->Tr X a' (.w (.BoolOp .And [a] p)):=by intro _ _ _ _ q0;refine⟨λΓ G=>?_,λ_ _ _ _ _ _ _=>trivial⟩;have iha:=q0.m Γ G;intro c g ρ k h;exact DW.and1 (iha c g ρ k h)
def Tr.wor1:∀{X:Cx}{a':Ex}{a:au}{p:aO},Tr X a' (.b a)->Tr X a' (.w (.BoolOp .Or [a] p)):=by intro _ _ _ _ q0;refine⟨λΓ G=>?_,λ_ _ _ _ _ _ _=>trivial⟩;have iha:=q0.m Γ G;intro c g ρ k h;exact DW.or1 (iha c g ρ k h)
def Tr.wand:∀{X:Cx}{a' t':Ex}{a b:au}{rest:List au}{p:aO},Tr X a' (.b a)->Tr X t' (.w (.BoolOp .And (b::rest) p))->Tr X (.and a' t') (.w (.BoolOp .And (a::b::rest) p)):=by
 intro _ _ _ _ _ _ _ q0 q1;refine⟨λΓ G=>?_,λ_ _ _ _ _ _ _=>trivial⟩;have iha:=q0.m Γ G;have ihb:=q1.m Γ G;intro c g ρ k h;obtain⟨r,h,hk⟩:=zy h;simp only[ja3]at h;split at h
 .rename_i e;cases h;cases hk;exact DW.and (m:=aa) (iha c g ρ aa e) λz=>by cases z
 .rename_i e;cases e2:truth (ev Γ G _ (j5 ρ)) with
  |none=>rw[e2]at h;cases h
  |some m =>rw[e2]at h;cases h;cases hk;have q:=DW.and (iha c g ρ ae e) λ_=>ihb c g ρ _ e2;rw[lE]at q;exact q
 .cases h
def Tr.wor:∀{X:Cx}{a' t':Ex}{a b:au}{rest:List au}{p:aO},Tr X a' (.b a)->Tr X t' (.w (.BoolOp .Or (b::rest) p))->Tr X (.or a' t') (.w (.BoolOp .Or (a::b::rest) p)):=by
 intro _ _ _ _ _ _ _ q0 q1;refine⟨λΓ G=>?_,λ_ _ _ _ _ _ _=>trivial⟩;have iha:=q0.m Γ G;have ihb:=q1.m Γ G;intro c g ρ k h;obtain⟨r,h,hk⟩:=zy h;simp only[jh4]at h;split at h
 .rename_i e;cases h;cases hk;exact DW.or (m:=aa) (iha c g ρ ae e) λz=>by cases z
 .rename_i e;cases e2:truth (ev Γ G _ (j5 ρ)) with
  |none=>rw[e2]at h;cases h
  |some m =>rw[e2]at h;cases h;cases hk;have q:=DW.or (iha c g ρ aa e) λ_=>ihb c g ρ _ e2;rw[lG]at q;exact q
 .cases h
def Tr.bw:∀{X:Cx}{a':Ex}{op:BoolOp}{es:List au}{p:aO},Tr X a' (.w (.BoolOp op es p))->Tr X a' (.b (.BoolOp op es p)):=by intro _ _ _ _ _ q0;refine⟨λΓ G=>?_,λ_ _ _ _ _ _ _=>trivial⟩;have iha:=q0.m Γ G;intro c g ρ k h;exact DW.toB (iha c g ρ k h)
def Tr.bnot:∀{X:Cx}{a':Ex}{a:au}{p:aO},Tr X a' (.b a)->Tr X (.not a') (.b (.UnaryOp .Not a p)):=by
 intro _ _ _ _ q0;refine⟨λΓ G=>?_,λ_ _ _ _ _ _ _=>trivial⟩;have iha:=q0.m Γ G;intro c g ρ k h;obtain⟨r,h,hk⟩:=zy h;simp only[j9z]at h;cases e:truth (ev Γ G _ (j5 ρ)) with
 |none=>rw[e]at h;cases h
 |some m=>rw[e]at h;cases h;cases hk;exact DB.not (iha c g ρ m e)
def Tr.bval:∀{X:Cx}{a':Ex}{a:au}(he:∀whole,i4 a X.env whole=(do let v <-whole;eS a.pos;gw [v] (truthy v))),Tr X a' (.e a)->Tr X a' (.b a):=by intro _ _ _ he q0;refine⟨λΓ G=>?_,λ_ _ _ _ _ _ _=>trivial⟩;have iha:=q0.m Γ G;intro c g ρ k h;obtain⟨r,h,hk⟩:=zy h;exact DB.val ((iha c g ρ r h).bl hk).toT he
theorem Tr.ite:∀{X:Cx}{c' a' b':Ex}{c a b:au}{p:aO},Tr X c' (.b c)->Tr X a' (.e a)->Tr X b' (.e b)->Tr X (.ite c' a' b') (.e (.IfExp c a b p)):=by
 intro _ _ _ _ _ _ _ _ q0 q1 q2;refine⟨λΓ G=>?_,λ_ _ _ _ _ _ h=>nomatch h⟩;have ihc:=q0.m Γ G;have iha:=q1.m Γ G;have ihb:=q2.m Γ G;intro c g ρ r h;simp only[jjo]at h;split at h
 .rename_i e;split at h
  .rename_i x ex;cases es:x.st with
   |none=>rw[es]at h;cases h
   |some d=>rw[es]at h;cases h;exact(DE.ite (d':=d) (ihc c g ρ ae e) (λ_=>(iha c g ρ x ex).toE es) λz=>by cases z).eq (by simp)
  .cases h
 .rename_i e;split at h
  .rename_i x ex;cases es:x.st with
   |none=>rw[es]at h;cases h
   |some d=>rw[es]at h;cases h;exact(DE.ite (d:=d) (ihc c g ρ aa e) (λz=>by cases z) λ_=>(ihb c g ρ x ex).toE es).eq (by simp)
  .cases h
 .cases h
theorem Tr.nil:∀{X:Cx},Tr X .nil (.a []):=by intro _;refine⟨λΓ G=>?_,λ_ _ _ _ _ _ h=>nomatch h⟩;intro c g ρ rs h;simp only[Mu]at h;cases h;exact .nil
theorem Tr.cons:∀{X:Cx}{a' b':Ex}{a:au}{es:List au}(hs:ah (a::es) X.env=(aa,aD a X.env)::ah es X.env),Tr X a' (.e a)->Tr X b' (.a es)->Tr X (.cons a' b') (.a (a::es)):=by
 intro _ _ _ _ _ hs q0 q1;refine⟨λΓ G=>?_,λΓ G=>?_⟩
 .have iha:=q0.m Γ G;have ihb:=q1.m Γ G;intro c g ρ rs h;simp only[Nm,consW]at h;split at h
  .rename_i x xs ex exs;cases h;exact .cons hs (iha c g ρ x ex) (ihb c g ρ xs exs)
  .cases h
 .skip
  intro c g ρ y h;rw[er]at h;split at h
  .rename_i x ex;cases h;exact DXA.head (q0.x Γ G c g ρ _ ex) hs
  split at h
  .rename_i r ez;exact DXA.tail (q0.m Γ G c g ρ r ez).toT (q1.x Γ G c g ρ y h) hs
  .cases h
theorem Tr.tup:∀{X:Cx}{es':Ex}{es:List au}{n:Nat}{p:aO},Tr X es' (.a es)->Tr X (.tup es') (.e (.Tuple es n p)):=by
 intro _ _ _ _ _ q0;refine⟨λΓ G=>?_,λ_ _ _ _ _ _ h=>nomatch h⟩;have iha:=q0.m Γ G;intro c g ρ r h;simp only[jjj,U9]at h;split at h
 .rename_i rs ers;split at h
  .rename_i ds hds;obtain⟨z,q⟩:=jq h;cases q;exact DE.tup (n:=0) ((iha c g ρ rs ers).toA hds) (zj z)
  .cases h
 .cases h
theorem Tr.lst:∀{X:Cx}{es':Ex}{es:List au}{p:aO},Tr X es' (.a es)->Tr X (.lst es') (.e (.List es p)):=by
 intro _ _ _ _ q0;refine⟨λΓ G=>?_,λ_ _ _ _ _ _ h=>nomatch h⟩;have iha:=q0.m Γ G;intro c g ρ r h;simp only[jjn,Zn]at h;split at h
 .rename_i rs ers;split at h
  .rename_i ds hds;obtain⟨z,q⟩:=jq h;cases q;exact DO.lst ((iha c g ρ rs ers).toA hds) (zj z)
  .cases h
 .cases h
theorem Tr.ix:∀{X:Cx}{a' b':Ex}{a b:au}{p:aO}(hs:Jz b),Tr X a' (.e a)->Tr X b' (.e b)->Tr X (.ix a' b') (.e (.Subscript a b p)):=by
 intro _ _ _ _ _ _ hs q0 q1;refine⟨λΓ G=>?_,λΓ G c g ρ y h σ H Q R k=>(Yy Rj peS peS hs).to (q0.x Γ G c g ρ y (by rw[er]at h;exact h) σ H _ R k)⟩;have iha:=q0.m Γ G;have ihb:=q1.m Γ G;intro c g ρ r h;simp only[jla,ixW]at h;split at h
 .rename_i x y ex ey;split at h
  .rename_i s l i hx hy;cases z:atI l i with
   |none=>rw[z]at h;cases h
   |some d=>rw[z]at h;cases h;exact DE.ixM ((iha c g ρ x ex).toM hx) (hy▸(ihb c g ρ y ey).toT) z hs
  .rename_i i hx hy;split at h
   .rename_i y' ed;split at h
    .rename_i hl;cases z:atI y'.cps.toList i with
     |none=>rw[z]at h;cases h
     |some d=>rw[z]at h;cases h;exact DE.ixC (ed▸(iha c g ρ x ex).toT) (hy▸(ihb c g ρ y ey).toT) (zj hl) z hs
    .cases h
   .cases h
  .cases h
 .cases h
def Tr.oN:∀{X:Cx},Tr X .nil (.o af):=by intro _;refine⟨λΓ G=>?_,λ_ _ _ _ _ _ _=>trivial⟩;intro c g ρ o h;simp only[Mu,Qt]at h;cases h;exact DP.none
def Tr.oS:∀{X:Cx}{a':Ex}{a:au},Tr X a' (.e a)->Tr X (.cons a' .nil) (.o (a8 a)):=by
 intro _ _ _ q0;refine⟨λΓ G=>?_,λ_ _ _ _ _ _ _=>trivial⟩;have iha:=q0.m Γ G;intro c g ρ o h;simp only[Nm,Mu,consW]at h;split at h
 .rename_i x xs ex exs;cases exs;simp only[Qt]at h;split at h
  .rename_i i ei;cases h;exact DP.some (ei▸(iha c g ρ x ex).toT)
  .cases h
 .cases h
theorem Tr.sl:∀{X:Cx}{a' l' h':Ex}{a:au}{lo hi:Option au}{p p2:aO},Tr X a' (.e a)->Tr X l' (.o lo)->Tr X h' (.o hi)->Tr X (.sl a' l' h') (.e (.Subscript a (.Slice lo hi af p2) p)):=by
 intro _ _ _ _ _ _ _ _ _ q0 q1 q2;refine⟨λΓ G=>?_,λ_ _ _ _ _ _ h=>nomatch h⟩;have iha:=q0.m Γ G;have ihl:=q1.m Γ G;have ihh:=q2.m Γ G;intro c g ρ r h;simp only[jl9]at h;split at h
 .rename_i x l hh ex el eh;split at h
  .rename_i ds e;cases h;exact DO.sliceM ((iha c g ρ x ex).toM e) (ihl c g ρ l el) (ihh c g ρ hh eh)
  .rename_i ds e;split at h
   .cases h
   .rename_i z;cases h;exact DE.sliceM ((iha c g ρ x ex).toM e) (ihl c g ρ l el) (ihh c g ρ hh eh) z
  .split at h
   .rename_i y' ed;obtain⟨z,q⟩:=jq h;cases q;exact DE.sliceS (ed▸(iha c g ρ x ex).toT) (ihl c g ρ l el) (ihh c g ρ hh eh) (zj z)
   .cases h
 .cases h
theorem Tr.call:∀{X:Cx}{f:ar}{es':Ex}{e:au}{es:List au}{p p2:aO}(hg:Gl X f) (hdb:(f==k8z)=aa) (he:ah (e::es) X.env=(aa,aD e X.env)::ah es X.env) (hpl:(aU p2 (ah es X.env)).any (·.1)=aa),Tr X es' (.a (e::es))->Tr X (.call f es') (.e (.Call (.Name f p) (e::es) [] p2)):=by
 intro _ f _ _ _ _ _ hg hdb he hpl q0;refine⟨λΓ G=>?_,λΓ G=>?_⟩
 .have iha:=q0.m Γ G;intro c g ρ r h;simp only[jhc,Qd]at h;split at h
  .rename_i rs ers;exact j3h g hg hdb he hpl (iha c g ρ rs ers) h
  .cases h
 .skip
  intro c g ρ y h;rw[er]at h;split at h
  .rename_i x ex;split at h
   .rename_i hz;cases h;obtain⟨d,hd⟩:=Xz.mp hz;obtain⟨fa,hfa,hk⟩:=c.fn _ d hd;exact DX.args (q0.x Γ G c g ρ _ ex) hg hdb hfa hk he hpl
   .cases h
  split at h
  .rename_i rs ers;split at h
   .rename_i z ez;split at h
    .rename_i hz;cases h;have q:=g f (rs.map Rk.d);rw[ez]at q;obtain⟨d,hd⟩:=Xz.mp hz;obtain⟨_,o,ho⟩:=c.ec _ d hd;exact DX.call q (q0.m Γ G c g ρ rs ers).toT ⟨rfl,rfl⟩ (W.mg_of c.kin c.ns ho) hg hdb he hpl
    .cases h
   .cases h
  .cases h
theorem Tr.minD:∀{X:Cx}{a':Ex}{a:au}{n:Nat}{p p1 pk pos:aO}(hq:X.calm=ae)(hg:Gl X "min") (hs:ah [a] X.env=[(aa,aD a X.env)]),Tr X a' (.e a)->Tr X (.minD a') (.e (.Call (.Name "min" p) [a] [⟨a8 "default",.Constant (.int 0) n p1,pk⟩] pos)):=by
 intro _ _ _ _ _ _ _ _ hq hg hs q0;refine⟨λΓ G=>?_,λ_ _ _ _ _ _ h=>nomatch h⟩;have iha:=q0.m Γ G;intro c g ρ r h;simp only[jh5,M9]at h;split at h
 .rename_i x ex;split at h
  .rename_i l el;split at h
   .rename_i ns en;cases h;exact DE.minD hq (c.bt _ (by decide)) hg (by have z:=(iha c g ρ x ex).toT;rw[el,vh en]at z;exact z) hs
   .cases h
  .cases h
 .cases h
def Tr.max1:∀{X:Cx}{es':Ex}{e:au}{p p2:aO}(hq:X.calm=ae)(hg:Gl X "max"),Tr X es' (.a [e])->Tr X (.blt .max es') (.e (.Call (.Name "max" p) [e] [] p2)):=by
 intro _ _ _ _ _ hq hg q0;refine⟨λΓ G=>?_,λ_ _ _ _ _ _ h=>nomatch h⟩;have iha:=q0.m Γ G;intro c g ρ r h;simp only[U8,vo]at h;split at h
 .rename_i rs ers;cases e:Zu _ rs with
  |none=>rw[e]at h;cases h
  |some x=>rw[e]at h;cases h;exact Q5 (f:=.max) c (λ_=>hq) hg e (iha c g ρ rs ers)
 .cases h
theorem Tr.max:∀{X:Cx}{es':Ex}{e f:au}{p p2:aO}(hq:X.calm=ae)(hg:Gl X "max"),Tr X es' (.a [e,f])->Tr X (.blt .max es') (.e (.Call (.Name "max" p) [e,f] [] p2)):=by
 intro _ _ _ _ _ _ hq hg q0;refine⟨λΓ G=>?_,λ_ _ _ _ _ _ h=>nomatch h⟩;have iha:=q0.m Γ G;intro c g ρ r h;simp only[U8,vo]at h;split at h
 .rename_i rs ers;cases e:Zu _ rs with
  |none=>rw[e]at h;cases h
  |some x=>rw[e]at h;cases h;exact Q5 (f:=.max) c (λ_=>hq) hg e (iha c g ρ rs ers)
 .cases h
theorem Tr.len:∀{X:Cx}{es':Ex}{e:au}{p p2:aO}(hg:Gl X "len"),Tr X es' (.a [e])->Tr X (.blt .len es') (.e (.Call (.Name "len" p) [e] [] p2)):=by
 intro _ _ _ _ _ hg q0;refine⟨λΓ G=>?_,λ_ _ _ _ _ _ h=>nomatch h⟩;have iha:=q0.m Γ G;intro c g ρ r h;simp only[U8,vo]at h;split at h
 .rename_i rs ers;cases e:Zu _ rs with
  |none=>rw[e]at h;cases h
  |some x=>rw[e]at h;cases h;exact Q5 (f:=.len) c (λz=>by rcases z with z|z|z|z|z<;>cases z) hg e (iha c g ρ rs ers)
 .cases h
theorem Tr.tuple:∀{X:Cx}{es':Ex}{e:au}{p p2:aO}(hg:Gl X "tuple"),Tr X es' (.a [e])->Tr X (.blt .tuple es') (.e (.Call (.Name "tuple" p) [e] [] p2)):=by
 intro _ _ _ _ _ hg q0;refine⟨λΓ G=>?_,λ_ _ _ _ _ _ h=>nomatch h⟩;have iha:=q0.m Γ G;intro c g ρ r h;simp only[U8,vo]at h;split at h
 .rename_i rs ers;cases e:Zu _ rs with
  |none=>rw[e]at h;cases h
  |some x=>rw[e]at h;cases h;exact Q5 (f:=.tuple) c (λz=>by rcases z with z|z|z|z|z<;>cases z) hg e (iha c g ρ rs ers)
 .cases h
theorem Tr.min:∀{X:Cx}{es':Ex}{e f:au}{p p2:aO}(hq:X.calm=ae)(hg:Gl X "min"),Tr X es' (.a [e,f])->Tr X (.blt .min es') (.e (.Call (.Name "min" p) [e,f] [] p2)):=by
 intro _ _ _ _ _ _ hq hg q0;refine⟨λΓ G=>?_,λ_ _ _ _ _ _ h=>nomatch h⟩;have iha:=q0.m Γ G;intro c g ρ r h;simp only[U8,vo]at h;split at h
 .rename_i rs ers;cases e:Zu _ rs with
  |none=>rw[e]at h;cases h
  |some x=>rw[e]at h;cases h;exact Q5 (f:=.min) c (λ_=>hq) hg e (iha c g ρ rs ers)
 .cases h
theorem Tr.sum:∀{X:Cx}{es':Ex}{e:au}{p p2:aO}(hq:X.calm=ae)(hg:Gl X "sum"),Tr X es' (.a [e])->Tr X (.blt .sum es') (.e (.Call (.Name "sum" p) [e] [] p2)):=by
 intro _ _ _ _ _ hq hg q0;refine⟨λΓ G=>?_,λ_ _ _ _ _ _ h=>nomatch h⟩;have iha:=q0.m Γ G;intro c g ρ r h;simp only[U8,vo]at h;split at h
 .rename_i rs ers;cases e:Zu _ rs with
  |none=>rw[e]at h;cases h
  |some x=>rw[e]at h;cases h;exact Q5 (f:=.sum) c (λ_=>hq) hg e (iha c g ρ rs ers)
 .cases h
def Tr.intc:∀{X:Cx}{es':Ex}{e:au}{p p2:aO}(hg:Gl X "int"),Tr X es' (.a [e])->Tr X (.blt .int es') (.e (.Call (.Name "int" p) [e] [] p2)):=by
 intro _ _ _ _ _ hg q0;refine⟨λΓ G=>?_,λ_ _ _ _ _ _ h=>nomatch h⟩;have iha:=q0.m Γ G;intro c g ρ r h;simp only[U8,vo]at h;split at h
 .rename_i rs ers;cases e:Zu _ rs with
  |none=>rw[e]at h;cases h
  |some x=>rw[e]at h;cases h;exact Q5 (f:=.int) c (λz=>by rcases z with z|z|z|z|z<;>cases z) hg e (iha c g ρ rs ers)
 .cases h
theorem Tr.join:∀{X:Cx}{a':Ex}{a:au}{sep:ar}{n:Nat}{p0 p1 p2:aO}(hbase:aR (.Constant (.str sep) n p0) "join" X.env (aD (.Constant (.str sep) n p0) X.env)=aD (.Constant (.str sep) n p0) X.env) (hfew:((aU p2 (ah [a] X.env)).all (λx=>!x.1)&&(cC p2 (bF [] X.env)).all (λx=>x.1.isSome)&&decide (([a]:List au).length+([]:List bq).length+(if ([]:List bq).isEmpty then 0 else 1)<30))=ae) (hline:(p1.endLine==p2.line)=ae) (hs:ah [a] X.env=(aa,aD a X.env)::ah [] X.env),Tr X a' (.e a)->Tr X (.join sep a') (.e (.Call (.Attribute (.Constant (.str sep) n p0) "join" p1) [a] [] p2)):=by
 intro _ _ _ _ _ _ _ _ hbase hfew hline hs q0;refine⟨λΓ G=>?_,λ_ _ _ _ _ _ h=>nomatch h⟩;have iha:=q0.m Γ G;intro c g ρ r h;simp only[jh7,Mi]at h;split at h
 .rename_i x ex;split at h
  .rename_i l el;split at h
   .rename_i ts et;obtain⟨z,q⟩:=jq h;cases q;have:=Wu et;subst this;exact DE.join (el▸(iha c g ρ x ex).toT) z hfew hbase hline hs
   .cases h
  .cases h
 .cases h
theorem Tr.lset:∀{X:Cx}{a':Ex}{a:au}{p p1 p2 pos:aO}(hq:X.calm=ae)(hg:Gl X "len") (hg2:Gl X "set") (hs:ah [a] X.env=[(aa,aD a X.env)]) (hs2:ah [.Call (.Name "set" p1) [a] [] p2] X.env=[(aa,aD (.Call (.Name "set" p1) [a] [] p2) X.env)]),Tr X a' (.e a)->Tr X (.lset a') (.e (.Call (.Name "len" p) [.Call (.Name "set" p1) [a] [] p2] [] pos)):=by
 intro _ _ _ _ _ _ _ hq hg hg2 hs hs2 q0;refine⟨λΓ G=>?_,λ_ _ _ _ _ _ h=>nomatch h⟩;have iha:=q0.m Γ G;intro c g ρ r h;simp only[jh6,W4]at h;split at h
 .rename_i x ex;split at h
  .rename_i l el;split at h
   .rename_i ts et;obtain⟨z,q⟩:=jq h;cases q;have:=Wu et;subst this;exact DE.lenSet (el▸(iha c g ρ x ex).toT) hq (by omega) (c.bt _ (by decide)) (c.bt _ (by decide)) hg hg2 hs hs2
   .split at h
    .rename_i ts et;obtain⟨z,q⟩:=jq h;cases q;have:=vh et;subst this;exact DE.lenSetI (el▸(iha c g ρ x ex).toT) hq (by omega) (c.bt _ (by decide)) (c.bt _ (by decide)) hg hg2 hs hs2
    .cases h
  .cases h
 .cases h
theorem Tr.tix:∀{X:Cx}{a' b':Ex}{a e:au}{p1 p2:aO}(hbase:aR a "index" X.env (aD a X.env)=aD a X.env) (hfew:((aU p2 (ah [e] X.env)).all (λx=>!x.1)&&(cC p2 (bF [] X.env)).all (λx=>x.1.isSome)&&decide (([e]:List au).length+([]:List bq).length+(if ([]:List bq).isEmpty then 0 else 1)<30))=ae) (hline:(p1.endLine==p2.line)=ae) (hs:ah [e] X.env=(aa,aD e X.env)::ah [] X.env),Tr X a' (.e a)->Tr X b' (.e e)->Tr X (.tix a' b') (.e (.Call (.Attribute a "index" p1) [e] [] p2)):=by
 intro _ _ _ _ _ _ _ hbase hfew hline hs q0 q1;refine⟨λΓ G=>?_,λ_ _ _ _ _ _ h=>nomatch h⟩;have iha:=q0.m Γ G;have ihb:=q1.m Γ G;intro c g ρ r h;simp only[jjk,j6j]at h;split at h
 .rename_i x y ex ey;split at h
  .rename_i l el;by_cases z:D.depL l<=90/\y.d.dep<=90
   .rw[if_pos z]at h;cases e:ixD y.d l with
    |none=>rw[e]at h;cases h
    |some k=>rw[e]at h;cases h;exact DE.indexT c.un' (el▸(iha c g ρ x ex).toT) (ihb c g ρ y ey).toT (by omega) (by omega) e hbase hfew hline hs
   .rw[if_neg z]at h;cases h
  .rename_i l el;by_cases z:D.depL l<=90/\y.d.dep<=90
   .rw[if_pos z]at h;cases e:ixD y.d l with
    |none=>rw[e]at h;cases h
    |some k=>rw[e]at h;cases h;exact DE.indexL c.un' (el▸(iha c g ρ x ex).toT) (ihb c g ρ y ey).toT (by omega) (by omega) e hbase hfew hline hs
   .rw[if_neg z]at h;cases h
  .cases h
 .cases h
theorem Tr.any:∀{X:Cx}{es':Ex}{e:au}{p p2:aO}(hq:X.calm=ae)(hg:Gl X "any"),Tr X es' (.a [e])->Tr X (.blt .any es') (.e (.Call (.Name "any" p) [e] [] p2)):=by
 intro _ _ _ _ _ hq hg q0;refine⟨λΓ G=>?_,λ_ _ _ _ _ _ h=>nomatch h⟩;have iha:=q0.m Γ G;intro c g ρ r h;simp only[U8,vo]at h;split at h
 .rename_i rs ers;cases e:Zu _ rs with
  |none=>rw[e]at h;cases h
  |some x=>rw[e]at h;cases h;exact Q5 (f:=.any) c (λ_=>hq) hg e (iha c g ρ rs ers)
 .cases h
def Tr.bdnin:∀{X:Cx}{a' b':Ex}{a b:au}{p:aO}(hm:aG .NotIn b=aa),Tr X a' (.e a)->Tr X b' (.e b)->Tr X (.not (.din a' b')) (.b (.Compare a [.NotIn] [b] p)):=by
 intro _ _ _ _ _ _ hm q0 q1;refine⟨λΓ G=>?_,λ_ _ _ _ _ _ _=>trivial⟩;have iha:=q0.m Γ G;have ihb:=q1.m Γ G;intro c g ρ k h;obtain⟨r,h,hk⟩:=zy h;simp only[j9z,jjp]at h;cases e:truth _ with
 |none=>rw[e]at h;cases h
 |some k =>rw[e]at h;cases h;cases hk;obtain⟨z,ez,ed⟩:=zy e;obtain⟨x,y,k,ks,vs,ex,ey,el,ek,er⟩:=jcp ez;cases er;cases ed;exact DB.notinT c.un' (el▸(iha c g ρ x ex).toT) (ek▸(ihb c g ρ y ey).toT) hm
theorem Tr.enum:∀{X:Cx}{a':Ex}{a:au}{es:List au}{n:Nat}{p p2 pt:aO}(hg:Gl X "enumerate") (hs:ah [a] X.env=[(aa,aD a X.env)]),Tr X a' (.e a)->Tr X (.enum a') (.i (.Tuple es n pt) (.Call (.Name "enumerate" p) [a] [] p2)):=by
 intro _ _ _ _ _ _ _ _ hg hs q0;refine⟨λΓ G=>?_,λ_ _ _ _ _ _ _=>trivial⟩;have iha:=q0.m Γ G;intro c g ρ ds h;simp only[jh9,Mj]at h;split at h
 .rename_i x ex;have ha:=iha c g ρ x ex;split at h
  .rename_i l e1;cases h;exact DI.enum ae (ha.toE e1) (c.bt _ (by decide)) hg hs
  .rename_i l e1;cases h;exact DI.enum aa (ha.toE e1) (c.bt _ (by decide)) hg hs
  .cases h
 .cases h
theorem Tr.isi1:∀{X:Cx}{a':Ex}{a:au}{T:ar}{c:String}{p p1 p2:aO}(hT:T∈Vl) (hv:bA T=a8 (.type c)) (hg:Gl X "isinstance") (hg2:Gl X T) (hn:T ≠ "__name__") (hd:(T==k8z)=aa) (hs:ah [a,.Name T p1] X.env=(aa,aD a X.env)::ah [.Name T p1] X.env),Tr X a' (.e a)->Tr X (.isi a' [c]) (.e (.Call (.Name "isinstance" p) [a,.Name T p1] [] p2)):=by
 intro _ _ _ _ _ _ _ _ hT hv hg hg2 hn hd hs q0;refine⟨λΓ G=>?_,λ_ _ _ _ _ _ h=>nomatch h⟩;have iha:=q0.m Γ G;intro c g ρ r h;simp only[ja0,Df]at h;split at h
 .rename_i x ex;cases e:jy x.d _ with
  |none=>rw[e]at h;cases h
  |some k =>
   rw[e]at h;cases h;refine DE.isi1 (iha c g ρ x ex).toT (j1s e) (c.bt _ (by decide)) (c.bt _ hT) hv ?_ hg hg2 hn hd hs rfl rfl;simp only[jy]at e;split at e
   .rename_i k1 k2 e1 e2;cases e2;cases e;rw[iL];exact j1p e1
   .cases e
 .cases h
theorem Tr.isi2:∀{X:Cx}{a':Ex}{a:au}{T U:ar}{c d:String}{n:Nat}{p p1 p2 p3 p4:aO} (hT:T∈Vl) (hU:U∈Vl) (hv:bA T=a8 (.type c)) (hw:bA U=a8 (.type d)) (hg:Gl X "isinstance") (hg1:Gl X T) (hg2:Gl X U) (hn:T ≠ "__name__") (hd:(T==k8z)=aa) (hn2:U ≠ "__name__") (hd2:(U==k8z)=aa) (hs:ah [a,.Tuple [.Name T p1,.Name U p3] n p4] X.env=(aa,aD a X.env)::ah [.Tuple [.Name T p1,.Name U p3] n p4] X.env),Tr X a' (.e a)->Tr X (.isi a' [c,d]) (.e (.Call (.Name "isinstance" p) [a,.Tuple [.Name T p1,.Name U p3] n p4] [] p2)):=by
 intro _ _ _ _ _ _ _ _ _ _ _ _ _ hT hU hv hw hg hg1 hg2 hn hd hn2 hd2 hs q0;refine⟨λΓ G=>?_,λ_ _ _ _ _ _ h=>nomatch h⟩;have iha:=q0.m Γ G;intro c g ρ r h;simp only[ja0,Df]at h;split at h
 .rename_i x ex;cases e:jy x.d _ with
  |none=>rw[e]at h;cases h
  |some k =>rw[e]at h;cases h;exact DE.isi2 (iha c g ρ x ex).toT (j1s e) (c.bt _ (by decide)) (c.bt _ hT) (c.bt _ hU) hv hw (Eu e) hg hg1 hg2 hn hd hn2 hd2 hs rfl rfl rfl rfl
 .cases h
theorem Tr.dget:∀{X:Cx}{a' b':Ex}{a b:au}{p:aO}(hs:Jz b),Tr X a' (.e a)->Tr X b' (.e b)->Tr X (.dget a' b') (.e (.Subscript a b p)):=by
 intro _ _ _ _ _ _ hs q0 q1;refine⟨λΓ G=>?_,λΓ G=>?_⟩
 .have iha:=q0.m Γ G;have ihb:=q1.m Γ G;intro c g ρ r h;simp only[jha,Ml]at h;split at h
  .rename_i ks ds y ex ey;split at h
   .rename_i k ek;cases e:Ql ks ds k with
    |none=>rw[e]at h;cases h
    |some d=>rw[e]at h;cases h;exact DE.dget c.un' ((iha c g ρ (.e (.dct ks ds)) ex).toE rfl) (jac ek▸(ihb c g ρ y ey).toT) e hs
   .cases h
  .cases h
 .skip
  intro c g ρ y h;rw[er]at h;split at h
  .rename_i x ex;cases h;exact λσ H Q R k=>(Yy Rj peS peS hs).to (q0.x Γ G c g ρ _ ex σ H _ R k)
  split at h
  .rename_i r ez;exact λσ H Q R k=>(Yy Rj peS peS hs).to ((q0.m Γ G c g ρ r ez).toT σ H _ R λv H1 g1 e1=>q1.x Γ G c g ρ y h σ H1 _ (R.grow g1) (k.mono g1))
  .cases h
def Tr.c0:∀{X:Cx},Tr X .nil (.c []):=by intro _;refine⟨λΓ G=>?_,λ_ _ _ _ _ _ _=>trivial⟩;intro c g ρ;exact⟨λ_=>DTs.nil,λy k h=>by simp only[Mu]at h;cases h⟩
def Tr.c1:∀{X:Cx}{c':Ex}{c:au},Tr X c' (.b c)->Tr X (.cons c' .nil) (.c [c]):=by
 intro _ _ _ q0;refine⟨λΓ G=>?_,λ_ _ _ _ _ _ _=>trivial⟩;have iha:=q0.m Γ G;intro c g ρ;refine⟨λh=>?_,λy k h hk=>DTs.one ?_⟩
 .simp only[Nm,Mu,consW]at h;split at h<;>cases h
 .simp only[Nm,Mu,consW]at h;split at h
  .rename_i x xs ex exs;cases exs;cases h;exact iha c g ρ k (by rw[ex];simp only[truth,hk])
  .cases h
def Tr.comp1:∀{X:Cx}{i:Nat}{y:ar}{py p:aO}{elt' it' c':Ex}{elt it:au}{ifs:List au} {scope:bH} (hq:X.calm=ae) (hi:X.N[i]?=a8 y) (hl:V9 scope y=ae) (hkind:scope.kind=.function) (hok:v7 scope X.env X.N [i]=ae) (hs:∀x,aI it X.env x=pure x),Tr X it' (.i (.Name y py) it)->(∀C s H fp pn,Tr (cCx X scope C s H fp pn) elt' (.e elt))->(∀C s H fp pn,Tr (cCx X scope C s H fp pn) c' (.c ifs))->Tr X (.comp [i] elt' it' c') (.e (.ListComp elt [⟨.Name y py,it,ifs,0⟩] scope p)):=by
 intro _ _ _ _ _ _ _ _ _ _ _ _ hq hi hl hkind hok hs q0 q1 q2;refine⟨λΓ G=>?_,λ_ _ _ _ _ _ h=>nomatch h⟩;have ihi:=q0.m Γ G;have ihe:=λC s H fp pn=>(q1 C s H fp pn).m Γ G;have ihc:=λC s H fp pn=>(q2 C s H fp pn).m Γ G;intro c g ρ r h;obtain⟨l,e,q⟩:=Nh hq c (λρ ds z=>ihi c g ρ ds z) hkind hok hs (λρ d ρ2 hb hun=>by
  simp only[qz]at hb
  cases hb
  have hu:=hun _ (xg.mpr rfl)
  exact⟨_,jo,Wk.set hu,Z0 hu,λC s H fp pn=>DG.name _ c.nd hi (V4 hl) (Yd hl)⟩)
  (λC s H fp pn ρ r z=>ihe C s H fp pn c.comp g.comp ρ r z) (λC s H fp pn ρ=>ihc C s H fp pn c.comp g.comp ρ) h
 subst e;exact q
def Tr.comp2:∀{X:Cx}{i j:Nat}{x y:ar}{px py pt p:aO}{n:Nat}{elt' it' c':Ex}{elt it:au} {ifs:List au} {scope:bH} (hq:X.calm=ae) (hij:i≠j) (hi:X.N[i]?=a8 x) (hj:X.N[j]?=a8 y) (hl:V9 scope x=ae) (hl':V9 scope y=ae) (hkind:scope.kind=.function) (hok:v7 scope X.env X.N [i,j]=ae) (hs:∀x,aI it X.env x=pure x),Tr X it' (.i (.Tuple [.Name x px,.Name y py] n pt) it)->(∀C s H fp pn,Tr (cCx X scope C s H fp pn) elt' (.e elt))->(∀C s H fp pn,Tr (cCx X scope C s H fp pn) c' (.c ifs))->Tr X (.comp [i,j] elt' it' c') (.e (.ListComp elt [⟨.Tuple [.Name x px,.Name y py] n pt,it,ifs,0⟩] scope p)):=by
 intro _ i j _ _ _ _ _ _ _ _ _ _ _ _ _ _ hq hij hi hj hl hl' hkind hok hs q0 q1 q2;refine⟨λΓ G=>?_,λ_ _ _ _ _ _ h=>nomatch h⟩;have ihi:=q0.m Γ G;have ihe:=λC s H fp pn=>(q1 C s H fp pn).m Γ G;have ihc:=λC s H fp pn=>(q2 C s H fp pn).m Γ G;intro c g ρ r h;obtain⟨l,e,q⟩:=Nh hq c (λρ ds z=>ihi c g ρ ds z) hkind hok hs (λρ d ρ2 hb hun=>by
  simp only[qz]at hb
  split at hb
  .rename_i a b
   cases hb
   have hu:=hun _ (xr ..)
   have hu':=hun _ (xm _ (xg.mpr rfl))
   have h1:(ρ.set i (.val a))[j]?=a8 Sl.un:=by rw[qg hij];exact hu'
   exact⟨(ρ.set i (.val a)).set j (.val b),by rw[jo,jo];rfl,λK σ H R=>Wk.set hu K σ H (Wk.set h1 K σ H R),by rw[Z0 h1,Z0 hu],
    λC s H fp pn=>DG.pair _ _ hij c.nd hi hj (V4 hl) (V4 hl') (Yd hl) (Yd hl') hq⟩
  .cases hb)
  (λC s H fp pn ρ r z=>ihe C s H fp pn c.comp g.comp ρ r z) (λC s H fp pn ρ=>ihc C s H fp pn c.comp g.comp ρ) h
 subst e;exact q
theorem Tr.seq:∀{X:Cx}{a':Ex}{tg a:au},Tr X a' (.e a)->Tr X (.seq a') (.i tg a):=by
 intro _ _ _ _ q0;refine⟨λΓ G=>?_,λ_ _ _ _ _ _ _=>trivial⟩;have iha:=q0.m Γ G;intro c g ρ ds h;simp only[jjl,Wv]at h;split at h
 .rename_i l e;cases h;exact DI.lst (iha c g ρ _ e)
 .rename_i l e;cases h;exact DI.tup (iha c g ρ _ e)
 .rename_i l e;cases h;exact DI.lst (DO.toE (iha c g ρ _ e))
 .rename_i ks ds e;cases h;exact DI.dkeys (iha c g ρ _ e)
 .rename_i y e;obtain⟨z,q⟩:=jq h;cases q;exact DI.str (iha c g ρ _ e).toT z
 .cases h
theorem Tr.range:∀{X:Cx}{es':Ex}{tg:au}{es:List au}{p p2:aO}(hg:Gl X "range"),Tr X es' (.a es)->Tr X (.range es') (.i tg (.Call (.Name "range" p) es [] p2)):=by
 intro _ _ _ _ _ _ hg q0;refine⟨λΓ G=>?_,λ_ _ _ _ _ _ _=>trivial⟩;have iha:=q0.m Γ G;intro c g ρ ds h;simp only[jd9,Wz]at h;split at h
 .rename_i x ex;have q:=iha c g ρ _ ex;cases q with|cons hs hx t =>
  cases t;split at h
  .rename_i n en;obtain⟨z,q⟩:=jq h;cases q;exact DI.range1 (en▸hx.toT) (c.bt _ (by decide)) z.1 z.2 hg hs
  .cases h
 .rename_i x y ex;have q:=iha c g ρ _ ex;cases q with|cons hs hx t =>
  cases t with|cons hs2 hy t2 =>
  cases t2;split at h
  .rename_i m n em en;obtain⟨z,q⟩:=jq h;cases q;exact DI.range2 (em▸hx.toT) (en▸hy.toT) (c.bt _ (by decide)) z.1 z.2.1 z.2.2.1 z.2.2.2 hg (by rw[hs,hs2];rfl) hs2 hs
  .cases h
 .cases h
theorem Tr.zip:∀{X:Cx}{a' b':Ex}{a b:au}{es:List au}{n:Nat}{p p2 pt:aO}(hg:Gl X "zip") (hs:ah [a,b] X.env=(aa,aD a X.env)::ah [b] X.env) (hs2:ah [b] X.env=(aa,aD b X.env)::ah [] X.env),Tr X a' (.e a)->Tr X b' (.e b)->Tr X (.zip a' b') (.i (.Tuple es n pt) (.Call (.Name "zip" p) [a,b] [] p2)):=by
 intro _ _ _ _ _ _ _ _ _ _ hg hs hs2 q0 q1;refine⟨λΓ G=>?_,λ_ _ _ _ _ _ _=>trivial⟩;have iha:=q0.m Γ G;have ihb:=q1.m Γ G;intro c g ρ ds h;simp only[jjh,Np]at h;split at h
 .rename_i x y ex ey;have ha:=iha c g ρ x ex;have hb:=ihb c g ρ y ey;have pl:∀{p2:aO},(aU p2 (ah [_] _)).any (·.1)=aa:=λ{p2}=>by rw[hs2];rfl
  split at h
  .rename_i l m e1 e2;cases h;exact DI.zip ae ae (ha.toE e1) (hb.toE e2) (c.bt _ (by decide)) hg hs hs2 pl
  .rename_i l m e1 e2;cases h;exact DI.zip ae aa (ha.toE e1) (hb.toE e2) (c.bt _ (by decide)) hg hs hs2 pl
  .rename_i l m e1 e2;cases h;exact DI.zip aa ae (ha.toE e1) (hb.toE e2) (c.bt _ (by decide)) hg hs hs2 pl
  .rename_i l m e1 e2;cases h;exact DI.zip aa aa (ha.toE e1) (hb.toE e2) (c.bt _ (by decide)) hg hs hs2 pl
  .cases h
 .cases h
section
variable{Γ:ar->List D->Rc}{G:ar->Option D}{X:Cx}
def sound{t:Ex}{nd:Nd}(h:Tr X t nd):Cok X G->Gok X Γ->jhj Γ G X t nd:=h.m Γ G
def Ig{t:Ex}{nd:Nd}(h:Tr X t nd):Cok X G->Gok X Γ->∀ρ y,er Γ G t (j5 ρ)=a8 y->XM X ρ y nd:=h.x Γ G
end
inductive Px where
 |nop
inductive Dx where
 |fill (s t:Nat) (c:Ex) (f:ar) (es:Ex)
 |minc (t j:Nat) (it:Ex) (f:ar) (es:Ex)
 |maxc (t j:Nat) (it:Ex) (f:ar) (es:Ex)
inductive So where
 |next (ρ:En)
 |ret (r:Rc)
 |brk (ρ:En)
 |cnt (ρ:En)
 |err (x:ar) (ρ:En)
 |no
inductive Sx where
 |nop
 |seq (a b:Sx)
 |set (i:Nat) (e:Ex)
 |mov (i j:Nat)
 |expr (e:Ex)
 |ret (e:Ex)
 |retV (i:Nat)
 |ife (c:Ex) (a b:Sx)
 |loop (is:List Nat) (it:Ex) (body:Sx)
 |app (i:Nat) (e:Ex)
 |ext (i:Nat) (e:Ex)
 |fgt (i:Nat)
 |keep (i:Nat)
 |dx (p:Dx)
 |lmk (x:Nat) (g:ar) (es:Ex)
 |prm (g:Nat->(ar->List D->Rc)->(ar->Option D)->En->So)
 |fail
noncomputable def orE(o:So)(x:Option ar)(ρ:En):So:=match o with
 |.no=>match x with
  |some y=>.err y ρ
  |none=>.no
 |o=>o
noncomputable def Q6(f:D->En->So):List D->En->So
 |[],ρ=>.next ρ
 |d::ds,ρ=>match f d ρ with
  |.next ρ'=>Q6 f ds ρ'
  |.cnt ρ'=>Q6 f ds ρ'
  |.brk ρ'=>.next ρ'
  |.ret r=>.ret r
  |.err x ρ'=>.err x ρ'
  |.no=>.no
noncomputable def stOf:Option W->Option D
 |some (.v x)=>x.st
 |_=>af
noncomputable def Oc(i:Nat)(w:Option W)(ρ:En):So:=match w with
 |some (.v (.o l))=>.next (ρ.set i (.own l))
 |some (.v x)=>match x.st with
  |some d=>.next (ρ.set i (.val d))
  |none=>.no
 |_=>.no
noncomputable def retS(w:Option W):So:=match w with
 |some (.v (.o l))=>.ret (.fresh l)
 |some (.v x)=>.ret (.val x.d)
 |_=>.no
noncomputable def M7(s:Option Sv):So:=match s with
 |some (.own l)=>.ret (.fresh l)
 |some (.val d)=>.ret (.val d)
 |_=>.no
noncomputable def Em(i j:Nat)(s:Option Sv)(ρ:En):So:=match s with
 |some (.own l)=>if i=j then .no else .next ((ρ.set j .un).set i (.own l))
 |some (.val d)=>.next (ρ.set i (.val d))
 |_=>.no
noncomputable def j05(w:Option W)(ρ:En):So:=match w with
 |some (.v _)=>.next ρ
 |_=>.no
noncomputable def M4(i:Nat)(s:Option Sv)(w:Option W)(ρ:En):So:=match s,w with
 |some (.own l),a8 (.v x)=>match x.st with
  |some d=>if l.length<aw then .next (ρ.set i (.own (l++[d])))else .no
  |none=>.no
 |_,_=>.no
noncomputable def Dm(i:Nat)(s:Option Sv)(w:Option W)(ρ:En):So:=match s,w with
 |some (.own l),a8 (.v (.o m))=>if jm (l.length+m.length)=ae then .next (ρ.set i (.own (l++m)))else .no
 |_,_=>.no
noncomputable def Bs(i:Nat)(v:Option Sv)(ρ:En):So:=match v with
 |some (.own l)=>.next (ρ.set i (.val (.lst l)))
 |some (.val _)=>.next ρ
 |_=>.no
noncomputable def popS(i j k w:Nat)(s:Option Sv)(ρ:En):So:=match s with
 |some (.own l)=>match l.getLast? with
  |some (.tup [a,b,c])=>.next ((((ρ.set w (.own l.dropLast)).set i (.val a)).set j (.val b)).set k (.val c))
  |_=>.no
 |_=>.no
noncomputable def Ox:Sx->List Nat
 |.seq a b=>Ox a++Ox b
 |.set i _=>[i]
 |.ife _ a b=>Ox a++Ox b
 |_=>[]
noncomputable def Fj(Γ:ar->List D->Rc)(G:ar->Option D):Sx->En->Option En
 |.nop,ρ=>a8 ρ
 |.seq a b,ρ=>match Fj Γ G a ρ with
  |some r=>Fj Γ G b r
  |none=>af
 |.set i e,ρ=>match stOf (ev Γ G e ρ) with
  |some d=>a8 (ρ.set i (.val d))
  |none=>af
 |.ife c a b,ρ=>match truth (ev Γ G c ρ) with
  |some ae=>Fj Γ G a ρ
  |some aa=>Fj Γ G b ρ
  |none=>af
 |_,_=>af
inductive Sm where
 |next (ρ:En) (k:Nat)
 |ret (d:D) (k:Nat)
 |err (x:ar) (ρ:En)
 |no
noncomputable def jkl(fu:Nat)(Γ:ar->List D->Rc)(G:ar->Option D)(ls:List ar):Px->En->Nat->Sm
 |.nop,ρ,k=>.next ρ k
noncomputable def zc(Γ:ar->List D->Rc)(f:ar)(a:Option W)(ks:List zo)(ns:zo):Option (D×List zo×zo):=match a with
 |some (.a rs)=>match zu rs with
  |some ds=>match Γ (dq f) (.dct ks (ns.map D.int)::ds) with
   |.dval d ks' ns'=>a8 (d,ks',ns')
   |_=>af
  |none=>af
 |_=>af
noncomputable def vp(f:D->List zo->zo->Option (D×List zo×zo)):List D->List zo->zo->Option (List D×List zo×zo)
 |[],ks,ns=>a8 ([],ks,ns)
 |d::l,ks,ns=>match f d ks ns with
  |none=>af
  |some (r,ks1,ns1)=>match vp f l ks1 ns1 with
   |none=>af
   |some (rs,ks2,ns2)=>a8 (r::rs,ks2,ns2)
noncomputable def Ye:List D->List D->Option (List zo)
 |[],[]=>a8 []
 |.int n::rs,.int s::ds=>(Ye rs ds).map ([n,s] :: ·)
 |_,_=>af
noncomputable def jfo(s:Option Sv):Bool:=match s with
 |some .un=>ae
 |_=>aa
noncomputable def lsD(t j:Nat)(w:Option W)(ρ:En):Option (List D×En):=match w with
 |some (.v (.o l))=>if l.length<=1000/\j≠0/\t≠0/\j≠t/\jfo ρ[j]?=ae/\t<ρ.length then a8 (l,ρ.set t (.val (.lst l)))else af
 |_=>af
noncomputable def Wc(s t:Nat)(ρ:En)(ks:List zo)(ns:zo)(c:Option W)(call:Option (D×List zo×zo)):Option (D×List zo×zo):=match ρ[s]? with
 |some (.val (.tup l))=>match intsOf l with
  |some k=>if t<ρ.length/\t≠0/\s≠t then(if ks.contains k=ae then(Ql ks (ns.map D.int) k).map λd=>(d,ks,ns)else match c with
    |some (.v r)=>match r.st with
     |some (.bl ae)=>if ks.length<aw then a8 (.int 0,ks++[k],ns++[0])else af
     |some (.bl aa)=>match call with
      |some (.tup (.int m::_),ks1,ns1)=>if ks1.contains k=aa/\ks1.length<aw then a8 (.int (1+m),ks1++[k],ns1++[1+m])else af
      |_=>af
     |_=>af
    |_=>af)else af
  |none=>af
 |_=>af
noncomputable def minD(l:List D)(r:Option (List D×List zo×zo)):Option (D×List zo×zo):=match r with
 |some (rs,ks',ns')=>match Ye rs l with
  |some ls=>(ls[be (Qk ls) (ls.length-1)]?).map λk=>(.tup (k.map D.int),ks',ns')
  |none=>af
 |none=>af
noncomputable def Ma(r:Option (List D×List zo×zo)):Option (D×List zo×zo):=match r with
 |some (rs,ks',ns')=>match intsOf rs with
  |some ms=>if ms≠[]then a8 (.int (Zm ms),ks',ns')else af
  |none=>af
 |none=>af
noncomputable def Yu(r:Option (List D×En))(f:List D->En->Option (D×List zo×zo)):Option (D×List zo×zo):=match r with
 |some (l,ρ3)=>f l ρ3
 |none=>af
noncomputable def Vn(Γ:ar->List D->Rc)(G:ar->Option D):Dx->List zo->zo->En->Option (D×List zo×zo)
 |.fill s t c f es,ks,ns,ρ=>Wc s t ρ ks ns (ev Γ G c ρ) (zc Γ f (ev Γ G es (ρ.set t (.val (.bl aa)))) ks ns)
 |.minc t j it f es,ks,ns,ρ=>Yu (lsD t j (ev Γ G it ρ) ρ) λl ρ3=>minD l (vp (λd ks ns=>zc Γ f (ev Γ G es (ρ3.set j (.val d))) ks ns) l ks ns)
 |.maxc t j it f es,ks,ns,ρ=>Yu (lsD t j (ev Γ G it ρ) ρ) λl ρ3=>Ma (vp (λd ks ns=>zc Γ f (ev Γ G es (ρ3.set j (.val d))) ks ns) l ks ns)
noncomputable def dxS(l:Option Sv)(r:List zo->zo->Option (D×List zo×zo)):So:=match l with
 |some (.val (.dct ks ds))=>match intsOf ds with
  |some ns=>match r ks ns with
   |some (d,ks',ns')=>.ret (.dval d ks' ns')
   |none=>.no
  |none=>.no
 |_=>.no
noncomputable def j7f(b:Bool)(r:Option (D×List zo×zo)):So:=match b,r with
 |true,a8 (_,ks,ns)=>.ret (.val (.dct ks (ns.map D.int)))
 |_,_=>.no
noncomputable def run(fu:Nat)(Γ:ar->List D->Rc)(G:ar->Option D):Sx->En->So
 |.nop,ρ=>.next ρ
 |.seq a b,ρ=>match run fu Γ G a ρ with
  |.next ρ'=>run fu Γ G b ρ'
  |o=>o
 |.set i e,ρ=>orE (Oc i (ev Γ G e ρ) ρ) (er Γ G e ρ) ρ
 |.mov i j,ρ=>Em i j ρ[j]? ρ
 |.expr e,ρ=>orE (j05 (ev Γ G e ρ) ρ) (er Γ G e ρ) ρ
 |.ret e,ρ=>orE (retS (ev Γ G e ρ)) (er Γ G e ρ) ρ
 |.retV i,ρ=>M7 ρ[i]?
 |.ife c a b,ρ=>match truth (ev Γ G c ρ) with
  |some ae=>run fu Γ G a ρ
  |some aa=>run fu Γ G b ρ
  |none=>.no
 |.loop is it body,ρ=>match ev Γ G it (frz it ρ) with
  |some (.i ds)=>Q6 (λd ρ=>match qz is d ρ with
   |some ρ2=>run fu Γ G body ρ2
   |none=>.no) ds (frz it ρ)
  |_=>.no
 |.app i e,ρ=>M4 i ρ[i]? (ev Γ G e ρ) ρ
 |.ext i e,ρ=>Dm i ρ[i]? (ev Γ G e ρ) ρ
 |.fgt i,ρ=>.next (ρ.set i .un)
 |.keep i,ρ=>Bs i ρ[i]? ρ
 |.dx p,ρ=>dxS ρ[0]? λks ns=>Vn Γ G p ks ns (ρ.set 0 (.exc rfN))
 |.lmk x g es,ρ=>j7f (decide (x<ρ.length)&&noOwn ρ) (zc Γ g (ev Γ G es (ρ.set x .un)) [] [])
 |.prm g,ρ=>g fu Γ G ρ
 |.fail,_=>.no
section
variable{Γ:ar->List D->Rc}{G:ar->Option D}{ρ:En}{fu:Nat}
def ja5{a b}:run fu Γ G (.seq a b) ρ=(match run fu Γ G a ρ with
  |.next ρ'=>run fu Γ G b ρ'
  |o=>o):=(rfl)
def ja4{i e}:run fu Γ G (.set i e) ρ=(orE (Oc i (ev Γ G e ρ) ρ) (er Γ G e ρ) ρ):=(rfl)
def jjr{i j}:run fu Γ G (.mov i j) ρ=(Em i j ρ[j]? ρ):=(rfl)
def jhg{e}:run fu Γ G (.expr e) ρ=(orE (j05 (ev Γ G e ρ) ρ) (er Γ G e ρ) ρ):=(rfl)
def ja6{e}:run fu Γ G (.ret e) ρ=(orE (retS (ev Γ G e ρ)) (er Γ G e ρ) ρ):=(rfl)
def jhd{i}:run fu Γ G (.retV i) ρ=(M7 ρ[i]?):=(rfl)
def jjs{c a b}:run fu Γ G (.ife c a b) ρ=(match truth (ev Γ G c ρ) with
  |some ae=>run fu Γ G a ρ
  |some aa=>run fu Γ G b ρ
  |none=>.no):=(rfl)
def jhe{is it body}:run fu Γ G (.loop is it body) ρ=(match ev Γ G it (frz it ρ) with
  |some (.i ds)=>Q6 (λd ρ=>match qz is d ρ with
   |some ρ2=>run fu Γ G body ρ2
   |none=>.no) ds (frz it ρ)
  |_=>.no):=(rfl)
def jju{i e}:run fu Γ G (.app i e) ρ=(M4 i ρ[i]? (ev Γ G e ρ) ρ):=(rfl)
def jjt{i e}:run fu Γ G (.ext i e) ρ=(Dm i ρ[i]? (ev Γ G e ρ) ρ):=(rfl)
def jhf{i}:run fu Γ G (.keep i) ρ=(Bs i ρ[i]? ρ):=(rfl)
end
inductive Ns where
 |s (st:aP)
 |ss (sts:List aP)
def TMs(X:Cx)(b:Sx)(ss:List aP):Prop:=∀(Γ:ar->List D->Rc)(G:ar->Option D),Cok X G->Gok X Γ->∀(ρ:Rho)(r:En),Fj Γ G b (j5 ρ)=a8 r->∃ρ',j5 ρ'=r/\DMs X ρ ρ' (Ox b) ss/\Kp ρ ρ' (Ox b)
def TMt(X:Cx)(b:Sx)(full tl:List aP):Prop:=∀(Γ:ar->List D->Rc)(G:ar->Option D),Cok X G->Gok X Γ->∀(ρ:Rho)(r:En),Fj Γ G b (j5 ρ)=a8 r->∃ρ',j5 ρ'=r/\DMt X ρ ρ' (Ox b) full tl
def jh2(pi:Nat)(o:Ob)(s:Sm)(P:Pm):Prop:=match s with
 |.next ρ' k=>∀ρ2,j5 ρ2=ρ'->(∃ob,ρ2[pi]?=a8 (.raw o.a ob rfN))->P.nx ρ2 k
 |.ret d k=>P.rt d k
 |.err x ρ'=>∀ρ2,j5 ρ2=ρ'->P.ex x ρ2
 |.no=>False
def MP(X:Cx)(pi:Nat)(p:Px)(sts:List aP):Prop:=∀(fu:Nat)(Γ:ar->List D->Rc)(G:ar->Option D),Cok X G->Gok X Γ->∀C,X.mg "Pieces" = a8 (.ref C)->PcX X C->∀(o:Ob)(ls:List ar)(ρ:Rho)(k:Nat)(P:Pm),
 (∃ob,ρ[pi]?=a8 (.raw o.a ob rfN))->jh2 pi o (jkl fu Γ G ls p (j5 ρ) k) P->MSs X C o ls ρ k sts P
def MD(X:Cx)(p:Dx)(sts:List aP):Prop:=∀(Γ:ar->List D->Rc)(G:ar->Option D),Cok X G->Gok X Γ->∀(ρ:Rho)(a:ai)(ks:List zo) (ns:zo) (d:D) (ks':List zo) (ns':zo),
 (∃ob,ρ[0]?=a8 (.raw a ob rfN))->owns ρ=[]->Vn Γ G p ks ns (j5 ρ)=a8 (d,ks',ns')->DDb X ρ sts a ks ns d ks' ns'
noncomputable def Rt.rc:Rt->Rc
 |.val d=>.val d
 |.fresh l=>.fresh l
def Y0(o:So)(P:Po):Prop:=match o with
 |.next ρ'=>∀ρ2,j5 ρ2=ρ'->P.nx ρ2
 |.ret r=>∀x:Rt,x.rc=r->P.rt x
 |.brk ρ'=>∀ρ2,j5 ρ2=ρ'->P.bk ρ2
 |.cnt ρ'=>∀ρ2,j5 ρ2=ρ'->P.ct ρ2
 |.err x ρ'=>∀ρ2,j5 ρ2=ρ'->P.ex x ρ2
 |.no=>False
def Yv{o:So}{x:Option ar}{ρ:En}{P:Po}(h:Y0 (orE o x ρ) P):Y0 o P\/∃y,x=a8 y/\∀ρ2,j5 ρ2=ρ->P.ex y ρ2:=by
 cases o with
 |no =>
  cases x with
  |none=>exact h.elim
  |some y=>exact .inr ⟨y,rfl,h⟩
 |_=>exact .inl h
def ja7(fu:Nat)(Γ:ar->List D->Rc)(G:ar->Option D)(X:Cx)(t:Sx):Ns->Prop
 |.s st=>∀ρ P,Y0 (run fu Γ G t (j5 ρ)) P->DS X ρ st P
 |.ss sts=>∀ρ P,Y0 (run fu Γ G t (j5 ρ)) P->DSs X ρ sts P
section
variable{K:k8v}{ρ:Rho}{σ:St}{H:Hp}{i j:Nat}{a:ai}{l:List D}
def Rep.move(R:Rep K ρ σ H)(hj:ρ[j]?=a8 (.own a l))(hij:i≠j):Rep K ((ρ.set j .un).set i (.own a l)) (σ.set i (a8 (.ref a))) H:=by
 have s1:(owns (ρ.set j .un)).Sublist (owns ρ):=jg rfl;have na:a∉owns (ρ.set j .un):=λz=>by
  obtain⟨k,l',q⟩:=Vb z;rcases getElem?_set_of q with ⟨_,z,_⟩|⟨n,q⟩
  .cases z
  .exact n (Yg R.nd hj q)
 obtain⟨nd,sub⟩:=Jt (ds:=l) (i:=i) (s1.nodup R.nd) na;have g:j0 (del H (owns ρ)) (del H (owns ((ρ.set j .un).set i (.own a l)))):=J7 λb hb=>by
  rcases sub b hb with e|z
  .exact e▸Jp hj
  .exact s1.subset z
 refine⟨by simp[R.len],λk d' h=>?_,λk b ds' h=>?_,nd,λk b o x h=>?_,R.tb⟩
 .rcases getElem?_set_of h with ⟨rfl,z,_⟩|⟨n,h⟩
  .cases z
  .rcases getElem?_set_of h with ⟨rfl,z,_⟩|⟨n2,h⟩
   .cases z
   .obtain⟨u,q,e⟩:=R.val k d' h;exact⟨u,by rw[qg n];exact q,e.mono g⟩
 .rcases getElem?_set_of h with ⟨rfl,z,hl⟩|⟨n,h⟩
  .cases z;obtain⟨_,xs,hx,en⟩:=R.own j a l hj;exact⟨Js (by rw[R.len];simpa using hl),xs,hx,en.mono g⟩
  .rcases getElem?_set_of h with ⟨rfl,z,_⟩|⟨n2,h⟩
   .cases z
   .obtain⟨q,xs,hx,en⟩:=R.own k b ds' h;exact⟨by rw[qg n];exact q,xs,hx,en.mono g⟩
 .rcases getElem?_set_of h with ⟨rfl,z,_⟩|⟨n,h⟩
  .cases z
  .rcases getElem?_set_of h with ⟨rfl,z,_⟩|⟨n2,h⟩
   .cases z
   .obtain⟨q,h⟩:=R.raw k b o x h;exact⟨by rw[qg n];exact q,h.mono g⟩
end
section
variable{X:Cx}{ρ:Rho}{e a b c:au}{es:List au}{st:aP}{rest sa sb body:List aP}{P:Po}{d:D}{ds ds':List D}{pos p p1 p2 p3:aO}{x y:ar}{i j:Nat}
theorem DS.freeze(i:Nat){l:ai}(h:ρ[i]?=a8 (.own l ds))(h2:DS X (ρ.set i (.val (.lst ds))) st P):DS X ρ st P:=λσ H E R q =>h2 σ H E (R.freeze h) (q.step (.drop λb hb=>(jg rfl).subset hb))
def DS.mov{l:ai}(hk:ρ[j]?=a8 (.own l ds))(hij:i≠j)(h:P.nx ((ρ.set j .un).set i (.own l ds)))(hN:X.N.Nodup)(hi:X.N[i]?=a8 x)(hj:X.N[j]?=a8 y)(hx:Loc X.env.scope x)
  (hf:X.fn x=ae\/X.env.scope.names.lookup x=a8 .local) (hv:Vis X.env.scope y) (hd:(y==k8z)=aa) (hcd:(y==k90)=aa):DS X ρ (.Assign [.Name x p] (.Name y p1) pos) P:=λσ H E R q=>by
 obtain⟨hs,xs,m,en⟩:=R.own j l ds hk;refine(Qx hN hi hx (v4 hj hv hd hcd) rfl hf).to ⟨_,hs,q.nx _ _ H h (R.move hk hij) (.drop λb hb=>?_)⟩;have s1:(owns (ρ.set j .un)).Sublist (owns ρ):=jg rfl;have na:l∉owns (ρ.set j .un):=λz=>by
  obtain⟨k,l',q⟩:=Vb z;rcases getElem?_set_of q with ⟨_,z,_⟩|⟨n,q⟩
  .cases z
  .exact n (Yg R.nd hk q)
 rcases(Jt (ds:=ds) (i:=i) (s1.nodup R.nd) na).2 b hb with z|z
 .exact z▸Jp hk
 .exact s1.subset z
def DS.setCf{ρf:Rho}{tg elt iter:au}{ifs:List au}{scope:bH}{spos:aO}(i:Nat)(cs:List Nat)(pr:D->Bool)(g:D->D)(hfr:∀K σ H,Rep K ρ σ H->Rep K ρf σ H)(hno:ρf=ρ\/za ((ds.filter pr).map g)=ae)(hi:DI X ρf tg iter ds)
  (hb:∀C s H fp pn,∀d∈ds,∃ρ2,DG (cCx X scope C s H fp pn) ρf tg d ρ2/\Wk ρ2 ρf/\owns ρ2=owns ρf/\DTs (cCx X scope C s H fp pn) ρ2 ifs (pr d)/\(pr d=ae->DE (cCx X scope C s H fp pn) ρ2 elt (g d)))
  (h:∀l,P.nx (ρ.set i (.own l ((ds.filter pr).map g)))) (hN:X.N.Nodup) (hcs:∀j∈cs,ρf[j]?=a8 .un) (hsz:ds.length<=aw) (hX:X.N[i]?=a8 x) (hx:Loc X.env.scope x)
  (hf:X.fn x=ae\/X.env.scope.names.lookup x=a8 .local)
  (hsw:aJ (.ListComp elt [⟨tg,iter,ifs,0⟩] scope pos) (a8 (.Name x p1)) spos.line X.env=pure ae)
  (hc:X.calm=ae) (hkind:scope.kind=.function) (hok:v7 scope X.env X.N cs=ae)
  (hs:∀x,aI iter X.env x=pure x):DS X ρ (.Assign [.Name x p1] (.ListComp elt [⟨tg,iter,ifs,0⟩] scope pos) spos) P:=λσ H E R q pins s I=>by
 have Rf:=hfr _ _ _ R;rw[exec_Assign_Name_used _ _ _ _ hsw];refine a9 (eX (a9 ?_));show av _ X.A (do let _ <-comprehension (.ListComp elt [⟨tg,iter,ifs,0⟩] scope pos) scope X.env _ (lQ []) aa (aD iter X.env) (a8 (gp (.Name x p1) X.env))) _ _ s;refine a9 (bV (eY (use:=a8 (gp (.Name x p1) X.env)) (Q:=λ_ s'=>SP X pins E .next s') rfl hs (Wh (Uh hok)) hkind (Yr hok)
  (thn (hi σ H (λJ H'=>j0 H H'/\Ze X.K (del H' (owns ρf)) J ds) Rf (λJ H' g1 ok=>⟨g1,ok⟩) pins s I) λv s1 h1=>thn h1 λitv s2 h2=>?_)) (λ_ s' hq=>ak (ak hq)) λ_ _ e=>e)
 obtain⟨it,fp,tn,J,H2,e,I2,T,st2,f2,g2,ok⟩:=h2;subst e;refine Ld (RR:=λacc C=>nX (aC X.prog X.w) X.A X.xe (a8 (gp (.Name x p1) X.env)) (λ_ s'=>SP X pins E .next s') acc C) I2 (Rf.grow g2) T st2 f2 ok hc hkind hok hcs hsz hb ?_;intro D C xs H' s' m I' gg n m' en hm L;show av _ X.A (gp (.Name x p1) X.env (.ref D)) _ _ _;refine lP (Ca I' hN hX hx (v:=.ref D) rfl (λs'' I'' ⟨a,sb,ha⟩=>?_) hf);have hCa:C≠a:=by
  rcases ha with e|e
  .rw[e];exact L.loc
  .exact bE (L.cell x a e)
 have en':j4 X.K (del H' (D::owns ρ)) ((ds.filter pr).map g) xs:=by
  rcases hno with e|e
  .rw[e]at en;exact en
  .exact(en.mono je).hide (λc hc=>by
    rcases xq.mp hc with z|z
    .rw[z];exact .inl ⟨xs,m'⟩
    .exact .inl ((R.grow (g2.trans gg)).owned c z)) e
 refine⟨m,hm.sameBut sb hCa,λh' sb'=>⟨σ.set i (a8 (.ref D)),H',I''.loose L sb',?_⟩⟩;exact q.nx _ _ H' (h D) (R.set_own (g2.trans gg) (g2.free n) m' en') (Fr0.new R (g2.trans gg) (g2.free n))
end
section
variable{fu:Nat}{Γ:ar->List D->Rc}{G:ar->Option D}{X:Cx}{P:Po}
def bind1{i:Nat}{y:ar}{p:aO}(nd:X.N.Nodup)(hi:X.N[i]?=a8 y)(hx:Loc X.env.scope y)(hf:X.fn y=ae\/X.env.scope.names.lookup y=a8 .local) :
  ∀ρ d ρ2,qz [i] d (j5 ρ)=a8 ρ2->∃ρ',j5 ρ'=ρ2/\DG X ρ (.Name y p) d ρ':=λρ d ρ2 h=>by
 simp only[qz]at h;cases h;exact⟨_,jo,DG.name _ nd hi hx hf⟩
def jjd{i j:Nat}{x y:ar}{n:Nat}{p q pt:aO}(hc:X.calm=ae)(hij:i≠j)(nd:X.N.Nodup)(hi:X.N[i]?=a8 x)(hj:X.N[j]?=a8 y)(hx:Loc X.env.scope x)(hy:Loc X.env.scope y)
  (hf:X.fn x=ae\/X.env.scope.names.lookup x=a8 .local) (hg:X.fn y=ae\/X.env.scope.names.lookup y=a8 .local) :
  ∀ρ d ρ2,qz [i,j] d (j5 ρ)=a8 ρ2->∃ρ',j5 ρ'=ρ2/\DG X ρ (.Tuple [.Name x p,.Name y q] n pt) d ρ':=λρ d ρ2 h=>by
 simp only[qz]at h;split at h
 .rename_i a b;cases h;exact⟨(ρ.set i (.val a)).set j (.val b),by rw[jo,jo];rfl,DG.pair _ _ hij nd hi hj hx hy hf hg hc⟩
 .cases h
def DS.setX{e:au}{x y:ar}{i:Nat}{p pos:aO}{ρ:Rho}(he:DX X ρ e y)(h:P.ex y ρ)(hN:X.N.Nodup)(hi:X.N[i]?=a8 x)(hx:Loc X.env.scope x)(hs:aJ e (a8 (.Name x p)) pos.line X.env=pure aa)(hf:X.fn x=ae\/X.env.scope.names.lookup x=a8 .local) :
  DS X ρ (.Assign [.Name x p] e pos) P:=λσ H E R q=>(Qx hN hi hx peS hs hf).to (he σ H _ R (q.ex y ρ σ H h R (Fr0.refl _ _)))
def DS.exprX{e:au}{y:ar}{pos:aO}{ρ:Rho}(he:DX X ρ e y)(h:P.ex y ρ)(hs:aJ e af pos.line X.env=pure aa):DS X ρ (.Expr e pos) P:=λσ H E R q =>(Y5 peS hs).to (he σ H _ R (q.ex y ρ σ H h R (Fr0.refl _ _)))
def DS.retX{e:au}{y:ar}{pos:aO}{ρ:Rho}(he:DX X ρ e y)(h:P.ex y ρ):DS X ρ (.Return (a8 e) pos) P:=λσ H E R q =>(Zj peS).to (he σ H _ R (q.ex y ρ σ H h R (Fr0.refl _ _)))
def Br{is:List Nat}{it':Ex}{b:Sx}{it tg:au}{body:List aP}{pos:aO}{ρ:Rho}(hq:X.calm=ae)(c:Cok X G)(hs:∀x,aI it X.env x=pure x)
  (hb:∀ρ d ρ2,qz is d (j5 ρ)=a8 ρ2->∃ρ',j5 ρ'=ρ2/\DG X ρ tg d ρ') (hi:∀ρ ds,ev Γ G it' (j5 ρ)=a8 (.i ds)->DI X ρ tg it ds)
  (ih:∀ρ P,Y0 (run fu Γ G b (j5 ρ)) P->DSs X ρ body P) (h:Y0 (run fu Γ G (.loop is it' b) (j5 ρ)) P):DS X ρ (.For tg it body [] pos) P:=by
 have main:∀ρf:Rho,j5 ρf=frz it' (j5 ρ)->DS X ρf (.For tg it body [] pos) P:=λρf ef=>by
  rw[jhe]at h;rw[<-ef]at h;split at h
  .rename_i ds hds;generalize hf:(λd ρ=>_:D->En->So)=f at h;refine DS.for (ds:=ds) (λi ρ'=>Y0 (Q6 f (ds.drop i) (j5 ρ')) P) (hi ρf ds hds) (by rw[l7];exact h) (λi d ρ' hd w=>?_) (λρ' w=>?_) hq c.po hs
   .have hdr:ds.drop i=d::ds.drop (i+1):=by obtain⟨hlt,e⟩:=X4.mp hd;rw[iE hlt,e]
    rw[hdr,Q6]at w;have ef2:f d (j5 ρ')=match qz is d (j5 ρ')with|some ρ2=>run fu Γ G b ρ2|none=>.no:=by rw[<-hf]<;>rfl
    rw[ef2]at w;cases hb2:qz is d (j5 ρ') with
    |none=>rw[hb2]at w;exact w.elim
    |some ρ2 =>
     rw[hb2]at w;obtain⟨ρ3,e3,dg⟩:=hb ρ' d ρ2 hb2;refine⟨ρ3,dg,ih ρ3 _ ?_⟩;rw[e3];dsimp only at w;cases ho:run fu Γ G b ρ2 with
     |next ρ4=>rw[ho]at w;exact λρ5 e=>by rw[<-e]at w;exact w
     |cnt ρ4=>rw[ho]at w;exact λρ5 e=>by rw[<-e]at w;exact w
     |brk ρ4=>rw[ho]at w;exact w
     |ret r=>rw[ho]at w;exact w
     |err x ρ4=>rw[ho]at w;exact w
     |no=>rw[ho]at w;exact w
   .rw[gY,Q6]at w;exact w ρ' rfl
  .exact h.elim
 by_cases z:Jm it' (j5 ρ)=ae
 .unfold Jm at z;split at z
  .rename_i i ei;split at z
   .rename_i l e;obtain⟨a,q⟩:=Qu e;refine DS.freeze i q (main _ ?_);rw[jo];simp only[frz,ei,e,Sl.abs]
   .cases z
  .cases z
 .have z':Jm it' (j5 ρ)=aa:=by simpa using z
  refine main ρ ?_;unfold frz;split
  .rename_i i ei;split
   .rename_i l e;simp only[Jm,ei,e]at z';cases z'
   .rfl
  .rfl
def j2l{is:List Nat}{elt' it' c':Ex}{elt it tg:au}{ifs:List au}{scope:bH}{p p1 pos:aO}{k:Nat}{z:ar}{ρ:Rho}(hq:X.calm=ae)(hX:Cok X G)
  (hk:X.N[k]?=a8 z) (hx:Loc X.env.scope z) (hf:X.fn z=ae\/X.env.scope.names.lookup z=a8 .local)
  (hsw:aJ (.ListComp elt [⟨tg,it,ifs,0⟩] scope p) (a8 (.Name z p1)) pos.line X.env=pure ae)
  (hit:∀ρ ds,ev Γ G it' (j5 ρ)=a8 (.i ds)->DI X ρ tg it ds) (hkind:scope.kind=.function) (hok:v7 scope X.env X.N is=ae) (hs:∀x,aI it X.env x=pure x)
  (hb:∀ρ d ρ2,qz is d (j5 ρ)=a8 ρ2->(∀j∈is,ρ[j]?=a8 .un)->∃ρ',j5 ρ'=ρ2/\Wk ρ' ρ/\owns ρ'=owns ρ/\∀C s H fp pn,DG (cCx X scope C s H fp pn) ρ tg d ρ')
  (he:∀C s H fp pn ρ r,ev Γ G elt' (j5 ρ)=a8 (.v r)->Has (cCx X scope C s H fp pn) ρ elt r)
  (hc:∀C s H fp pn ρ,(ev Γ G c' (j5 ρ)=a8 (.a [])->DTs (cCx X scope C s H fp pn) ρ ifs ae)/\∀y k,ev Γ G c' (j5 ρ)=a8 (.a [y])->y.d=.bl k->DTs (cCx X scope C s H fp pn) ρ ifs k)
  (h:Y0 (run fu Γ G (.set k (.comp is elt' it' c')) (j5 ρ)) P):DS X ρ (.Assign [.Name z p1] (.ListComp elt [⟨tg,it,ifs,0⟩] scope p) pos) P:=by
 rw[ja4]at h;unfold Oc at h;have h:=(Yv h).resolve_right λ⟨y,ey,_⟩=>by simp only[er]at ey;cases ey
 cases e:ev Γ G (.comp is elt' it' c') (j5 ρ) with
 |none=>rw[e]at h;exact h.elim
 |some w =>
  rw[e]at h;cases w with
  |a _=>exact h.elim
  |i _=>exact h.elim
  |v r =>
   obtain⟨l,ρf,ds,pr,g,er,el,hfz,hi,hun,hz,hb'⟩:=Ug hit hb he hc e;subst er;refine DS.setCf (ρf:=ρf) k is pr g ?_ ?_ hi hb' (λa=>?_) hX.nd hun hz hk hx hf hsw hq hkind hok hs
   .rcases hfz with e|⟨_,i,a,l',q,e⟩
    .subst e;exact λ_ _ _ R=>R
    .subst e;exact λ_ _ _ R=>R.freeze q
   .rcases hfz with e|⟨n,_⟩
    .exact .inl e
    .exact .inr (el▸n)
   .rw[<-el];exact h _ jo
def j94{ρ:Rho}{x:Nat}:j5 (ρ.set x .un)=(j5 ρ).set x .un:=jo
end
structure Ts(X:Cx)(t:Sx)(nd:Ns):Prop where
 m:∀(fu:Nat)(Γ:ar->List D->Rc)(G:ar->Option D),Cok X G->Gok X Γ->ja7 fu Γ G X t nd
theorem Ts.nil:∀{X:Cx},Ts X .nop (.ss []):=by intro _;refine⟨λfu Γ G=>?_⟩;intro c g ρ P h;exact DSs.nil (h ρ rfl)
theorem Ts.cons:∀{X:Cx}{a b:Sx}{st:aP}{rest:List aP},Ts X a (.s st)->Ts X b (.ss rest)->Ts X (.seq a b) (.ss (st::rest)):=by
 intro _ _ _ _ _ q0 q1;refine⟨λfu Γ G=>?_⟩;have iha:=q0.m fu Γ G;have ihb:=q1.m fu Γ G;intro c g ρ P h;rw[ja5]at h;split at h
 .rename_i ρ' e;exact DSs.cons (N:=λρ1=>j5 ρ1=ρ') (iha c g ρ _ (by rw[e];exact λρ2 z=>z)) λρ1 z=>ihb c g ρ1 P (by rw[z];exact h)
 .rename_i o hn;refine DSs.cons (N:=λ_=>False) (iha c g ρ _ ?_) λ_ z=>z.elim;cases e:run fu Γ G _ (j5 ρ) with
  |next ρ'=>exact absurd e (hn ρ')
  |ret r=>rw[e]at h;exact h
  |err x r=>rw[e]at h;exact h
  |brk r=>rw[e]at h;exact h
  |cnt r=>rw[e]at h;exact h
  |no=>rw[e]at h;exact h
theorem Ts.lmk:∀{X:Cx}{x:Nat}{nx g:ar}{es':Ex}{es:List au}{p1 p2 p3 p4 p5 p6 p7 p8 p9:aO}(hX:X.N[x]?=a8 nx) (lx:Loc X.env.scope nx) (fx:X.fn nx=ae\/X.env.scope.names.lookup nx=a8 .local) (dx:(nx==k8z)=aa) (cx:(nx==k90)=aa) (hg:Gl X g) (hdb:(g==k8z)=aa) (s1:aJ (.Dict [] [] p2) (a8 (.Name nx p1)) p3.line X.env=pure aa) (s2:aJ (.Call (.Name g p4) (.Name nx p5::es) [] p6) af p7.line X.env=pure aa) (hs:ah (.Name nx p5::es) X.env=(aa,aD (.Name nx p5) X.env)::ah es X.env) (hpl:(aU p6 (ah es X.env)).any (·.1)=aa),Tr X es' (.a es)->Ts X (.lmk x g es') (.ss [.Assign [.Name nx p1] (.Dict [] [] p2) p3,.Expr (.Call (.Name g p4) (.Name nx p5::es) [] p6) p7,.Return (a8 (.Name nx p8)) p9]):=by
 intro _ x nx g' es' es p1 p2 p3 p4 p5 p6 p7 p8 p9 hX lx fx dx cx hg hdb s1 s2 hs hpl hes;refine⟨λfu Γ G=>?_⟩;intro c g ρ P h;unfold run j7f zc at h;split at h
 .rename_i _ d ks ns eb er;split at er
  .rename_i rs ers;split at er
   .rename_i ds eds;split at er
    .rename_i d2 ks2 ns2 ez;cases er;rw[Xg]at eb;have hl:x<ρ.length:=by have:=of_decide_eq_true eb.1;unfold j5 at this;rw[xf]at this;exact this
     have q:=g (dq g') (.dct [] (([]:zo).map D.int)::ds);rw[ez]at q;rw[<-j94]at ers;exact DSs.lmk (q g' [] [] ds rfl rfl) hl (Vu eb.2) ((sound hes c g (ρ.set x .un) rs ers).toA eds) ⟨rfl,rfl,rfl,rfl,rfl,rfl⟩ (h (.val _) rfl) c.nd hX lx fx dx cx hg hdb s1 s2 hs hpl
    .cases er
   .cases er
  .cases er
 .exact h.elim
theorem Ts.prm:∀{X:Cx}{g:Nat->(ar->List D->Rc)->(ar->Option D)->En->So} {b:Sx} {rest full:List aP} (hg:∀(fu:Nat)(Γ:ar->List D->Rc)(G:ar->Option D),Cok X G->Gok X Γ->∀(ρ:Rho)(P:Po)(N:Rho->Prop),Y0 (g fu Γ G (j5 ρ)) { P with nx:=N }->(∀ρ',N ρ'->DSs X ρ' rest P)->DSs X ρ full P),Ts X b (.ss rest)->Ts X (.seq (.prm g) b) (.ss full):=by
 intro _ g0 b rest full hg q0;refine⟨λfu Γ G=>?_⟩;have ih:=q0.m fu Γ G;intro c g ρ P ht;have er:run fu Γ G (.seq (.prm g0) b) (j5 ρ)=(match g0 fu Γ G (j5 ρ) with
  |.next ρ'=>run fu Γ G b ρ'
  |o=>o):=(rfl)
 rw[er]at ht;cases z:g0 fu Γ G (j5 ρ) with
 |next ρ'=>rw[z]at ht;exact hg fu Γ G c g ρ P (λρ1=>j5 ρ1=ρ') (by rw[z];exact λρ2 y=>y) λρ1 y=>ih c g ρ1 P (by rw[y];exact ht)
 |no=>rw[z]at ht;exact ht.elim
 |ret r=>rw[z]at ht;exact hg fu Γ G c g ρ P (λ_=>False) (by rw[z];exact ht) λ_ y=>y.elim
 |brk r=>rw[z]at ht;exact hg fu Γ G c g ρ P (λ_=>False) (by rw[z];exact ht) λ_ y=>y.elim
 |cnt r=>rw[z]at ht;exact hg fu Γ G c g ρ P (λ_=>False) (by rw[z];exact ht) λ_ y=>y.elim
 |err x r=>rw[z]at ht;exact hg fu Γ G c g ρ P (λ_=>False) (by rw[z];exact ht) λ_ y=>y.elim
theorem Ts.keep:∀{X:Cx}{i:Nat}{b:Sx}{sts:List aP},Ts X b (.ss sts)->Ts X (.seq (.keep i) b) (.ss sts):=by
 intro _ i _ _ q0;refine⟨λfu Γ G=>?_⟩;have ih:=q0.m fu Γ G;intro c g ρ P h;simp only[ja5,jhf,Bs]at h;cases e:(j5 ρ)[i]? with
 |none=>rw[e]at h;exact h.elim
 |some v =>
  rw[e]at h;cases v with
  |own l =>obtain⟨a,q⟩:=Qu e;exact DSs.freeze _ q (ih c g _ P (by rw[jo];exact h))
  |un=>exact h.elim
  |val d=>exact ih c g ρ P h
  |exc x=>exact h.elim
theorem Ts.fail:∀{X:Cx}{st:aP},Ts X .fail (.s st):=by intro _ _;refine⟨λfu Γ G=>?_⟩;intro c g ρ P h;exact h.elim
theorem Ts.set:∀{X:Cx}{i:Nat}{x:ar}{e':Ex}{e:au}{p pos:aO}(hi:X.N[i]?=a8 x) (hx:Loc X.env.scope x) (hs:aJ e (a8 (.Name x p)) pos.line X.env=pure aa) (hf:X.fn x=ae\/X.env.scope.names.lookup x=a8 .local),Tr X e' (.e e)->Ts X (.set i e') (.s (.Assign [.Name x p] e pos)):=by
 intro _ _ _ _ _ _ _ hi hx hs hf he;refine⟨λfu Γ G=>?_⟩;intro c g ρ P h;have S:=sound he c g;rw[ja4]at h;unfold Oc at h;rcases Yv h with h|⟨y,ey,hP⟩
 rotate_left
 .exact DS.setX (Ig he c g ρ y ey) (hP ρ rfl) c.nd hi hx hs hf
 split at h
 .rename_i l e;exact DS.setO _ (S ρ _ e) (λa=>h _ jo) c.nd hi hx hs hf
 .rename_i r hn e;split at h
  .rename_i d hd;exact DS.set _ ((S ρ _ e).toE hd) (h _ jo) c.nd hi hx hs hf
  .exact h.elim
 .exact h.elim
def Ts.setC1:∀{X:Cx}{k i:Nat}{z y:ar}{py p p1 pos:aO}{elt' it' c':Ex}{elt it:au}{ifs:List au} {scope:bH} (hq:X.calm=ae) (hk:X.N[k]?=a8 z) (hx:Loc X.env.scope z) (hf:X.fn z=ae\/X.env.scope.names.lookup z=a8 .local) (hsw:aJ (.ListComp elt [⟨.Name y py,it,ifs,0⟩] scope p) (a8 (.Name z p1)) pos.line X.env=pure ae) (hi:X.N[i]?=a8 y) (hl:V9 scope y=ae) (hkind:scope.kind=.function) (hok:v7 scope X.env X.N [i]=ae) (hs:∀x,aI it X.env x=pure x),Tr X it' (.i (.Name y py) it)->(∀C s H fp pn,Tr (cCx X scope C s H fp pn) elt' (.e elt))->(∀C s H fp pn,Tr (cCx X scope C s H fp pn) c' (.c ifs))->Ts X (.set k (.comp [i] elt' it' c')) (.s (.Assign [.Name z p1] (.ListComp elt [⟨.Name y py,it,ifs,0⟩] scope p) pos)):=by
 intro _ _ _ _ _ _ _ _ _ _ _ _ _ _ _ _ hq hk hx hf hsw hi hl hkind hok hs hit he hc;refine⟨λfu Γ G=>?_⟩;intro c g ρ P h;exact j2l hq c hk hx hf hsw (λρ ds z=>sound hit c g ρ ds z) hkind hok hs (λρ d ρ2 hb hun=>by
  simp only[qz]at hb
  cases hb
  have hu:=hun _ (xg.mpr rfl)
  exact⟨_,jo,Wk.set hu,Z0 hu,λC s H fp pn=>DG.name _ c.nd hi (V4 hl) (Yd hl)⟩)
  (λC s H fp pn ρ r z=>sound (he C s H fp pn) c.comp g.comp ρ r z) (λC s H fp pn ρ=>sound (hc C s H fp pn) c.comp g.comp ρ) h
theorem Ts.mov:∀{X:Cx}{i j:Nat}{x y:ar}{p q pos:aO}(hi:X.N[i]?=a8 x) (hj:X.N[j]?=a8 y) (hx:Loc X.env.scope x) (hf:X.fn x=ae\/X.env.scope.names.lookup x=a8 .local) (hv:Vis X.env.scope y) (hd:(y==k8z)=aa) (hcd:(y==k90)=aa),Ts X (.mov i j) (.s (.Assign [.Name x p] (.Name y q) pos)):=by
 intro _ _ _ _ _ _ _ _ hi hj hx hf hv hd hcd;refine⟨λfu Γ G=>?_⟩;intro c g ρ P h;rw[jjr]at h;unfold Em at h;split at h
 .rename_i l e;obtain⟨a,q⟩:=Qu e;split at h
  .exact h.elim
  .rename_i hij;exact DS.mov q hij (h _ (by rw[jo,jo];rfl)) c.nd hi hj hx hf hv hd hcd
 .rename_i d e;exact DS.set _ (DE.var _ (Wo e) hj hv hd hcd) (h _ jo) c.nd hi hx rfl hf
 .exact h.elim
theorem Ts.expr:∀{X:Cx}{e':Ex}{e:au}{pos:aO}(hs:aJ e af pos.line X.env=pure aa),Tr X e' (.e e)->Ts X (.expr e') (.s (.Expr e pos)):=by
 intro _ _ _ _ hs he;refine⟨λfu Γ G=>?_⟩;intro c g ρ P h;rw[jhg]at h;unfold j05 at h;rcases Yv h with h|⟨y,ey,hP⟩
 rotate_left
 .exact DS.exprX (Ig he c g ρ y ey) (hP ρ rfl) hs
 split at h
 .rename_i r e;exact DS.expr (sound he c g ρ r e).toT (h ρ rfl) hs
 .exact h.elim
theorem Ts.ret:∀{X:Cx}{e':Ex}{e:au}{pos:aO},Tr X e' (.e e)->Ts X (.ret e') (.s (.Return (a8 e) pos)):=by
 intro _ _ _ _ he;refine⟨λfu Γ G=>?_⟩;intro c g ρ P h;rw[ja6]at h;unfold retS at h;rcases Yv h with h|⟨y,ey,hP⟩
 rotate_left
 .exact DS.retX (Ig he c g ρ y ey) (hP ρ rfl)
 split at h
 .rename_i l e;exact DS.retO (sound he c g ρ _ e) (h _ rfl)
 .rename_i r hn e;exact DS.ret (sound he c g ρ _ e).toT (h _ rfl)
 .exact h.elim
theorem Ts.retV:∀{X:Cx}{i:Nat}{x:ar}{p pos:aO}(hi:X.N[i]?=a8 x) (hv:Vis X.env.scope x) (hd:(x==k8z)=aa) (hcd:(x==k90)=aa),Ts X (.retV i) (.s (.Return (a8 (.Name x p)) pos)):=by
 intro _ _ _ _ _ hi hv hd hcd;refine⟨λfu Γ G=>?_⟩;intro c g ρ P h;rw[jhd]at h;unfold M7 at h;split at h
 .rename_i l e;obtain⟨a,q⟩:=Qu e;exact DS.retV _ q (h _ rfl) hi hv hd hcd
 .rename_i d e;exact DS.ret (DE.toT (DE.var _ (Wo e) hi hv hd hcd)) (h _ rfl)
 .exact h.elim
theorem Ts.ife:∀{X:Cx}{c':Ex}{a b:Sx}{c:au}{sa sb:List aP}{pos:aO},Tr X c' (.b c)->Ts X a (.ss sa)->Ts X b (.ss sb)->Ts X (.ife c' a b) (.s (.If c sa sb pos)):=by
 intro _ _ _ _ _ _ _ _ hc q1 q2;refine⟨λfu Γ G=>?_⟩;have iha:=q1.m fu Γ G;have ihb:=q2.m fu Γ G;intro c g ρ P h;rw[jjs]at h;split at h
 .rename_i e;exact DS.if (sound hc c g ρ ae e) (λ_=>iha c g ρ P h) λz=>by cases z
 .rename_i e;exact DS.if (sound hc c g ρ aa e) (λz=>by cases z) λ_=>ihb c g ρ P h
 .exact h.elim
def Ts.for1:∀{X:Cx}{i:Nat}{y:ar}{it':Ex}{b:Sx}{it:au}{body:List aP} {p pos:aO} (hq:X.calm=ae) (hi:X.N[i]?=a8 y) (hx:Loc X.env.scope y) (hf:X.fn y=ae\/X.env.scope.names.lookup y=a8 .local) (hs:∀x,aI it X.env x=pure x),Tr X it' (.i (.Name y p) it)->Ts X b (.ss body)->Ts X (.loop [i] it' b) (.s (.For (.Name y p) it body [] pos)):=by intro _ _ _ _ _ _ _ _ _ hq hi hx hf hs hit q1;refine⟨λfu Γ G=>?_⟩;have ih:=q1.m fu Γ G;intro c g ρ P h;exact Br hq c hs (bind1 c.nd hi hx hf) (λρ ds z=>sound hit c g ρ ds z) (ih c g) h
def Ts.for2:∀{X:Cx}{i j:Nat}{x y:ar}{it':Ex}{b:Sx}{it:au}{body:List aP} {n:Nat} {p q pt pos:aO} (hq:X.calm=ae) (hij:i≠j) (hi:X.N[i]?=a8 x) (hj:X.N[j]?=a8 y) (hx:Loc X.env.scope x) (hy:Loc X.env.scope y) (hf:X.fn x=ae\/X.env.scope.names.lookup x=a8 .local) (hg:X.fn y=ae\/X.env.scope.names.lookup y=a8 .local) (hs:∀x,aI it X.env x=pure x),Tr X it' (.i (.Tuple [.Name x p,.Name y q] n pt) it)->Ts X b (.ss body)->Ts X (.loop [i,j] it' b) (.s (.For (.Tuple [.Name x p,.Name y q] n pt) it body [] pos)):=by intro _ _ _ _ _ _ _ _ _ _ _ _ _ _ hq hij hi hj hx hy hf hg hs hit q1;refine⟨λfu Γ G=>?_⟩;have ih:=q1.m fu Γ G;intro c g ρ P h;exact Br hq c hs (jjd hq hij c.nd hi hj hx hy hf hg) (λρ ds z=>sound hit c g ρ ds z) (ih c g) h
theorem Ts.app:∀{X:Cx}{i:Nat}{x:ar}{e':Ex}{e:au}{p p1 p2 pos:aO}(hN:X.N[i]?=a8 x) (hv:Vis X.env.scope x) (hd:(x==k8z)=aa) (hcd:(x==k90)=aa) (hst:ah [e] X.env=[(aa,aD e X.env)]) (hline:(p1.endLine==p2.line)=ae) (hbase:aR (.Name x p) "append" X.env (aD (.Name x p) X.env)=aD (.Name x p) X.env) (hfew:((aU p2 (ah [e] X.env)).all (λx=>!x.1)&&(cC p2 (bF [] X.env)).all (λx=>x.1.isSome)&&decide (([e]:List au).length+([]:List bq).length+(if ([]:List bq).isEmpty then 0 else 1)<30))=ae),Tr X e' (.e e)->Ts X (.app i e') (.s (.Expr (.Call (.Attribute (.Name x p) "append" p1) [e] [] p2) pos)):=by
 intro _ _ _ _ _ _ _ _ _ hN hv hd hcd hst hline hbase hfew he;refine⟨λfu Γ G=>?_⟩;intro c g ρ P h;rw[jju]at h;unfold M4 at h;split at h
 .rename_i l x el ex;obtain⟨a,q⟩:=Qu el;split at h
  .rename_i d hd';split at h
   .rename_i hz;exact DS.append _ q ((sound he c g ρ x ex).toE hd') hz (h _ jo) hN hv hd hcd hst hline hbase hfew rfl
   .exact h.elim
  .exact h.elim
 .exact h.elim
theorem Ts.ext:∀{X:Cx}{i:Nat}{x:ar}{e':Ex}{e:au}{p p1 p2 pos:aO}(hN:X.N[i]?=a8 x) (hv:Vis X.env.scope x) (hd:(x==k8z)=aa) (hcd:(x==k90)=aa) (hst:ah [e] X.env=[(aa,aD e X.env)]) (hline:(p1.endLine==p2.line)=ae) (hbase:aR (.Name x p) "extend" X.env (aD (.Name x p) X.env)=aD (.Name x p) X.env) (hfew:((aU p2 (ah [e] X.env)).all (λx=>!x.1)&&(cC p2 (bF [] X.env)).all (λx=>x.1.isSome)&&decide (([e]:List au).length+([]:List bq).length+(if ([]:List bq).isEmpty then 0 else 1)<30))=ae),Tr X e' (.e e)->Ts X (.ext i e') (.s (.Expr (.Call (.Attribute (.Name x p) "extend" p1) [e] [] p2) pos)):=by
 intro _ _ _ _ _ _ _ _ _ hN hv hd hcd hst hline hbase hfew he;refine⟨λfu Γ G=>?_⟩;intro c g ρ P h;rw[jjt]at h;unfold Dm at h;split at h
 .rename_i l m el ex;obtain⟨a,q⟩:=Qu el;split at h
  .rename_i hz;exact DS.extend _ q (sound he c g ρ _ ex) (zj hz) (h _ jo) hN hv hd hcd hst hline hbase hfew rfl
  .exact h.elim
 .exact h.elim
section
def Uo{fu:Nat}{Γ:ar->List D->Rc}{G:ar->Option D}{X:Cx}{t:Sx}{nd:Ns}(h:Ts X t nd):Cok X G->Gok X Γ->ja7 fu Γ G X t nd:=h.m fu Γ G
end
theorem Rg{f:D->List zo->zo->Option (D×List zo×zo)}:∀{l rs:List D}{ks ks':List zo} {ns ns':zo},vp f l ks ns=a8 (rs,ks',ns')->rs.length=l.length
 |[],rs,ks,ks',ns,ns',h=>by cases h;rfl
 |d::l,rs,ks,ks',ns,ns',h=>by
  unfold vp at h;split at h
  .cases h
  .split at h
   .cases h
   .rename_i e;cases h;rw[X7,X7,Rg e]
def Er{f:D->List zo->zo->Option (D×List zo×zo)}{l rs:List D}{i:Nat}{d:D}{ks ks':List zo}{ns ns':zo}(hd:l[i]?=a8 d)(h:vp f (l.drop i) ks ns=a8 (rs.drop i,ks',ns')) :
  ∃r ks1 ns1,f d ks ns=a8 (r,ks1,ns1)/\rs[i]?=a8 r/\vp f (l.drop (i+1)) ks1 ns1=a8 (rs.drop (i+1),ks',ns'):=by
 have hi:=(X4.mp hd).1;have e:l.drop i=d::l.drop (i+1):=by rw[iE hi];congr 1;exact(X4.mp hd).2
 rw[e]at h;unfold vp at h;split at h
 .cases h
 .rename_i r ks1 ns1 e1;split at h
  .cases h
  .rename_i rs2 ks2 ns2 e2;have z:=ax h;have z1:r::rs2=rs.drop i:=congrArg Prod.fst z;have z2:(ks2,ns2)=(ks',ns'):=congrArg Prod.snd z;cases z2;have hr:rs[i]?=a8 r:=by
    have:(rs.drop i)[0]?=a8 r:=by rw[<-z1];rfl
    rw[List.getElem?_drop,mD]at this;exact this
   have hr2:rs.drop (i+1)=rs2:=by
    have:(rs.drop i).drop 1=rs2:=by rw[<-z1];rfl
    rw[List.drop_drop]at this;exact this
   exact⟨r,ks1,ns1,e1,hr,by rw[hr2];exact e2⟩
def j4k:∀{rs ds:List D}{ls:List zo},Ye rs ds=a8 ls->ls.length=rs.length/\∀(i:Nat)(r d:D),rs[i]?=a8 r->ds[i]?=a8 d->∃n s,r=.int n/\d=.int s/\ls[i]?=a8 [n,s]:=by
 intro rs;induction rs with
 |nil =>
  intro ds ls h;cases ds with
  |nil=>cases h;exact⟨rfl,λi r d h=>by cases h⟩
  |cons _ _=>cases h
 |cons r rs ih =>
  intro ds ls h;cases ds with
  |nil=>cases r<;>cases h
  |cons d ds =>
   cases r with
   |int n =>
    cases d with
    |int s =>
     unfold Ye at h;obtain⟨l2,e,rfl⟩:=Xv.mp h;obtain⟨z1,z2⟩:=ih e;refine⟨by rw[X7,X7,z1],λi r' d' h1 h2=>?_⟩;cases i with
     |zero=>cases h1;cases h2;exact⟨n,s,rfl,rfl,rfl⟩
     |succ i=>exact z2 i r' d' h1 h2
    |_=>cases h
   |_=>cases h
section
variable{X:Cx}{nx nw nt g y:ar}{c:au}{es:List au}{c' es' it':Ex}{s t j:Nat}{st:aP}{scope:bH}
def j8p{Γ:ar->List D->Rc}{f:ar}{a:Option W}{ks ks':List zo}{ns ns':zo}{d:D}(h:zc Γ f a ks ns=a8 (d,ks',ns')):∃rs ds,a=a8 (.a rs)/\zu rs=a8 ds/\Γ (dq f) (.dct ks (ns.map D.int)::ds)=.dval d ks' ns':=by
 unfold zc at h;split at h
 .rename_i rs;split at h
  .rename_i ds eds;split at h
   .rename_i e;cases h;exact⟨rs,ds,rfl,eds,e⟩
   .cases h
  .cases h
 .cases h
def Rz{Γ:ar->List D->Rc}{G:ar->Option D}{Y:Cx}{ρ:Rho}{ks ks':List zo}{ns ns':zo}{d:D}{p p1 pos:aO}(cc:Cok Y G)(gg:Gok Y Γ)(ha:Tr Y es' (.a es))(ho:owns ρ=[])(h:zc Γ g (ev Γ G es' (j5 ρ)) ks ns=a8 (d,ks',ns'))
  (hN:Y.N[0]?=a8 nx) (hv:Vis Y.env.scope nx) (hd:(nx==k8z)=aa) (hcd:(nx==k90)=aa) (hg:Gl Y g) (hdb:(g==k8z)=aa)
  (hs:ah (.Name nx p1::es) Y.env=(aa,aD (.Name nx p1) Y.env)::ah es Y.env) (hpl:(aU pos (ah es Y.env)).any (·.1)=aa):DFx Y ρ 0 (.Call (.Name g p) (.Name nx p1::es) [] pos) ks ns d ks' ns':=by
 obtain⟨rs,ds,e1,e2,e3⟩:=j8p h;have q:=gg (dq g) (.dct ks (ns.map D.int)::ds);rw[e3]at q;exact DFx.call (q g ks ns ds rfl rfl) ((sound ha cc gg ρ rs e1).toA e2) ⟨rfl,rfl,rfl,rfl,rfl,rfl⟩ ho hN hv hd hcd hg hdb hs hpl
def Zi{ρ:Rho}{i:Nat}{d:D}:j5 (ρ.set i (.val d))=(j5 ρ).set i (.val d):=jo
def jd8{ρ:Rho}{i:Nat}{d:D}(h:(j5 ρ)[i]?=a8 (.val d)):ρ[i]?=a8 (.val d):=Wo h
def Ju{ρ:Rho}{i:Nat}{d:D}(h:owns ρ=[]):owns (ρ.set i (.val d))=[]:=by have:=(jg (ρ:=ρ) (i:=i) (s:=.val d) rfl).subset;rw[h]at this;exact Tp.mpr λb hb=>absurd (this hb) (by simp)
theorem MD.fill{n0 n1 n2:Nat}{p1 p2 p3 p4 p5 p6 p7 p8 p9 p10 p11 p12 p13 p14 p15 p16 p17 p18 p19 p20 p21 q1 q2 q3:aO}(hX:X.N[0]?=a8 nx)(hW:X.N[s]?=a8 nw)(hT:X.N[t]?=a8 nt)(vx:Vis X.env.scope nx)(vw:Vis X.env.scope nw)(lt:Loc X.env.scope nt)(ft:X.fn nt=ae\/X.env.scope.names.lookup nt=a8 .local)
  (dx:(nx==k8z)=aa) (cx:(nx==k90)=aa) (dw:(nw==k8z)=aa) (cw:(nw==k90)=aa) (dt:(nt==k8z)=aa) (ct:(nt==k90)=aa)
  (hm:aG .NotIn (.Name nx p2)=aa) (s1:aJ c (a8 (.Name nt p4)) p5.line X.env=pure aa)
  (s2:aJ (.IfExp (.Name nt p9) (.Constant (.int 0) n0 p10) (.BinOp (.Constant (.int 1) n1 p11) .Add (.Subscript (.Call (.Name g q1) (.Name nx q2::es) [] q3) (.Constant (.int 0) n2 p12) p13) p14) p15) (a8 (.Subscript (.Name nx p6) (.Name nw p7) p8)) p16.line X.env=pure aa)
  (hx0:Jz (.Constant (.int 0) n2 p12)) (hxw:Jz (.Name nw p19)) (hg:Gl X g) (hdb:(g==k8z)=aa) (hs:ah (.Name nx q2::es) X.env=(aa,aD (.Name nx q2) X.env)::ah es X.env) (hpl:(aU q3 (ah es X.env)).any (·.1)=aa)
  (hc:Tr X c' (.e c)) (hb:Tr X (.var t) (.b (.Name nt p9))) (he:Tr X es' (.a es)) :
  MD X (.fill s t c' g es') (fText nx nw nt c (.Call (.Name g q1) (.Name nx q2::es) [] q3) n0 n1 n2 p1 p2 p3 p4 p5 p6 p7 p8 p9 p10 p11 p12 p13 p14 p15 p16 p17 p18 p19 p20 p21):=λΓ G cc gg ρ a ks ns d ks' ns' h0 ho hr=>by
 replace hr:Wc s t (j5 ρ) ks ns (ev Γ G c' (j5 ρ)) (zc Γ g (ev Γ G es' ((j5 ρ).set t (.val (.bl aa)))) ks ns)=a8 (d,ks',ns'):=hr
 unfold Wc at hr;split at hr
 .rename_i l el;split at hr
  .rename_i k ek;split at hr
   .rename_i hcnd;obtain⟨c1,c2,c3⟩:=hcnd;have hl:t<ρ.length:=by unfold j5 at c1;rw[xf]at c1;exact c1
    have ew:=jd8 el;rw[vh ek]at ew;have hB:∀b:Bool,ρ[t]?=ρ[t]?->DB X (ρ.set t (.val (.bl b))) (.Name nt p9) b:=λb _=>sound hb cc gg _ _ (by
     rw[jo]
     have:(j5 ρ).set t (.val (.bl b))=(j5 ρ).set t (.val (.bl b)):=rfl
     show truth (ev Γ G (.var t) _)=a8 b
     unfold ev
     rw[d9 c1];rfl)
    cases hk:ks.contains k with
    |true =>rw[hk,if_pos rfl]at hr;obtain⟨d2,e1,e2⟩:=Xv.mp hr;cases e2;exact DDb.fill (k:=k) (b:=ae) (n:=0) (tl:=[]) (ks1:=ks) (ns1:=ns) h0 ho ew c2 c3 hl (λ_=>⟨rfl,rfl,e1⟩) (λz=>by rw[hk]at z;cases z) cc.un' cc.nd hX hW hT vx vw lt ft dx cx dw cw dt ct hm s1 s2 hx0 hxw hB
    |false =>
     rw[hk,if_neg xj]at hr;split at hr
     .rename_i r er;split at hr
      .rename_i eb;split at hr
       .rename_i hz;cases hr;exact DDb.fill (k:=k) (b:=ae) (n:=0) (tl:=[]) (ks1:=ks) (ns1:=ns) h0 ho ew c2 c3 hl (λz=>by rw[hk]at z;cases z) (λ_=>⟨(sound hc cc gg ρ r er).toE eb,λ_=>⟨rfl,rfl,rfl⟩,λz=>(by cases z),hk,hz,rfl,rfl,rfl⟩) cc.un' cc.nd hX hW hT vx vw lt ft dx cx dw cw dt ct hm s1 s2 hx0 hxw hB
       .cases hr
      .rename_i eb;split at hr
       .rename_i m tl ks1 ns1 ecl;split at hr
        .rename_i hz;cases hr;rw[<-Zi]at ecl;exact DDb.fill (k:=k) (b:=aa) (n:=1+m) (tl:=tl) (ks1:=ks1) (ns1:=ns1) h0 ho ew c2 c3 hl (λz=>by rw[hk]at z;cases z) (λ_=>⟨(sound hc cc gg ρ r er).toE eb,λz=>(by cases z),λ_=>⟨m,Rz cc gg he (Ju ho) ecl hX vx dx cx hg hdb hs hpl,rfl⟩,hz.1,hz.2,rfl,rfl,rfl⟩) cc.un' cc.nd hX hW hT vx vw lt ft dx cx dw cw dt ct hm s1 s2 hx0 hxw hB
        .cases hr
       .cases hr
      .cases hr
     .cases hr
   .cases hr
  .cases hr
 .cases hr
def SetT(X:Cx)(t:Nat)(it':Ex)(st:aP):Prop:=∀(Γ:ar->List D->Rc)(G:ar->Option D),Cok X G->Gok X Γ->∀(ρ:Rho)(l:List D)(P:Po),ev Γ G it' (j5 ρ)=a8 (.v (.o l))->(∀b,P.nx (ρ.set t (.own b l)))->DS X ρ st P
theorem SetT.e{e:au}{x:ar}{p pos:aO}(hi:X.N[t]?=a8 x)(hx:Loc X.env.scope x)(hs:aJ e (a8 (.Name x p)) pos.line X.env=pure aa)(hf:X.fn x=ae\/X.env.scope.names.lookup x=a8 .local)(he:Tr X it' (.e e)):SetT X t it' (.Assign [.Name x p] e pos):=λΓ G cc gg ρ l P e h =>DS.setO _ (sound he cc gg ρ _ e) h cc.nd hi hx hs hf
def SetT.cmp{k i:Nat}{z y:ar}{py p p1 pos:aO}{elt' jt' c':Ex}{elt it:au}{ifs:List au}{scope:bH}(hq:X.calm=ae)(hk:X.N[k]?=a8 z)(hx:Loc X.env.scope z)(hf:X.fn z=ae\/X.env.scope.names.lookup z=a8 .local)
  (hsw:aJ (.ListComp elt [⟨.Name y py,it,ifs,0⟩] scope p) (a8 (.Name z p1)) pos.line X.env=pure ae) (hi:X.N[i]?=a8 y) (hl:V9 scope y=ae) (hkind:scope.kind=.function) (hok:v7 scope X.env X.N [i]=ae)
  (hs:∀x,aI it X.env x=pure x) (hit:Tr X jt' (.i (.Name y py) it)) (he:∀C s H fp pn,Tr (cCx X scope C s H fp pn) elt' (.e elt)) (hc:∀C s H fp pn,Tr (cCx X scope C s H fp pn) c' (.c ifs)) :
  SetT X k (.comp [i] elt' jt' c') (.Assign [.Name z p1] (.ListComp elt [⟨.Name y py,it,ifs,0⟩] scope p) pos):=λΓ G cc gg ρ l P e hP=>by
 obtain⟨l',ρf,ds,pr,g,er,el,hfz,hi',hun,hz,hb'⟩:=Ug (scope:=scope) (λρ ds z=>sound hit cc gg ρ ds z) (λρ d ρ2 hb hun=>by
   simp only[qz]at hb
   cases hb
   have hu:=hun _ (xg.mpr rfl)
   exact⟨_,jo,Wk.set hu,Z0 hu,λC s H fp pn=>DG.name _ cc.nd hi (V4 hl) (Yd hl)⟩)
   (λC s H fp pn ρ r z=>sound (he C s H fp pn) cc.comp gg.comp ρ r z) (λC s H fp pn ρ=>sound (hc C s H fp pn) cc.comp gg.comp ρ) e
 cases er;refine DS.setCf (ρf:=ρf) k [i] pr g ?_ ?_ hi' hb' (λa=>?_) cc.nd hun hz hk hx hf hsw hq hkind hok hs
 .rcases hfz with e|⟨_,i,a,l',q,e⟩
  .subst e;exact λ_ _ _ R=>R
  .subst e;exact λ_ _ _ R=>R.freeze q
 .rcases hfz with e|⟨n,_⟩
  .exact .inl e
  .exact .inr (el▸n)
 .rw[<-el];exact hP a
def j4v{j:Nat}{w:Option W}{ρ ρ3:En}{l:List D}(h:lsD t j w ρ=a8 (l,ρ3)):w=a8 (.v (.o l))/\l.length<=1000/\j≠0/\t≠0/\j≠t/\ρ[j]?=a8 .un/\t<ρ.length/\ρ3=ρ.set t (.val (.lst l)):=by
 unfold lsD at h;split at h
 .rename_i l0;split at h
  .rename_i hc;cases h;obtain⟨a,b,c,d,e,f⟩:=hc;refine⟨rfl,a,b,c,d,?_,f,rfl⟩;unfold jfo at e;split at e
   .assumption
   .cases e
  .cases h
 .cases h
structure LoT(X:Cx)(t j:Nat)(nt y nx g:ar)(es':Ex)(es:List au)(scope:bH)(py p6 q2 q3:aO):Prop where
 hq:X.calm=ae
 hT:X.N[t]?=a8 nt
 vt:Vis X.env.scope nt
 dt:(nt==k8z)=aa
 ct:(nt==k90)=aa
 hj:X.N[j]?=a8 y
 htg:V9 scope y=ae
 hkind:scope.kind=.function
 hok:v7 scope X.env X.N [j]=ae
 hf:∀x,aI (.Name nt p6) X.env x=pure x
 hX:X.N[0]?=a8 nx
 dx:(nx==k8z)=aa
 cx:(nx==k90)=aa
 hdb:(g==k8z)=aa
 hv:∀C s H fp pn,Vis (cCx X scope C s H fp pn).env.scope nx
 hg:∀C s H fp pn,Gl (cCx X scope C s H fp pn) g
 hs:∀C s H fp pn,ah (.Name nx q2::es) (cCx X scope C s H fp pn).env=(aa,aD (.Name nx q2) (cCx X scope C s H fp pn).env)::ah es (cCx X scope C s H fp pn).env
 hpl:∀C s H fp pn,(aU q3 (ah es (cCx X scope C s H fp pn).env)).any (·.1)=aa
 he:∀C s H fp pn,Tr (cCx X scope C s H fp pn) es' (.a es)
theorem MD.minc {n:Nat} {p3 p4 p5 p6 p7 p8 p9 py q1 q2 q3:aO} (hset:SetT X t it' st) (L:LoT X t j nt y nx g es' es scope py p6 q2 q3) (hgm:Gl X "min") (hsm:ah [.ListComp (.Tuple [.Call (.Name g q1) (.Name nx q2::es) [] q3,.Name y p4] n p5) [⟨.Name y py,.Name nt p6,[],0⟩] scope p7] X.env=[(aa,aD (.ListComp (.Tuple [.Call (.Name g q1) (.Name nx q2::es) [] q3,.Name y p4] n p5) [⟨.Name y py,.Name nt p6,[],0⟩] scope p7) X.env)])
  (hs1:∀C s H fp pn,ah [.Call (.Name g q1) (.Name nx q2::es) [] q3,.Name y p4] (cCx X scope C s H fp pn).env=(aa,aD (.Call (.Name g q1) (.Name nx q2::es) [] q3) (cCx X scope C s H fp pn).env)::ah [.Name y p4] (cCx X scope C s H fp pn).env)
  (hs2:∀C s H fp pn,ah [.Name y p4] (cCx X scope C s H fp pn).env=(aa,aD (.Name y p4) (cCx X scope C s H fp pn).env)::ah [] (cCx X scope C s H fp pn).env) (hy:∀C s H fp pn,Tr (cCx X scope C s H fp pn) (.var j) (.e (.Name y p4))) :
  MD X (.minc t j it' g es') [st,.Return (a8 (.Call (.Name "min" p3) [.ListComp (.Tuple [.Call (.Name g q1) (.Name nx q2::es) [] q3,.Name y p4] n p5) [⟨.Name y py,.Name nt p6,[],0⟩] scope p7] [] p8)) p9]:=λΓ G cc gg ρ a ks ns d ks' ns' h0 ho hr=>by
 replace hr:Yu (lsD t j (ev Γ G it' (j5 ρ)) (j5 ρ)) (λl ρ3=>minD l (vp (λd ks ns=>zc Γ g (ev Γ G es' (ρ3.set j (.val d))) ks ns) l ks ns))=a8 (d,ks',ns'):=hr
 cases e1:lsD t j (ev Γ G it' (j5 ρ)) (j5 ρ) with
 |none=>rw[e1]at hr;cases hr
 |some r1 =>
  obtain⟨l,ρ3⟩:=r1;rw[e1]at hr;obtain⟨z1,z2,z3,z4,z5,z6,z7,z8⟩:=j4v e1;subst z8
  replace hr:minD l (vp (λd ks ns=>zc Γ g (ev Γ G es' (((j5 ρ).set t (.val (.lst l))).set j (.val d))) ks ns) l ks ns)=a8 (d,ks',ns'):=hr
  have hl:t<ρ.length:=by unfold j5 at z7;rw[xf]at z7;exact z7
  refine DDb.then (N:=λρ1=>∃b,ρ1=ρ.set t (.own b l)) ho (hset Γ G cc gg ρ l _ z1 λb=>⟨b,rfl⟩) ?_;rintro _ ⟨b,rfl⟩;refine DDb.freeze (i:=t) (b:=b) (l:=l) (Js hl) ?_;rw[iS];have h0':=Fp (v:=.val (.lst l)) h0 z4;have ho':owns (ρ.set t (.val (.lst l)))=[]:=Ju ho;unfold minD at hr;cases e2:vp (λd ks ns=>zc Γ g (ev Γ G es' (((j5 ρ).set t (.val (.lst l))).set j (.val d))) ks ns) l ks ns with
  |none=>rw[e2]at hr;cases hr
  |some r2 =>
   obtain⟨rs,ks2,ns2⟩:=r2;rw[e2]at hr;dsimp only at hr;cases e3:Ye rs l with
   |none=>rw[e3]at hr;cases hr
   |some ls =>
    rw[e3]at hr;obtain⟨k,e4,e5⟩:=Xv.mp hr;cases e5;obtain⟨w1,w2⟩:=j4k e3;have rl:=Rg e2;have hju:(ρ.set t (.val (.lst l)))[j]?=a8 .un:=by rw[qg (bE z5)];exact Dv z6
    refine DDb.ret h0' (DFx.minT cc.un' L.hq (cc.bt _ (by decide)) hgm (DFl.comp (rs:=ls.map λk=>D.tup (k.map D.int)) (ds:=l) (DI.lst (DE.var t (Js hl) L.hT L.vt L.dt L.ct)) ho' (bE z3) hju (Xd z2 (by decide)) (by rw[xf,w1,rl]) (λC s H fp pn=>Y6 cc.nd L.hj (V4 L.htg) (Yd L.htg))
     (λi ks1 ns1=>vp (λd ks ns=>zc Γ g (ev Γ G es' (((j5 ρ).set t (.val (.lst l))).set j (.val d))) ks ns) (l.drop i) ks1 ns1=a8 (rs.drop i,ks',ns')) (by simpa using e2) (λks2 ns2 hw=>by rw[gY]at hw;have z:=ax hw;exact⟨congrArg (·.2.1) z,congrArg (·.2.2) z⟩) (λC s H fp pn i d ks1 ns1 hd hw=>?_) L.hq L.hkind L.hok L.hf) e4 hsm)
    obtain⟨r,ks3,ns3,y1,y2,y3⟩:=Er hd hw;obtain⟨nn,ss,x1,x2,x3⟩:=w2 i r d y2 hd;subst x1 x2;have hjl:j<(ρ.set t (.val (.lst l))).length:=(X4.mp hju).1;refine⟨.tup [.int nn,.int ss],ks3,ns3,DFx.tup2 (Rz cc.comp gg.comp (L.he C s H fp pn) (Ju ho') ?_ L.hX (L.hv C s H fp pn) L.dx L.cx (L.hg C s H fp pn) L.hdb (L.hs C s H fp pn) (L.hpl C s H fp pn)) ((sound (hy C s H fp pn) cc.comp gg.comp _ (.e (.int ss)) ?_).toE rfl) (Ju ho') (hs1 C s H fp pn) (hs2 C s H fp pn),by rw[xn,x3];rfl,y3⟩
    .rw[Zi,Zi];exact y1
    .rw[Zi];unfold ev;rw[d9 (by unfold j5;rw[xf];exact hjl)];rfl
theorem MD.maxc {p3 p6 p7 p8 p9 py q1 q2 q3:aO} (hset:SetT X t it' st) (L:LoT X t j nt y nx g es' es scope py p6 q2 q3) (hgm:Gl X "max") (hsm:ah [.ListComp (.Call (.Name g q1) (.Name nx q2::es) [] q3) [⟨.Name y py,.Name nt p6,[],0⟩] scope p7] X.env=[(aa,aD (.ListComp (.Call (.Name g q1) (.Name nx q2::es) [] q3) [⟨.Name y py,.Name nt p6,[],0⟩] scope p7) X.env)]) :
  MD X (.maxc t j it' g es') [st,.Return (a8 (.Call (.Name "max" p3) [.ListComp (.Call (.Name g q1) (.Name nx q2::es) [] q3) [⟨.Name y py,.Name nt p6,[],0⟩] scope p7] [] p8)) p9]:=λΓ G cc gg ρ a ks ns d ks' ns' h0 ho hr=>by
 replace hr:Yu (lsD t j (ev Γ G it' (j5 ρ)) (j5 ρ)) (λl ρ3=>Ma (vp (λd ks ns=>zc Γ g (ev Γ G es' (ρ3.set j (.val d))) ks ns) l ks ns))=a8 (d,ks',ns'):=hr
 cases e1:lsD t j (ev Γ G it' (j5 ρ)) (j5 ρ) with
 |none=>rw[e1]at hr;cases hr
 |some r1 =>
  obtain⟨l,ρ3⟩:=r1;rw[e1]at hr;obtain⟨z1,z2,z3,z4,z5,z6,z7,z8⟩:=j4v e1;subst z8
  replace hr:Ma (vp (λd ks ns=>zc Γ g (ev Γ G es' (((j5 ρ).set t (.val (.lst l))).set j (.val d))) ks ns) l ks ns)=a8 (d,ks',ns'):=hr
  have hl:t<ρ.length:=by unfold j5 at z7;rw[xf]at z7;exact z7
  refine DDb.then (N:=λρ1=>∃b,ρ1=ρ.set t (.own b l)) ho (hset Γ G cc gg ρ l _ z1 λb=>⟨b,rfl⟩) ?_;rintro _ ⟨b,rfl⟩;refine DDb.freeze (i:=t) (b:=b) (l:=l) (Js hl) ?_;rw[iS];have h0':=Fp (v:=.val (.lst l)) h0 z4;have ho':owns (ρ.set t (.val (.lst l)))=[]:=Ju ho;unfold Ma at hr;cases e2:vp (λd ks ns=>zc Γ g (ev Γ G es' (((j5 ρ).set t (.val (.lst l))).set j (.val d))) ks ns) l ks ns with
  |none=>rw[e2]at hr;cases hr
  |some r2 =>
   obtain⟨rs,ks2,ns2⟩:=r2;rw[e2]at hr;dsimp only at hr;cases e3:intsOf rs with
   |none=>rw[e3]at hr;cases hr
   |some ms =>
    rw[e3]at hr;dsimp only at hr;split at hr
    .rename_i hne;cases hr;have er:=vh e3;have rl:=Rg e2;have hju:(ρ.set t (.val (.lst l)))[j]?=a8 .un:=by rw[qg (bE z5)];exact Dv z6
     refine DDb.ret h0' (DFx.maxL (DFl.comp (rs:=ms.map D.int) (ds:=l) (DI.lst (DE.var t (Js hl) L.hT L.vt L.dt L.ct)) ho' (bE z3) hju (Xd z2 (by decide)) (by rw[<-er];exact rl) (λC s H fp pn=>Y6 cc.nd L.hj (V4 L.htg) (Yd L.htg))
      (λi ks1 ns1=>vp (λd ks ns=>zc Γ g (ev Γ G es' (((j5 ρ).set t (.val (.lst l))).set j (.val d))) ks ns) (l.drop i) ks1 ns1=a8 (rs.drop i,ks',ns')) (by simpa using e2) (λks2 ns2 hw=>by rw[gY]at hw;have z:=ax hw;exact⟨congrArg (·.2.1) z,congrArg (·.2.2) z⟩) (λC s H fp pn i d ks1 ns1 hd hw=>?_) L.hq L.hkind L.hok L.hf) hne (cc.bt _ (by decide)) L.hq hgm hsm)
     obtain⟨r,ks3,ns3,y1,y2,y3⟩:=Er hd hw;refine⟨r,ks3,ns3,Rz cc.comp gg.comp (L.he C s H fp pn) (Ju ho') ?_ L.hX (L.hv C s H fp pn) L.dx L.cx (L.hg C s H fp pn) L.hdb (L.hs C s H fp pn) (L.hpl C s H fp pn),by rw[<-er];exact y2,y3⟩;rw[Zi,Zi];exact y1
    .cases hr
end
structure Fi where
 n:Nat
 nn:Nat
 body:Sx
 lam:Bool
noncomputable def jfc:Rc->Rc
 |.val d=>.lval d
 |_=>.no
noncomputable def fin:So->Rc
 |.ret r=>r
 |.next _=>.val .non
 |.err x _=>.err x
 |_=>.no
noncomputable def enter(F:Fi)(ds:List D):En:=ds.map Sv.val++ay (F.nn-F.n) Sv.un
noncomputable def evP(fu:Nat)(G:ar->Option D)(T:ar->Option Fi):Nat->ar->List D->Rc
 |0,_,_=>.no
 |n+1,f,ds=>match T f with
  |none=>.no
  |some F=>if ds.length=F.n then(if F.lam=ae then jfc (fin (run fu (evP fu G T n) G F.body (enter F ds)))else fin (run fu (evP fu G T n) G F.body (enter F ds)))else .no
structure Lk(P:az)(w:aE)(K:k8v)(mg:k8y)(base:aH)(x:ar)(F:Fi):Prop where
 ex:∃(st:aP)(f:ai)(fd:aM)(N ps:List ar),Fun K x x st f fd/\FnScope N ps (j9 st)/\ps.length=F.n/\N.length=F.nn/\Binds K fd ps []/\Dfl K x fd ps/\mg x=a8 (.ref f) /\
  ∀(cdv:aj)(A:aF)(outer:List dO)(s:aq)(H:Hp)(E:XK)(xe:k8w),Ts ((zp CX0 P w K mg base N x (j9 st) f cdv A outer s H E).wish xe) F.body (.ss (jz st))
structure LkL(P:az)(w:aE)(K:k8v)(mg:k8y)(base:aH)(x:ar)(F:Fi):Prop where
 ex:∃(tx:Tx)(N ps:List ar)(e:Ex),j35 K x=a8 tx/\LamScope N ps tx.2.2/\N.length=F.n/\F.nn=F.n/\F.body=.ret e /\
  (∀(cl:List (ar×ai)) (pm:aj) (c:ai) (ctv:aj) (us:List aj),us.length=ps.length->gn (W.kla_fn "<lambda>" (zm x) tx.1 tx.2.1 tx.2.2 cl pm (.ref c) ctv) ⟨us,[]⟩=pure (ps.zip us)) /\
  ∀(a c:ai)(cl:List (ar×ai)) (A:aF) (outer:List dO) (s:aq) (H:Hp),Tr (U4 P w K mg base N (zm x) tx.2.2 a (.ref c) cl A outer s H) e (.e tx.2.1)
structure LkD(P:az)(w:aE)(K:k8v)(mg:k8y)(base:aH)(x:ar)(F:Fi):Prop where
 ex:∃(g:ar)(p:Dx)(st:aP)(f:ai)(fd:aM)(N ps:List ar),x=dq g/\F.body=.dx p/\Fun K g g st f fd/\FnScope N ps (j9 st)/\ps.length=F.n/\N.length=F.nn/\0<ps.length/\ps.length<=N.length/\Binds K fd ps []/\mg g=a8 (.ref f) /\
  ∀(cdv:aj)(A:aF)(outer:List dO)(s:aq)(H:Hp)(E:XK)(xe:k8w),MD ((zp CX0 P w K mg base N g (j9 st) f cdv A outer s H E).wish xe) p (jz st)
structure Tb(P:az)(w:aE)(K:k8v)(mg:k8y)(base:aH)(G:ar->Option D):Prop where
 bt:∀x∈Vl,mg x=af
 gl:∀x d,Vj x=aa->G x=a8 d->∃u v,mg x=a8 u/\RelV v u/\∀H,Enc K H d v
 ea:Kl K=ae
 ec:∀x d,G (bang x)=a8 d->x∈Jg/\∃o,W.nsIn K aB x=a8 (a8 o)
 el:G "?" = a8 (.bl ae)->∀c∈Jg,∃v,W.nsIn K aB c=a8 (a8 v)
 kin:K.In base
 ns:base.Ns aB mg
 kd:∀x l,G (bang x)=a8 (.lst l)->KindsP P w K mg base "_law_kinds" x l
 fn:∀f d,G (qm f)=a8 d->∃fa,mg f=a8 (.ref fa)/\W.keepIn K (.ref fa)=ae
 lm:∀x∈Vo,∀f cdv,mg x=a8 (.ref f)->Wr K f cdv->∃c Pt,cdv=.ref c/\W.codeHdIn K c Pt=ae/\W.tabIn K x=a8 (c,Pt)
def LkF(P:az)(w:aE)(K:k8v)(mg:k8y)(base:aH)(f:ar)(F:Fi):Prop:=(F.lam=aa->(Lk P w K mg base f F/\f.cps.toList.getLast?≠a8 62/\f.cps.toList.head?≠a8 64/\f.cps.toList.head?≠a8 35/\f.cps.toList.head?≠a8 38)\/LkD P w K mg base f F)/\(F.lam=ae->∃x,f=zm x/\LkL P w K mg base x F)
section
variable{P:az}{w:aE}{K:k8v}{mg:k8y}{base:aH}{fu:Nat}{G:ar->Option D}{T:ar->Option Fi}
def Wq{N:List ar}{ds:List D}{F:Fi}(h1:ds.length=F.n)(h2:N.length=F.nn):j5 (qj N ds)=enter F ds:=by unfold j5 qj enter;rw[Xu,Xf,cV,h1,h2];rfl
def M3(y:ar):(bang y).cps.toList.head?=a8 33:=by unfold bang;show(("!":ar).cps++y.cps).toList.head?=a8 33;rw[cL];rfl
def jcl(y:ar):(dq y).cps.toList.head?=a8 35:=by unfold dq;show(("#":ar).cps++y.cps).toList.head?=a8 35;rw[cL];rfl
def jgi{x y:ar}(h:dq x=dq y):x=y:=by unfold dq at h;have h:(⟨("#":ar).cps++x.cps⟩:ar)=⟨("#":ar).cps++y.cps⟩:=h;have h:=congrArg ki h;have e:x.cps=y.cps:=eQ h rfl;cases x;cases y;cases e;rfl
def j1b{N:List ar}{a:ai}{ds:List D}{F:Fi}{d:D}(h1:ds.length+1=F.n)(h2:N.length=F.nn):j5 (startM N a ds)=(enter F (d::ds)).set 0 (.exc rfN):=by
 have e:N.length-(ds.length+1)=F.nn-F.n:=by omega
 unfold startM;rw[jo];unfold j5 qj enter;rw[Xu,Xf,cV];simp only[X6,gZ,T4,X7,e];rfl
def jd2 (y:ar):bang y ≠ "?":=λh=>by have:=M3 y;rw[h]at this;exact absurd this (by decide)
def j1k(y:ar):(qm y).cps.toList.head?=a8 63:=by unfold qm;show(("??":ar).cps++y.cps).toList.head?=a8 63;rw[cL];rfl
def jib (y:ar):qm y ≠ "?":=λh=>by
 have e:((qm y).cps.toList.drop 1).head?=a8 63:=by unfold qm;show((("??":ar).cps++y.cps).toList.drop 1).head?=a8 63;rw[cL];rfl
 rw[h]at e;exact absurd e (by decide)
def je4{x y:ar}(h:qm x=qm y):x=y:=by unfold qm at h;have h:(⟨("??":ar).cps++x.cps⟩:ar)=⟨("??":ar).cps++y.cps⟩:=h;have h:=congrArg ki h;have e:x.cps=y.cps:=eQ h rfl;cases x;cases y;cases e;rfl
def j26(x y:ar):bang x≠qm y:=λh=>by have:=M3 x;rw[h,j1k]at this;exact absurd this (by decide)
def Mt{x y z:ar}(h:x++z=y++z):x=y:=by have h:(⟨x.cps++z.cps⟩:ar)=⟨y.cps++z.cps⟩:=h;have h:=congrArg ki h;have e:x.cps=y.cps:=Array.append_inj_left' h rfl;cases x;cases y;cases e;rfl
def j7k{x y:ar}(h:zm x=zm y):x=y:=Mt (Mt h)
def Cq(x:ar):(zm x).cps.toList.getLast?=a8 62:=by unfold zm;show(((x ++ ".<locals>.").cps)++("<lambda>":ar).cps).toList.getLast?=a8 62;rw[cL,List.getLast?_append];rfl
def j34(x:ar):zm x∉Vo:=λh=>by
 have e:=Cq x
 revert e
 unfold Vo at h;rcases xq.mp h with h|h
 .rw[h];decide
 rcases xq.mp h with h|h
 .rw[h];decide
 rcases xq.mp h with h|h
 .rw[h];decide
 .rw[xg.mp h];decide
def jdz{fu:Nat}{Γ:ar->List D->Rc}{G:ar->Option D}{e:Ex}{ρ:En}{d:D}(h:fin (run fu Γ G (.ret e) ρ)=.val d):∃r,ev Γ G e ρ=a8 (.v r)/\r.d=d:=by
 rw[ja6]at h;cases z:ev Γ G e ρ with
 |none=>rw[z]at h;cases y:er Γ G e ρ<;>(rw[y]at h;cases h)
 |some w =>
  cases w with
  |v r =>
   rw[z]at h;cases r with
   |o l=>cases h
   |e d=>cases h;exact⟨_,rfl,rfl⟩
   |w l=>cases h;exact⟨_,rfl,rfl⟩
   |t d=>cases h;exact⟨_,rfl,rfl⟩
  |a l=>rw[z]at h;cases y:er Γ G e ρ<;>(rw[y]at h;cases h)
  |i l=>rw[z]at h;cases y:er Γ G e ρ<;>(rw[y]at h;cases h)
def Vi (t:Tb P w K mg base G) {X:Cx} {n:Nat} (h1:X.prog=P) (h2:X.w=w) (h3:X.K=K) (h4:X.mg=mg) (h5:X.base=base) (hn:12<=n) (hr:Room n X.A) (nd:X.N.Nodup) (po:fv (aC X.prog X.w) X.A X.env X.xe) (hlm:∀x∈Vo,X.env.qual=x ++ ".<locals>."->∃c P,X.env.code=.ref c/\W.codeHdIn K c P=ae/\W.tabIn K x=a8 (c,P)) (hfr:∃(env0:dO)(out0:List dO)(L:ai),X.stack=env0::out0/\env0.frame=a8 L/\X.env.frame=a8 L:=by exact⟨_,_,_,rfl,rfl,rfl⟩):Cok X G:=by subst h1 h2 h3 h4 h5;exact⟨by have:=hr.un;omega,(λ_=>by have:=hr.un;omega),(λ_=>by have:=hr.dp;omega),t.bt,t.gl,nd,po,t.ea,t.ec,t.el,t.kin,t.ns,t.kd,t.fn,(λ_=>hr.gd),hfr,hlm⟩
def W5 (t:Tb P w K mg base G) {g:ar} {f:ai} {cdv:aj} {env:dO} (hm:mg g=a8 (.ref f)) (hcv:Wr K f cdv) (hq:env.qual=g ++ ".<locals>.") (hc:env.code=cdv):∀x∈Vo,env.qual=x ++ ".<locals>."->∃c P,env.code=.ref c/\W.codeHdIn K c P=ae/\W.tabIn K x=a8 (c,P):=λx hx e=>by have eg:=Mt (hq.symm.trans e);subst eg;rw[hc];exact t.lm _ hx f cdv hm hcv
noncomputable def lv:Nat->Nat
 |0=>12
 |n+1=>lv n+2
theorem Vw:∀n,12<=lv n+1
 |0=>by decide
 |n+1=>by have:=Vw n;unfold lv;omega
theorem O2:∀ns:zo,intsOf (ns.map D.int)=a8 ns
 |[]=>rfl
 |n::ns=>by rw[X6,intsOf,O2 ns];rfl
theorem Bm(hT:∀x F,T x=a8 F->LkF P w K mg base x F)(t:Tb P w K mg base G):∀(n:Nat)(x:ar)(ds:List D),
  ∃(f:ai)(fd:aM)(ps:List ar),match evP fu G T n x ds with
   |.val d=>FnOk P w K mg base CX0 (lv n) f fd ps (spP K λds' d'=>ds'=ds/\d'=d)/\mg x=a8 (.ref f)/\W.keepIn K (.ref f)=ae/\Binds K fd ps []/\Dfl K x fd ps
   |.fresh l=>FnOk P w K mg base CX0 (lv n) f fd ps (spF K λds' l'=>ds'=ds/\l'=l)/\mg x=a8 (.ref f)/\W.keepIn K (.ref f)=ae/\Binds K fd ps []/\Dfl K x fd ps
   |.err y=>FnOk P w K mg base (CX1 P w) (lv n) f fd ps (spX K mg λds' z=>ds'=ds/\z=y)/\mg x=a8 (.ref f)/\W.keepIn K (.ref f)=ae/\Binds K fd ps []
   |.lval d=>∀y,x=zm y->j3p P w K mg base (lv n) y λds' d'=>ds'=ds/\d'=d
   |.mval _ _=>True
   |.merr _=>True
   |.dval d ks' ns'=>∀g ks ns ds',x=dq g->ds=.dct ks (ns.map D.int)::ds'->FnOk P w K mg base CX0 (lv n) f fd ps (spD K λks2 ns2 ds2 d2 ks2' ns2'=>ks2=ks/\ns2=ns/\ds2=ds'/\d2=d/\ks2'=ks'/\ns2'=ns')/\mg g=a8 (.ref f)/\W.keepIn K (.ref f)=ae/\Binds K fd ps []
   |.hnd _=>True
   |.no=>True
 |0,x,ds=>⟨0,W.fnOf x x { posonlyargs:=[],args:=[],vararg:=af,kwonlyargs:=[],kw_defaults:=[],kwarg:=af,defaults:=[] } [] { kind:=.function,names:=[],isGenerator:=aa,isCoroutine:=aa } .none .none .none .none af .none .none,[],trivial⟩
 |n+1,x,ds=>by
  have ih:=Bm hT t n;cases hF:T x with
  |none =>
   obtain⟨f,fd,ps,_⟩:=ih x ds;refine⟨f,fd,ps,?_⟩;have e:evP fu G T (n+1) x ds=.no:=by simp only[evP,hF]
   rw[e];trivial
  |some F =>
   have gok:∀{X:Cx},X.prog=P->X.w=w->X.K=K->X.mg=mg->X.base=base->Room (lv n+1) X.A->Gok X (evP fu G T n):=λ{X} h1 h2 h3 h4 h5 hr g ds'=>by
    subst h1 h2 h3 h4 h5;obtain⟨f',fd',ps',q⟩:=ih g ds';cases z:evP fu G T n g ds' with
    |val d=>rw[z]at q;exact⟨lv n,f',fd',ps',q.1,hr,q.2.1,q.2.2.1,q.2.2.2⟩
    |fresh l=>rw[z]at q;exact⟨lv n,f',fd',ps',q.1,hr,q.2.1,q.2.2.1,q.2.2.2⟩
    |err y=>rw[z]at q;exact⟨lv n,f',fd',ps',q.1,hr.mono (Pk _),q.2.1,q.2.2.1,q.2.2.2⟩
    |lval d=>rw[z]at q;exact λy hy=>⟨lv n,hr.mono (Pk _),q y hy⟩
    |mval _ _=>trivial
    |merr _=>trivial
    |dval d ks ns=>rw[z]at q;exact λg' ks ns ds'' h1 h2=>let ⟨a,b⟩:=q g' ks ns ds'' h1 h2;⟨⟨lv n,f',fd',ps',a,hr,b⟩⟩
    |hnd _=>trivial
    |no=>trivial
   cases hlam:F.lam with
   |true =>
    obtain⟨f,fd,ps,_⟩:=ih x ds;refine⟨f,fd,ps,?_⟩;by_cases hl:ds.length=F.n
    .have e:evP fu G T (n+1) x ds=jfc (fin (run fu (evP fu G T n) G F.body (enter F ds))):=by simp only[evP,hF,if_pos hl,hlam,if_true]
     rw[e];obtain⟨y,ey,L⟩:=(hT x F hF).2 hlam;obtain⟨tx,N,ps,ex,htx,hsc,hN,hnn,hbd,hba,htr⟩:=L.ex;cases ho:fin (run fu (evP fu G T n) G F.body (enter F ds)) with
     |val d =>intro y' hy';have eyy:y=y':=j7k (ey.symm.trans hy');subst eyy;refine jfa (k:=lv n+1) htx hsc (λds' d' h=>by rw[h.1,hl,hN]) hba λa c cl A outer s H hcl hr ds' d' ⟨e1,e2⟩=>?_;subst e1 e2;have ab:j5 (qj N ds')=enter F ds':=Wq hl (by rw[hN,hnn]);rw[hbd,<-ab]at ho;obtain⟨r,er,ed⟩:=jdz ho;exact ed▸(sound (htr a c cl A outer s H) (Vi t rfl rfl rfl rfl rfl (Vw _) hr hsc.nd bU λz hz hq=>absurd (Mt hq▸hz) (j34 y)) (gok rfl rfl rfl rfl rfl hr) (qj N ds') r er).toT
     |fresh l=>trivial
     |err z=>trivial
     |lval z=>trivial
     |mval z k=>trivial
     |merr z=>trivial
     |dval z ks ns=>trivial
     |hnd sp=>trivial
     |no=>trivial
    .have e:evP fu G T (n+1) x ds=.no:=by simp only[evP,hF,if_neg hl]
     rw[e];trivial
   |false =>
   rcases(hT x F hF).1 hlam with ⟨L,hlast,hhead,hhead2,hhead3⟩|L
   rotate_left
   .obtain⟨g0,p,st,f,fd,N,ps,hxg,hbody,hfun,hsc,hps,hN,hp0,hpN,hb,hm,hmd⟩:=L.ex;refine⟨f,fd,ps,?_⟩;by_cases hl:ds.length=F.n
    .have e:evP fu G T (n+1) x ds=fin (run fu (evP fu G T n) G F.body (enter F ds)):=by simp only[evP,hF,if_pos hl,hlam,Xr,if_false]
     rw[e,hbody,show run fu (evP fu G T n) G (.dx p) (enter F ds)=dxS (enter F ds)[0]? (λks ns=>Vn (evP fu G T n) G p ks ns ((enter F ds).set 0 (.exc rfN))) from rfl];cases ho:dxS (enter F ds)[0]? λks ns=>Vn (evP fu G T n) G p ks ns ((enter F ds).set 0 (.exc rfN)) with
     |next ρ' =>
      exfalso;unfold dxS at ho
      repeat' split at ho
      all_goals cases ho
     |brk _=>trivial
     |cnt _=>trivial
     |no=>trivial
     |err y ρ' =>
      exfalso;unfold dxS at ho
      repeat' split at ho
      all_goals cases ho
     |ret r =>
      have sh:∃d ks' ns',r=.dval d ks' ns':=by
       unfold dxS at ho
       repeat' split at ho
       all_goals (cases ho)
       exact⟨_,_,_,rfl⟩
      obtain⟨d,ks',ns',er⟩:=sh;subst er;intro g ks ns ds' h1 h2;have eg:g0=g:=jgi (hxg.symm.trans h1);subst eg;have hl2:ds'.length+1=ps.length:=by rw[h2]at hl;simp only[X7]at hl;omega
      have z:Vn (evP fu G T n) G p ks ns ((enter F ds).set 0 (.exc rfN))=a8 (d,ks',ns'):=by
       have e0:(enter F ds)[0]?=a8 (.val (.dct ks (ns.map D.int))):=by rw[h2];rfl
       rw[e0]at ho;unfold dxS at ho;simp only[O2]at ho;split at ho
       .rename_i d2 ks2 ns2 z;cases ho;exact z
       .cases ho
      refine⟨jl3 (n:=lv n+1) hfun hsc (λks2 ns2 ds2 d2 ks2' ns2' h=>by rw[h.2.2.1,hl2]) λcdv A outer s H E hcv hr a ks2 ns2 ds2 d2 ks2' ns2' h=>?_,hm,hfun.kp,hb⟩;obtain⟨rfl,rfl,rfl,rfl,rfl,rfl⟩:=h;have ck:=Vi t (X:=(zp CX0 P w K mg base N g0 (j9 st) f cdv A outer s H E).nox) rfl rfl rfl rfl rfl (Vw _) hr hsc.nd bU (W5 t hm hcv rfl rfl);refine hmd cdv A outer s H E _ (evP fu G T n) G ck (gok rfl rfl rfl rfl rfl hr) _ a _ _ _ _ _ ⟨dOb,?_⟩ (j0z _ _ _) ?_
      .unfold startM;exact Js (by unfold qj;rw[Xh,xf,X7];omega)
      .rw[j1b (F:=F) (d:=.dct ks2 (ns2.map D.int)) (by omega) hN,<-h2];exact z
    .have e:evP fu G T (n+1) x ds=.no:=by simp only[evP,hF,if_neg hl]
     rw[e];trivial
   obtain⟨st,f,fd,N,ps,hfun,hsc,hps,hN,hb,hdf,hm,hts⟩:=L.ex;refine⟨f,fd,ps,?_⟩;by_cases hl:ds.length=F.n
   .have e:evP fu G T (n+1) x ds=fin (run fu (evP fu G T n) G F.body (enter F ds)):=by simp only[evP,hF,if_pos hl,hlam,Xr,if_false]
    have ab:j5 (qj N ds)=enter F ds:=Wq hl hN;cases ho:run fu (evP fu G T n) G F.body (enter F ds) with
    |next ρ' =>rw[e,ho];refine⟨Dj (k:=lv n+1) hfun hsc (λds' d' h=>by rw[h.1,hl,hps]) λcdv A outer s H E hcv hr ds' d' ⟨e1,e2⟩=>?_,hm,hfun.kp,hb,hdf⟩;subst e1 e2;refine Uo (fu:=fu) (hts cdv A outer s H E _) (Vi t rfl rfl rfl rfl rfl (Vw _) hr hsc.nd bU (W5 t hm hcv rfl rfl)) (gok rfl rfl rfl rfl rfl hr) (qj N ds') _ ?_;rw[ab,ho];exact λ_ _=>rfl
    |ret r =>
     rw[e,ho];cases r with
     |no=>trivial
     |lval d=>exact λy hy=>absurd (hy▸Cq y) hlast
     |mval _ _=>trivial
     |merr _=>trivial
     |dval d ks ns=>exact λg _ _ _ hy=>absurd (hy▸jcl g) hhead2
     |hnd _=>trivial
     |err y =>refine⟨j5b (k:=lv n+1) hfun hsc (λds' d' h=>by rw[h.1,hl,hps]) λcdv A outer s H E hcv hr ds' y' ⟨e1,e2⟩=>?_,hm,hfun.kp,hb⟩;subst e1 e2;refine Uo (X:=zp (CX1 P w) P w K mg base N x (j9 st) f cdv A outer s H E) (fu:=fu) (hts cdv A outer s H E (zp (CX1 P w) P w K mg base N x (j9 st) f cdv A outer s H E).xe) (Vi t rfl rfl rfl rfl rfl (Vw _) hr hsc.nd iQ (W5 t hm hcv rfl rfl)) (gok rfl rfl rfl rfl rfl hr) (qj N ds') _ ?_;rw[ab,ho];intro z hz;cases z<;>cases hz
     |val d =>
      refine⟨Dj (k:=lv n+1) hfun hsc (λds' d' h=>by rw[h.1,hl,hps]) λcdv A outer s H E hcv hr ds' d' ⟨e1,e2⟩=>?_,hm,hfun.kp,hb,hdf⟩;subst e1 e2;refine Uo (fu:=fu) (hts cdv A outer s H E _) (Vi t rfl rfl rfl rfl rfl (Vw _) hr hsc.nd bU (W5 t hm hcv rfl rfl)) (gok rfl rfl rfl rfl rfl hr) (qj N ds') _ ?_;rw[ab,ho];intro y hy;cases y with
      |val d=>cases hy;rfl
      |fresh l=>cases hy
     |fresh l =>
      refine⟨j87 (k:=lv n+1) hfun hsc (λds' d' h=>by rw[h.1,hl,hps]) λcdv A outer s H E hcv hr ds' d' ⟨e1,e2⟩=>?_,hm,hfun.kp,hb,hdf⟩;subst e1 e2;refine Uo (fu:=fu) (hts cdv A outer s H E _) (Vi t rfl rfl rfl rfl rfl (Vw _) hr hsc.nd bU (W5 t hm hcv rfl rfl)) (gok rfl rfl rfl rfl rfl hr) (qj N ds') _ ?_;rw[ab,ho];intro y hy;cases y with
      |val d=>cases hy
      |fresh l=>cases hy;rfl
    |err y ρ' =>rw[e,ho];refine⟨j5b (k:=lv n+1) hfun hsc (λds' d' h=>by rw[h.1,hl,hps]) λcdv A outer s H E hcv hr ds' y' ⟨e1,e2⟩=>?_,hm,hfun.kp,hb⟩;subst e1 e2;refine Uo (X:=zp (CX1 P w) P w K mg base N x (j9 st) f cdv A outer s H E) (fu:=fu) (hts cdv A outer s H E (zp (CX1 P w) P w K mg base N x (j9 st) f cdv A outer s H E).xe) (Vi t rfl rfl rfl rfl rfl (Vw _) hr hsc.nd iQ (W5 t hm hcv rfl rfl)) (gok rfl rfl rfl rfl rfl hr) (qj N ds') _ ?_;rw[ab,ho];exact λ_ _=>rfl
    |brk _=>rw[e,ho];trivial
    |cnt _=>rw[e,ho];trivial
    |no=>rw[e,ho];trivial
   .have e:evP fu G T (n+1) x ds=.no:=by simp only[evP,hF,if_neg hl]
    rw[e];trivial
end
noncomputable def Gof(gs:List (ar×D))(q:Bool)(xs:List (ar×List D))(fs:List ar)(x:ar):Option D :=
 if Vj x=ae then(if x = "?" then(if q=ae then a8 (.bl ae)else af) else((xs.find? λp=>bang p.1==x).map λp=>.lst p.2).or (if (fs.any λf=>qm f==x)=ae then a8 .non else af))else gs.lookup x
def j8z{x y:ar}(h:bang x=bang y):x=y:=by unfold bang at h;have h:(⟨("!":ar).cps++x.cps⟩:ar)=⟨("!":ar).cps++y.cps⟩:=h;have h:=congrArg ki h;have e:x.cps=y.cps:=eQ h rfl;cases x;cases y;cases e;rfl
def j18(x:ar):Vj (bang x)=ae:=by unfold Vj;rw[M3];rfl
def j66(x:ar):Vj (qm x)=ae:=by unfold Vj;rw[j1k];rfl
def j01{gs:List (ar×D)}{q:Bool}{xs:List (ar×List D)}{fs:List ar}{x:ar}{d:D}(h:Gof gs q xs fs (bang x)=a8 d):∃p∈xs,p.1=x/\d=.lst p.2:=by
 unfold Gof at h;rw[if_pos (j18 x),if_neg (jd2 x)]at h;have hn:(fs.any λf=>qm f==bang x)=aa:=by rw[List.any_eq_false];intro f _ e;exact j26 x f (beq_iff_eq.mp e).symm
 rw[hn,if_neg (by decide),Option.or_none]at h;obtain⟨p,hp,rfl⟩:=Xv.mp h;have z:=List.find?_some (p:=λp:ar×List D=>bang p.1==bang x) hp;exact⟨p,List.mem_of_find?_eq_some hp,j8z (beq_iff_eq.mp z),rfl⟩
def jfw{gs:List (ar×D)}{q:Bool}{xs:List (ar×List D)}{fs:List ar}{x:ar}{d:D}(h:Gof gs q xs fs (qm x)=a8 d):x∈fs:=by
 unfold Gof at h;rw[if_pos (j66 x),if_neg (jib x)]at h;have hn:(xs.find? λp=>bang p.1==qm x)=af:=by rw[List.find?_eq_none];intro p _ e;exact j26 p.1 x (beq_iff_eq.mp e)
 rw[hn,Option.map_none,Option.none_or]at h;split at h
 .rename_i z;obtain⟨f,hf,e⟩:=List.any_eq_true.mp z;exact je4 (beq_iff_eq.mp e)▸hf
 .cases h
def jhp{P:az}{w:aE}{K:k8v}{mg:k8y}{base:aH}{gs:List (ar×D)}{q:Bool}{xs:List (ar×List D)}{fs:List ar}(bt:∀x∈Vl,mg x=af)
  (gl:∀x d,gs.lookup x=a8 d->∃u v,mg x=a8 u/\RelV v u/\∀H,Enc K H d v) (ea:Kl K=ae) (hx:∀p∈xs,p.1∈Jg/\∃o,W.nsIn K aB p.1=a8 (a8 o))
  (el:q=ae->∀c∈Jg,∃v,W.nsIn K aB c=a8 (a8 v)) (kin:K.In base) (ns:base.Ns aB mg) (fn:∀f∈fs,∃fa,mg f=a8 (.ref fa)/\W.keepIn K (.ref fa)=ae) (kd:∀p∈xs,KindsP P w K mg base "_law_kinds" p.1 p.2) (lm:∀x∈Vo,∀f cdv,mg x=a8 (.ref f)->Wr K f cdv->∃c Pt,cdv=.ref c/\W.codeHdIn K c Pt=ae/\W.tabIn K x=a8 (c,Pt)):Tb P w K mg base (Gof gs q xs fs):=by
 refine⟨bt,λx d hb h=>?_,ea,λx d h=>?_,λh=>el ?_,kin,ns,λx l h=>?_,λf d h=>fn f (jfw h),lm⟩
 .unfold Gof at h;rw[if_neg (by rw[hb];decide)]at h;exact gl x d h
 .obtain⟨p,hp,rfl,_⟩:=j01 h;exact hx p hp
 .unfold Gof at h;rw[if_pos (by decide),if_pos rfl]at h;split at h
  .rename_i z;exact z
  .cases h
 .obtain⟨p,hp,rfl,e⟩:=j01 h;cases e;exact kd p hp
def Ke(K:k8v):Sp:=λvs H Q _=>∃(a:ai)(ns:zo),vs=[.ref a]/\TabOk K H/\SqL K H a (ns.map V.int)/\ns.length<=63/\∀H':Hp,j0 H H'->Q (.bl ae) H'
def j13{K:k8v}{H:Hp}{a:ai}{ns:zo}(h:SqL K H a (ns.map V.int)):j4 K H [.lst (ns.map D.int)] [.ref a] :=
 ⟨_,[],rfl,⟨a,_,rfl,h,j4.ints ns⟩,rfl⟩
def jf9{P:az}{w:aE}{K:k8v}{mg:k8y}{base:aH}{fu:Nat}{G:ar->Option D}{T:ar->Option Fi}{n:Nat}{x p:ar}{fa:ai}{st:aP}{F:Fi}
  (hT:∀x F,T x=a8 F->LkF P w K mg base x F) (t:Tb P w K mg base G)
  (hx:T x=a8 F) (hlam:F.lam=aa) (hm:mg x=a8 (.ref fa)) {fd:aM} (hfun:Fun K x x st fa fd) (N:List ar) (hsc:FnScope N [p] (j9 st)) (h1:F.n=1) (hN:N.length=F.nn)
  (hts:∀(cdv:aj)(A:aF)(outer:List dO)(s:aq)(H:Hp)(E:XK)(xe:k8w),Ts ((zp CX0 P w K mg base N x (j9 st) fa cdv A outer s H E).wish xe) F.body (.ss (jz st)))
  (hlaw:∀ns:zo,ns.length<=63->evP fu G T (n+1) x [.lst (ns.map D.int)]=.val (.bl ae)):FnOk P w K mg base CX0 (lv (n+1)) fa fd [p] (Ke K):=by
 have S:FnOk P w K mg base CX0 (lv (n+1)) fa fd [p] (spP K λds d=>∃ns:zo,ns.length<=63/\ds=[.lst (ns.map D.int)]/\d=.bl ae):=by
  refine Dj (k:=lv n+1) hfun hsc (λds d ⟨ns,_,h,_⟩=>by rw[h];rfl) λcdv A outer s H E hcv hr ds d ⟨ns,hns,e1,e2⟩=>?_;subst e1 e2;have e:=hlaw ns hns;simp only[evP,hx,h1,hlam,Xr,if_false,X7,Pb,if_true]at e;have ab:j5 (qj N [D.lst (ns.map D.int)])=enter F [D.lst (ns.map D.int)]:=Wq (by rw[h1];rfl) hN;have g:Gok (zp CX0 P w K mg base N x (j9 st) fa cdv A outer s H E).nox (evP fu G T n):=λg ds'=>by
   obtain⟨f',fd',ps',q⟩:=Bm (fu:=fu) hT t n g ds';cases z:evP fu G T n g ds' with
   |val d=>rw[z]at q;exact⟨lv n,f',fd',ps',q.1,hr,q.2.1,q.2.2.1,q.2.2.2⟩
   |fresh l=>rw[z]at q;exact⟨lv n,f',fd',ps',q.1,hr,q.2.1,q.2.2.1,q.2.2.2⟩
   |err y=>rw[z]at q;exact⟨lv n,f',fd',ps',q.1,hr.mono (Pk _),q.2.1,q.2.2.1,q.2.2.2⟩
   |lval d=>rw[z]at q;exact λy hy=>⟨lv n,hr.mono (Pk _),q y hy⟩
   |mval _ _=>trivial
   |merr _=>trivial
   |dval d ks ns=>rw[z]at q;exact λg' ks ns ds'' h1 h2=>let ⟨a,b⟩:=q g' ks ns ds'' h1 h2;⟨⟨lv n,f',fd',ps',a,hr,b⟩⟩
   |hnd _=>trivial
   |no=>trivial
  refine Uo (fu:=fu) (hts cdv A outer s H E _) (Vi t rfl rfl rfl rfl rfl (Vw _) hr hsc.nd bU (W5 t hm hcv rfl rfl)) g (qj N _) _ ?_;rw[ab];cases ho:run fu (evP fu G T n) G F.body (enter F [D.lst (ns.map D.int)]) with
  |ret r =>
   rw[ho]at e;have e:r=.val (.bl ae):=e;subst e;intro y hy;cases y with
   |val d=>cases hy;rfl
   |fresh l=>cases hy
  |next ρ'=>rw[ho]at e;cases e
  |brk _=>rw[ho]at e;cases e
  |cnt _=>rw[ho]at e;cases e
  |err _ _=>rw[ho]at e;cases e
  |no=>rw[ho]at e;cases e
 refine S.imp λvs H Q E ⟨a,ns,hv,tb,hS,hl,k⟩=>?_;subst hv;exact⟨[],_,_,tb,(λa h=>nomatch h),by rw[qt];exact j13 hS,⟨ns,hl,rfl,rfl⟩,λv H' g e=>by cases(show v=.bl ae from e);exact k H' g⟩
noncomputable def Kc(K:k8v):List (ai×ar):=Vo.filterMap λx=>(W.tabIn K x).map λq=>(q.2,zm x)
noncomputable def tOk(K:k8v)(ts:List ai):Bool:=(Vo.all λx=>match W.nsIn K aB x with
  |some af=>ae
  |_=>match W.tabIn K x with
   |some (c,P)=>W.codeHdIn K c P&&ts.contains P
   |none=>aa)&&W.noTabs K&&decide ((Kc K).map (·.1)).Nodup
def jaf{K:k8v}{ts:List ai}{h:aH}(hk:tOk K ts=ae)(X:K.In h)(ht:∀P∈ts,h.get? P=a8 (W.tabObj #[])):j95 (Kc K) h:=by
 unfold tOk at hk;rw[Xg,Xg]at hk;refine⟨of_decide_eq_true hk.2,λt hm=>?_⟩;obtain⟨x,hx,e⟩:=Tn.mp hm;obtain⟨⟨c,P⟩,e1,e2⟩:=Xv.mp e;subst e2;have z:=T6.mp hk.1.1 x hx;split at z
 .rename_i y;exfalso;unfold W.tabIn at e1;rw[y]at e1;cases e1
 .rw[e1]at z;have z:(W.codeHdIn K c P&&ts.contains P)=ae:=z;rw[Xg]at z;exact⟨⟨c,W.codeHd_of_K X z.1⟩,ht P (by simpa using z.2)⟩
def jil{K:k8v}{ts:List ai}{h:aH}{mg:k8y}(hk:tOk K ts=ae)(X:K.In h)(Gn:h.Ns aB mg):∀x∈Vo,∀f cdv,mg x=a8 (.ref f)->Wr K f cdv->∃c Pt,cdv=.ref c/\W.codeHdIn K c Pt=ae/\W.tabIn K x=a8 (c,Pt):=λx hx f cdv hm hcv=>by
 unfold tOk at hk;rw[Xg,Xg]at hk;have z:=T6.mp hk.1.1 x hx;split at z
 .rename_i y;rw[W.mg_none_of X Gn y]at hm;cases hm
 .split at z
  .rename_i c P e;rw[Xg]at z;refine⟨c,P,?_,z.1,e⟩;obtain⟨oc,od,fd,sl,e3,e4⟩:=hcv;unfold W.tabIn at e;split at e
   .rename_i f' hf;have e5:=W.mg_of X Gn hf;rw[hm]at e5;cases e5;rw[e3]at e;dsimp only at e;split at e
    .rename_i c' hc;split at e
     .split at e
      .cases e;rw[<-e4];exact hc
      .cases e
     .cases e
    .cases e
   .cases e
  .cases z
def jdk{K:k8v}{H:Hp}(hO:Only (Kc K) H):TabOk K H:=λx hx c P e=>hO.2 (P,zm x) (Tn.mpr ⟨x,hx,by rw[e];rfl⟩)
def j4o{K:k8v}{ts:List ai}(hk:tOk K ts=ae):W.noTabs K=ae:=by unfold tOk at hk;rw[Xg,Xg]at hk;exact hk.1.2
def walkL{l:eA}{q:az}{loose:List ar}{XP:(ar->Option aj)->aH->Prop}{YP:aE->aH->Prop}{d:DefRec}{K:nY->k8v}{k:Nat}{x:ar}{ts:List ai}(hk:k<=200)(hn:l.most=a8 63)(hdf:d.params.defaults=[])
  (hY:∀(w:aE)(h:aH),YP w h->(K w.params).In h/\∀P∈ts,h.get? P=a8 (W.tabObj #[])) (hK:∀w:aE,tOk (K w.params) ts=ae)
  (F:∀(w:aE)(mg:k8y)(fa:ai)(h:aH),(K w.params).In h->h.Ns aB mg->mg d.name=a8 (.ref fa)->tOk (K w.params) ts=ae ->
   ∃fd:aM,(∀(s:aq)(u:aj),ip s fd ⟨[u],[]⟩ [(x,u)])/\∀base:aH,(K w.params).In base->base.Ns aB mg->FnOk l.prog w (K w.params) mg base CX0 k fa fd [x] (Ke (K w.params))) :
  jF q loose XP YP l.row.toRowW d [] (λf vs=>il f vs) :=
 L2.walk_of (n:=63) (k:=k) (x:=x) (CX:=λ_=>CX0) (sp:=λw=>Ke (K w.params)) (ts:=λw=>Kc (K w.params)) hn (by decide) hdf
  (Room.mono (k:=200) ⟨rfl,by decide,by decide,rfl⟩ hk) (λw h Y=>⟨(hY w h Y).1,jaf (hK w) (hY w h Y).1 (hY w h Y).2⟩) (λw=>j4o (hK w)) (λw mg fa h X G m=>F w mg fa h X G m (hK w)) (λw H a ns hl hO hS=>⟨a,ns,rfl,jdk hO,hS,hl,λH' g=>⟨rfl,g⟩⟩) λ_ _ _ _ _ z=>z
def Lf(K:k8v)(x:ar)(st:aP):Prop:=∃(f:ai)(oc:aj)(od:Option ai)(kV dc pm:aj)(an:Option ai)(cd ct:aj)(sl:Array (Option aj)),W.nsIn K aB x=a8 (a8 (.ref f)) /\
 K.lookup f=a8 ⟨oc,od,.func (W.fnOf x x (J8 st) (jz st) (j9 st) .none kV dc pm an cd ct),sl⟩/\W.codeIn K cd x=ae/\W.keepIn K (.ref f)=ae
def TrT(P:az)(w:aE)(K:k8v)(mg:k8y)(base:aH)(x:ar)(N:List ar)(st:aP)(b:Sx):Prop :=
 ∀(f:ai)(cdv:aj)(A:aF)(outer:List dO)(s:aq)(H:Hp)(E:XK) (xe:k8w),Ts ((zp CX0 P w K mg base N x (j9 st) f cdv A outer s H E).wish xe) b (.ss (jz st))
noncomputable def bOk(K:k8v):Bool:=Vl.all λx=>match W.nsIn K aB x with
 |some af=>ae
 |_=>aa
section
variable{P:az}{w:aE}{K:k8v}{mg:k8y}{base h:aH}{x:ar}{st:aP}{N ps:List ar}{F:Fi}
def jjb(X:K.In h)(Gn:h.Ns aB mg)(hb:bOk K=ae):∀x∈Vl,mg x=af:=λx hx=>by
 have z:=T6.mp hb x hx;split at z
 .rename_i e;exact W.mg_none_of X Gn e
 .cases z
def j2r(L:Lf K x st)(X:K.In h)(Gn:h.Ns aB mg):∃fa,mg x=a8 (.ref fa)/\W.keepIn K (.ref fa)=ae:=by obtain⟨f,oc,od,kV,dc,pm,an,cd,ct,sl,a,l,c,k⟩:=L;exact⟨f,W.mg_of X Gn a,k⟩
def qy(L:Lf K x st)(X:K.In h)(Gn:h.Ns aB mg)(t:TrT P w K mg base x N st F.body)(ps:List ar)(sc:FnScope N ps (j9 st))(h1:ps.length=F.n)(h2:N.length=F.nn)
  (hb:∀(kV doc pm:aj)(an:Option ai)(cdv ct:aj)(us:List aj),us.length=ps.length->gn (W.fnOf x x (J8 st) (jz st) (j9 st) .none kV doc pm an cdv ct) ⟨us,[]⟩=pure (ps.zip us)) (hd:x∉jgl):Lk P w K mg base x F:=by
 obtain⟨f,oc,od,kV,dc,pm,an,cd,ct,sl,a,l,c,k⟩:=L;exact⟨st,f,_,N,ps,Rm l c k,sc,h1,h2,(Rm l c k).binds hb,λz=>absurd z hd,W.mg_of X Gn a,t f⟩
def lkF(L:Lk P w K mg base x F)(h:F.lam=aa)(hn:x.cps.toList.getLast?≠a8 62)(hh:x.cps.toList.head?≠a8 64)(hh2:x.cps.toList.head?≠a8 35:=by decide)(hh3:x.cps.toList.head?≠a8 38:=by decide):LkF P w K mg base x F:=⟨λ_=>.inl ⟨L,hn,hh,hh2,hh3⟩,λz=>by rw[h]at z;cases z⟩
def us1{us:List aj}(h:us.length=1):∃a,us=[a]:=by match us,h with|[a],_=>exact⟨a,rfl⟩
def us2{us:List aj}(h:us.length=2):∃a b,us=[a,b]:=by match us,h with|[a,b],_=>exact⟨a,b,rfl⟩
def us3{us:List aj}(h:us.length=3):∃a b c,us=[a,b,c]:=by match us,h with|[a,b,c],_=>exact⟨a,b,c,rfl⟩
def us4{us:List aj}(h:us.length=4):∃a b c d,us=[a,b,c,d]:=by match us,h with|[a,b,c,d],_=>exact⟨a,b,c,d,rfl⟩
def us5{us:List aj}(h:us.length=5):∃a b c d e,us=[a,b,c,d,e]:=by match us,h with|[a,b,c,d,e],_=>exact⟨a,b,c,d,e,rfl⟩
end
def lf_mk{K:k8v}{x:ar}{st:aP}{f:ai}{oc:aj}{od:Option ai}{kV dc pm:aj}{an:Option ai}{cd ct:aj}{sl:Array (Option aj)}(a:W.nsIn K aB x=a8 (a8 (.ref f)))
  (l:K.lookup f=a8 ⟨oc,od,.func (W.fnOf x x (J8 st) (jz st) (j9 st) .none kV dc pm an cd ct),sl⟩) (c:W.codeIn K cd x=ae) (k:W.keepIn K (.ref f)=ae):Lf K x st:=⟨f,oc,od,kV,dc,pm,an,cd,ct,sl,a,l,c,k⟩
def TrD(P:az)(w:aE)(K:k8v)(mg:k8y)(base:aH)(x:ar)(N:List ar)(st:aP)(p:Dx):Prop :=
 ∀(f:ai)(cdv:aj)(A:aF)(outer:List dO)(s:aq)(H:Hp)(E:XK) (xe:k8w),MD ((zp CX0 P w K mg base N x (j9 st) f cdv A outer s H E).wish xe) p (jz st)
section
variable{P:az}{w:aE}{K:k8v}{mg:k8y}{base h:aH}{x g:ar}{st:aP}{N ps:List ar}{F:Fi}
def Es{p:Dx}(hx:x=dq g)(L:Lf K g st)(X:K.In h)(Gn:h.Ns aB mg)(t:TrD P w K mg base g N st p)(ps:List ar)(sc:FnScope N ps (j9 st))(hF:F.body=.dx p)(hl:F.lam=aa)(h1:ps.length=F.n)(h2:N.length=F.nn)(h3:0<ps.length)(h4:ps.length<=N.length)
  (hb:∀(kV doc pm:aj)(an:Option ai)(cdv ct:aj)(us:List aj),us.length=ps.length->gn (W.fnOf g g (J8 st) (jz st) (j9 st) .none kV doc pm an cdv ct) ⟨us,[]⟩=pure (ps.zip us)):LkF P w K mg base x F:=by
 obtain⟨f,oc,od,kV,dc,pm,an,cd,ct,sl,a,l,c,k⟩:=L;exact⟨λ_=>.inr ((⟨g,p,st,f,_,N,ps,hx,hF,Rm l c k,sc,h1,h2,h3,h4,(Rm l c k).binds hb,W.mg_of X Gn a,t f⟩)),λz=>by rw[hl]at z;cases z⟩
end
end L2
end
section
namespace L2
open PySem (Str sizeLine argBest)
def Jw{n:Nat}(h:n<=1000000):n<=aw:=Xd h (by decide)
def lt_size{n:Nat}(h:n<=1000000):n<aw:=cW h (by decide)
noncomputable def Il(o:So)(f:En->So):So:=match o with
 |.next ρ=>f ρ
 |o=>o
noncomputable def ifS(c:Option Bool)(f g:En->So)(ρ:En):So:=match c with
 |some ae=>f ρ
 |some aa=>g ρ
 |none=>.no
noncomputable def Km(is:List Nat)(f:En->So)(d:D)(ρ:En):So:=match qz is d ρ with
 |some ρ2=>f ρ2
 |none=>.no
noncomputable def j9j(is:List Nat)(w:Option W)(f:En->So)(ρ:En):So:=match w with
 |some (.i ds)=>Q6 (Km is f) ds ρ
 |_=>.no
section
variable{fu:Nat}{Γ:ar->List D->Rc}{G:ar->Option D}{ρ:En}{i j:Nat}{e c k:Ex}{a b:Sx}{is:List Nat}
def jat:run fu Γ G .nop ρ=.next ρ:=(rfl)
def jaq:run fu Γ G (.seq a b) ρ=Il (run fu Γ G a ρ) (run fu Γ G b):=(rfl)
def jap:run fu Γ G (.set i e) ρ=orE (Oc i (ev Γ G e ρ) ρ) (er Γ G e ρ) ρ:=(rfl)
def jau:run fu Γ G (.mov i j) ρ=Em i j ρ[j]? ρ:=(rfl)
def j6v:run fu Γ G (.expr e) ρ=orE (j05 (ev Γ G e ρ) ρ) (er Γ G e ρ) ρ:=(rfl)
def jar:run fu Γ G (.ret e) ρ=orE (retS (ev Γ G e ρ)) (er Γ G e ρ) ρ:=(rfl)
def j74{ρ':En}{x:Option ar}:orE (.next ρ') x ρ=.next ρ':=(rfl)
def j1m{r:Rc}{x:Option ar}:orE (.ret r) x ρ=.ret r:=(rfl)
def j6s:run fu Γ G (.retV i) ρ=M7 ρ[i]?:=(rfl)
def jav:run fu Γ G (.ife c a b) ρ=ifS (truth (ev Γ G c ρ)) (run fu Γ G a) (run fu Γ G b) ρ:=(rfl)
def j6t:run fu Γ G (.loop is e a) ρ=j9j is (ev Γ G e (frz e ρ)) (run fu Γ G a) (frz e ρ):=(rfl)
def jax:run fu Γ G (.app i e) ρ=M4 i ρ[i]? (ev Γ G e ρ) ρ:=(rfl)
def jaw:run fu Γ G (.ext i e) ρ=Dm i ρ[i]? (ev Γ G e ρ) ρ:=(rfl)
def Im{p:Dx}:run fu Γ G (.dx p) ρ=dxS ρ[0]? λks ns=>Vn Γ G p ks ns (ρ.set 0 (.exc rfN)):=(rfl)
def j1h{x:Nat}{g:ar}{e:Ex}:run fu Γ G (.lmk x g e) ρ=j7f (decide (x<ρ.length)&&noOwn ρ) (zc Γ g (ev Γ G e (ρ.set x .un)) [] []):=(rfl)
def j6u:run fu Γ G (.keep i) ρ=Bs i ρ[i]? ρ:=(rfl)
def j52{l:List D}:Bs i (a8 (.own l)) ρ=.next (ρ.set i (.val (.lst l))):=(rfl)
end
section
variable{f g:En->So}{ρ:En}{i j:Nat}{d:D}{l m:List D}{r:Rc}{x:Rk}
def j45:Il (.next ρ) f=f ρ:=(rfl)
def Ik:Il (.ret r) f=.ret r:=(rfl)
def jix:ifS (a8 ae) f g ρ=f ρ:=(rfl)
def jiy:ifS (a8 aa) f g ρ=g ρ:=(rfl)
def jdr:Oc i (a8 (.v (.o l))) ρ=.next (ρ.set i (.own l)):=(rfl)
def jds:Oc i (a8 (.v (.e d))) ρ=.next (ρ.set i (.val d)):=(rfl)
def je0:retS (a8 (.v (.o l)))=.ret (.fresh l):=(rfl)
def j48:retS (a8 (.v (.e d)))=.ret (.val d):=(rfl)
def jaz:M7 (a8 (.own l))=.ret (.fresh l):=(rfl)
def jay:M7 (a8 (.val d))=.ret (.val d):=(rfl)
def jey(h:i≠j):Em i j (a8 (.own l)) ρ=.next ((ρ.set j .un).set i (.own l)):=if_neg h
def jfy:j05 (a8 (.v x)) ρ=.next ρ:=(rfl)
def Zh:Km [i] f d ρ=f (ρ.set i (.val d)):=(rfl)
def jd0{a b:D}:Km [i,j] f (.tup [a,b]) ρ=f ((ρ.set i (.val a)).set j (.val b)):=(rfl)
def jbo{is:List Nat}{ds:List D}:j9j is (a8 (.i ds)) f ρ=Q6 (Km is f) ds ρ:=(rfl)
def jgz(h:l.length<=1000000):M4 i (a8 (.own l)) (a8 (.v (.e d))) ρ=.next (ρ.set i (.own (l++[d]))):=by simp[M4,Rk.st,lt_size h]
def jgy(h:l.length<=1000000)(hd:Zk d=ae):M4 i (a8 (.own l)) (a8 (.v (.t d))) ρ=.next (ρ.set i (.own (l++[d]))):=by simp[M4,Rk.st,hd,lt_size h]
def jfx(h:l.length+m.length<=1000000):Dm i (a8 (.own l)) (a8 (.v (.o m))) ρ=.next (ρ.set i (.own (l++m))):=by simp[Dm,jm,Jw h]
def j1w:fin (.ret r)=r:=(rfl)
def j89:fin (.next ρ)=.val .non:=(rfl)
def jx{fu:Nat}{G:ar->Option D}{T:ar->Option Fi}{n:Nat}{f:ar}{ds:List D}{F:Fi}(h:T f=a8 F)(hl:ds.length=F.n)(hla:F.lam=aa:=by rfl):evP fu G T (n+1) f ds=fin (run fu (evP fu G T n) G F.body (enter F ds)):=by simp only[evP,h,if_pos hl,hla,Xr,if_false]
end
theorem U0{f:D->En->So}(W:Nat->En->Prop):∀{ds:List D}{ρ:En}{k:Nat},W k ρ->(∀i d ρ,ds[i]?=a8 d->W (k+i) ρ->∃ρ',f d ρ=.next ρ'/\W (k+i+1) ρ')->∃ρ',Q6 f ds ρ=.next ρ'/\W (k+ds.length) ρ'
 |[],ρ,k,h0,_=>⟨ρ,rfl,h0⟩
 |d::ds,ρ,k,h0,hs=>by
  obtain⟨ρ1,e1,w1⟩:=hs 0 d ρ rfl h0;obtain⟨ρ2,e2,w2⟩:=U0 (f:=f) W (ds:=ds) (k:=k+1) w1 λi d' ρ' hi w=>by have:=hs (i+1) d' ρ' (by simpa using hi) (by rw[show k+(i+1)=k+1+i by omega];exact w);rw[show k+(i+1)+1=k+1+i+1 by omega]at this;exact this
  refine⟨ρ2,?_,by rw[X7,show k+(ds.length+1)=k+1+ds.length by omega];exact w2⟩;rw[Q6,e1];exact e2
def j7e{f:D->En->So}(W:Nat->En){ds:List D}{ρ:En}(h0:ρ=W 0)(hs:∀i d,ds[i]?=a8 d->f d (W i)=.next (W (i+1))):Q6 f ds ρ=.next (W ds.length):=by
 obtain⟨ρ',e,w⟩:=U0 (f:=f) (λi ρ=>ρ=W i) (k:=0) (ds:=ds) (ρ:=W 0) rfl λi d ρ hi w=>⟨W (0+i+1),by rw[w,df];exact hs i d hi,rfl⟩
 rw[h0,e,w,df]
def Z8{f:D->En->So}{ds:List D}{ρ:En}{g:En->So}{r:Rc}(W:Nat->En->Prop)(h0:W 0 ρ)(hs:∀i d ρ,ds[i]?=a8 d->W i ρ->∃ρ',f d ρ=.next ρ'/\W (i+1) ρ')(hk:∀ρ',W ds.length ρ'->fin (g ρ')=r) :
  fin (Il (Q6 f ds ρ) g)=r:=by
 obtain⟨ρ',e,w⟩:=U0 (f:=f) W (k:=0) (ds:=ds) (ρ:=ρ) h0 λi d ρ hi w=>by rw[df]at w ⊢;exact hs i d ρ hi w
 rw[e];rw[df]at w;exact hk ρ' w
def j44{f:D->En->So}{ds:List D}{ρ:En}{g:En->So}{Q:En->Prop}(W:Nat->En->Prop)(h0:W 0 ρ)(hs:∀i d ρ,ds[i]?=a8 d->W i ρ->∃ρ',f d ρ=.next ρ'/\W (i+1) ρ')
  (hk:∀ρ',W ds.length ρ'->∃ρ2,g ρ'=.next ρ2/\Q ρ2):∃ρ2,Il (Q6 f ds ρ) g=.next ρ2/\Q ρ2:=by
 obtain⟨ρ',e,w⟩:=U0 (f:=f) W (k:=0) (ds:=ds) (ρ:=ρ) h0 λi d ρ hi w=>by rw[df]at w ⊢;exact hs i d ρ hi w
 rw[e];rw[df]at w;exact hk ρ' w
noncomputable def j9s(d:Option D):Option W:=d.map λd=>.v (.e d)
noncomputable def j80(i:Option Int):Option W:=i.map λk=>.v (.e (.int k))
noncomputable def jfq(a:Option W):Option W:=match a with
 |some (.v x)=>a8 (.v (.e (.bl x.d.isNon)))
 |_=>af
noncomputable def j92(k:Option Bool)(f:En->Option W)(ρ:En):Option W:=match k with
 |some aa=>a8 (.v (.e (.bl aa)))
 |some ae=>blW (truth (f ρ))
 |none=>af
noncomputable def orW(k:Option Bool)(f:En->Option W)(ρ:En):Option W:=match k with
 |some ae=>a8 (.v (.e (.bl ae)))
 |some aa=>blW (truth (f ρ))
 |none=>af
noncomputable def jev(k:Option Bool):Option W:=k.map λk=>.v (.e (.bl (!k)))
noncomputable def stW(a:Option W):Option W:=match a with
 |some (.v x)=>x.st.map λd=>.v (.e d)
 |_=>af
noncomputable def j7q(k:Option Bool)(f g:En->Option W)(ρ:En):Option W:=match k with
 |some ae=>stW (f ρ)
 |some aa=>stW (g ρ)
 |none=>af
noncomputable def slW(a:Option W)(l h:Option (Option Int)):Option W:=match a,l,h with
 |some (.v x),a8 l,a8 h=>match x.sq with
  |some (ae,ds)=>a8 (.v (.o (cutD ds l h)))
  |some (aa,ds)=>if HT.sIx ds.length 0 l=0/\HT.sIx ds.length ds.length h=ds.length then af else a8 (.v (.e (.tup (cutD ds l h))))
  |none=>match x.d with
   |.str z=>if jm z.length=ae then a8 (.v (.e (.str (cq z l h))))else af
   |_=>af
 |_,_,_=>af
noncomputable def Ji(is:List Nat)(c e:En->Option W)(ρ:En)(d:D):Option (Option D):=match qz is d ρ with
 |none=>af
 |some ρ2=>match c ρ2 with
  |some (.a [])=>match e ρ2 with
   |some (.v x)=>x.st.map a8
   |_=>af
  |some (.a [y])=>match y.d with
   |.bl ae=>match e ρ2 with
    |some (.v x)=>x.st.map a8
    |_=>af
   |.bl aa=>a8 af
   |_=>af
  |_=>af
noncomputable def j3e(is:List Nat)(w:Option W)(c e:En->Option W)(z:Bool)(ρ:En):Option W:=match w with
 |some (.i ds)=>if N7 is ρ=ae/\jm ds.length=ae then(Qc (Ji is c e ρ) ds).bind λl=>if (z && !za l)=ae then af else a8 (.v (.o l))else af
 |_=>af
section
variable{Γ:ar->List D->Rc}{G:ar->Option D}{ρ:En}{a b c e:Ex}{op:Bop}{cp:Cop}{x f:ar}{i:Nat}{d:D}
def jg8:ev Γ G (.lit d) ρ=a8 (.v (.e d)):=(rfl)
def jg0:ev Γ G (.var i) ρ=Nr ρ[i]?:=(rfl)
def jcf:ev Γ G (.glob x) ρ=j9s (G x):=(rfl)
def jgf:ev Γ G (.bin op a b) ρ=Zv op (ev Γ G a ρ) (ev Γ G b ρ):=(rfl)
def jg6:ev Γ G (.neg a) ρ=El (ev Γ G a ρ):=(rfl)
def jgd:ev Γ G (.cmp cp a b) ρ=Do cp (ev Γ G a ρ) (ev Γ G b ρ):=(rfl)
def jgb:ev Γ G (.isN a) ρ=jfq (ev Γ G a ρ):=(rfl)
def jgg:ev Γ G (.and a b) ρ=j92 (truth (ev Γ G a ρ)) (ev Γ G b) ρ:=(rfl)
def jj7:ev Γ G (.or a b) ρ=orW (truth (ev Γ G a ρ)) (ev Γ G b) ρ:=(rfl)
def jg4:ev Γ G (.not a) ρ=jev (truth (ev Γ G a ρ)):=(rfl)
def jg9:ev Γ G (.ite c a b) ρ=j7q (truth (ev Γ G c ρ)) (ev Γ G a) (ev Γ G b) ρ:=(rfl)
def jg5:ev Γ G .nil ρ=a8 (.a []):=(rfl)
def jci:ev Γ G (.cons a b) ρ=consW (ev Γ G a ρ) (ev Γ G b ρ):=(rfl)
def jg1:ev Γ G (.tup a) ρ=U9 (ev Γ G a ρ):=(rfl)
def jg7:ev Γ G (.lst a) ρ=Zn (ev Γ G a ρ):=(rfl)
def jj8:ev Γ G (.ix a b) ρ=ixW (ev Γ G a ρ) (ev Γ G b ρ):=(rfl)
def jj6:ev Γ G (.sl a b c) ρ=slW (ev Γ G a ρ) (Qt (ev Γ G b ρ)) (Qt (ev Γ G c ρ)):=(rfl)
def jce{sep:ar}:ev Γ G (.join sep a) ρ=Mi sep (ev Γ G a ρ):=(rfl)
def jcd:ev Γ G (.lset a) ρ=W4 (ev Γ G a ρ):=(rfl)
def jcc:ev Γ G (.minD a) ρ=M9 (ev Γ G a ρ):=(rfl)
def jbq{ks:List zo}{ds:List D}:vo .len (a8 (.a [.e (.dct ks ds)]))=a8 (.v (.e (.int ks.length))):=(rfl)
def j6m{ks:List zo}{ds:List D}:Wv (a8 (.v (.e (.dct ks ds))))=a8 (.i (Mh ks)):=(rfl)
def jas{g:Nat->(ar->List D->Rc)->(ar->Option D)->En->So}{fu:Nat}:run fu Γ G (.prm g) ρ=g fu Γ G ρ:=(rfl)
def jch:ev Γ G (.dget a b) ρ=Ml (ev Γ G a ρ) (ev Γ G b ρ):=(rfl)
def jgc{b:Ex}:ev Γ G (.din a b) ρ=Ou (ev Γ G a ρ) (ev Γ G b ρ):=(rfl)
def jcg:ev Γ G (.enum a) ρ=Mj (ev Γ G a ρ):=(rfl)
def jck:ev Γ G (.call f a) ρ=Qd Γ f (ev Γ G a ρ):=(rfl)
def jge{f:Bf}:ev Γ G (.blt f a) ρ=vo f (ev Γ G a ρ):=(rfl)
def jga{ts:List String}:ev Γ G (.isi a ts) ρ=Df (ev Γ G a ρ) ts:=(rfl)
def jcj{is:List Nat}:ev Γ G (.comp is e a c) ρ=j3e is (ev Γ G a (frz a ρ)) (ev Γ G c) (ev Γ G e) (Jm a ρ) (frz a ρ):=(rfl)
def jg3:ev Γ G (.seq a) ρ=Wv (ev Γ G a ρ):=(rfl)
def j8a:ev Γ G (.range a) ρ=Wz (ev Γ G a ρ):=(rfl)
def jfz:ev Γ G (.zip a b) ρ=Np (ev Γ G a ρ) (ev Γ G b ρ):=(rfl)
end
section
variable{x y:Rk}{d:D}{i j k:Int}{l m:List D}{b:Bool}{f g:En->Option W}{ρ:En}{xs:List Rk}{op:Bop}{cp:Cop}
def jdc:Nr (a8 (.val d))=a8 (.v (.e d)):=(rfl)
def jdd:Nr (a8 (.own l))=a8 (.v (.w l)):=(rfl)
def jc9:j9s (a8 d)=a8 (.v (.e d)):=(rfl)
def jfr:j80 (a8 i)=a8 (.v (.e (.int i))):=(rfl)
def jjc:blW (a8 b)=a8 (.v (.e (.bl b))):=(rfl)
def jgx:Zv op (a8 (.v (.e (.int i)))) (a8 (.v (.e (.int j))))=j80 (binI op i j):=by simp only[Zv,Wl,Rk.d,j80,rkW];cases binI op i j<;>rfl
def j8y:binI .add i j=a8 (i+j):=(rfl)
def j8u:binI .sub i j=a8 (i-j):=(rfl)
def j8w(h:(-18446744073709551616<i/\i<18446744073709551616)\/(-18446744073709551616<j/\j<18446744073709551616)):binI .mul i j=a8 (i*j):=if_pos h
def j64(h:0<j/\j<18446744073709551616):binI .fdiv i j=a8 (i/j):=if_pos h
def j8x(h:0<j):binI .mod i j=a8 (i%j):=if_pos h
def j8v(h:0<=j/\j<=1000000/\i.natAbs<18446744073709551616):binI .shl i j=a8 (i*2^j.toNat):=if_pos h
def jgt(h:l.length+m.length<=1000000):Zv .add (a8 (.v (.e (.tup l)))) (a8 (.v (.e (.tup m))))=a8 (.v (.e (.tup (l++m)))):=by simp[Zv,Wl,Rk.d,Rk.sq,jm,Jw h,rkW]
def ji6(h:-9223372036854775808<=k/\k<9223372036854775808)(h2:l.length*k.toNat<=1000000):Zv .mul (a8 (.v (.o l))) (a8 (.v (.e (.int k))))=a8 (.v (.o (ay k.toNat l).flatten)):=by simp only[Zv,Wl,Rk.d,Rk.sq,Rk.lw];rw[if_pos ⟨h.1,h.2,decide_eq_true (Jw h2)⟩];rfl
def j49(h:1<=k/\k<=1000000):Zv .mul (a8 (.v (.e (.tup [d])))) (a8 (.v (.e (.int k))))=a8 (.v (.e (.tup (ay k.toNat d)))):=by simp only[Zv,Wl,Rk.d,Rk.sq];rw[if_pos ⟨h.1,by omega,rfl,decide_eq_true (Jw (by simp only[X7,Pb];omega))⟩];simp only[rkW,Option.map,List.flatten_replicate_singleton]
def jew:El (a8 (.v (.e (.int i))))=a8 (.v (.e (.int (-i)))):=(rfl)
def jgo:Do cp (a8 (.v x)) (a8 (.v y))=blW (Qj cp x.d y.d):=(rfl)
def d_e:(Rk.e d).d=d:=(rfl)
def d_o:(Rk.o l).d=.lst l:=(rfl)
def d_w:(Rk.w l).d=.lst l:=(rfl)
def jgp:Qj cp (.int i) (.int j)=cmpI cp i j:=by cases cp<;>rfl
def j8j{a b:Bool}:Qj .ne (.bl a) (.bl b)=a8 (a != b):=(rfl)
def j8m{a b:Bool}:Qj .eq (.bl a) (.bl b)=a8 (a==b):=(rfl)
def j8l(h:(D.lst l).dep<=90)(h2:(D.lst m).dep<=90):Qj .eq (.lst l) (.lst m)=a8 (vm l m):=by simp[Qj,h,h2,j07,j08]
def j8k{a b:ar}:Qj .eq (.str a) (.str b)=a8 (a==b):=by simp[Qj,D.dep,j5f]
def j5s:Qj .eq (.lst []) (.lst [])=a8 (vm [] []):=j8l (by simp[D.dep,D.depL]) (by simp[D.dep,D.depL])
def j5k(h:i<j):cmpI .lt i j=a8 ae:=by simp[cmpI,h]
def j5l(h:j<=i):cmpI .lt i j=a8 aa:=by simp[cmpI];omega
def j5m(h:j<i):cmpI .gt i j=a8 ae:=by simp[cmpI,h]
def j5n(h:i<=j):cmpI .gt i j=a8 aa:=by simp[cmpI];omega
def j5o(h:j<=i):cmpI .ge i j=a8 ae:=by simp[cmpI,h]
def j5p(h:i<j):cmpI .ge i j=a8 aa:=by simp[cmpI];omega
def j5q(h:i=j):cmpI .eq i j=a8 ae:=by simp[cmpI,h]
def j5r(h:i≠j):cmpI .eq i j=a8 aa:=by simp[cmpI,h]
def j5i(h:i≠j):cmpI .ne i j=a8 ae:=by simp[cmpI,h]
def j5j(h:i=j):cmpI .ne i j=a8 aa:=by simp[cmpI,h]
def jcu:cmpI .gt i j=a8 (decide (j<i)):=(rfl)
def j22:cmpI .eq i j=a8 (decide (i=j)):=(rfl)
def Dp:cmpI .ne i j=a8 (!decide (i=j)):=(rfl)
def jfp:jfq (a8 (.v x))=a8 (.v (.e (.bl x.d.isNon))):=(rfl)
def jad:truth (a8 (.v (.e (.bl b))))=a8 b:=(rfl)
def jh1:j92 (a8 aa) f ρ=a8 (.v (.e (.bl aa))):=(rfl)
def jh0:j92 (a8 ae) f ρ=blW (truth (f ρ)):=(rfl)
def jig:orW (a8 ae) f ρ=a8 (.v (.e (.bl ae))):=(rfl)
def jih:orW (a8 aa) f ρ=blW (truth (f ρ)):=(rfl)
def jeu:jev (a8 b)=a8 (.v (.e (.bl (!b)))):=(rfl)
def ji0:stW (a8 (.v (.e d)))=a8 (.v (.e d)):=(rfl)
def jfl:j7q (a8 ae) f g ρ=stW (f ρ):=(rfl)
def jfm:j7q (a8 aa) f g ρ=stW (g ρ):=(rfl)
def jcr:consW (a8 (.v x)) (a8 (.a xs))=a8 (.a (x::xs)):=(rfl)
def j40(h:zu xs=a8 l)(hl:l.length<=1000000):U9 (a8 (.a xs))=a8 (.v (.e (.tup l))):=by simp[U9,h,jm,Jw hl]
def Ep(h:zu xs=a8 l)(hl:l.length<=1000000):Zn (a8 (.a xs))=a8 (.v (.o l)):=by simp[Zn,h,jm,Jw hl]
def jdi:U9 (a8 (.a []))=a8 (.v (.e (.tup []))):=by simp[U9,zu,jm]
def jdh{a:D}:U9 (a8 (.a [.e a]))=a8 (.v (.e (.tup [a]))):=j40 rfl (by simp)
def jdg{a b:D}:U9 (a8 (.a [.e a,.e b]))=a8 (.v (.e (.tup [a,b]))):=j40 rfl (by simp)
def jf8:Zn (a8 (.a []))=a8 (.v (.o [])):=by simp[Zn,zu,jm]
def jf7{a:D}:Zn (a8 (.a [.e a]))=a8 (.v (.o [a])):=Ep rfl (by simp)
def jf6{a b:D}:Zn (a8 (.a [.e a,.e b]))=a8 (.v (.o [a,b])):=Ep rfl (by simp)
def jf5{a b c:D}:Zn (a8 (.a [.e a,.e b,.e c]))=a8 (.v (.o [a,b,c])):=Ep rfl (by simp)
noncomputable def Bv(o:Option D):Option W:=o.map λd=>.v (.e d)
theorem Ie:∀xs:List D,zu (xs.map Rk.e)=a8 xs
 |[]=>rfl
 |x::xs=>by rw[X6,zu,Ie xs];rfl
def jf3(xs:List D)(h:xs.length<=1000000):Zn (a8 (.a (xs.map Rk.e)))=a8 (.v (.o xs)):=by simp[Zn,Ie,jm,Jw h]
def jf4{a b c d:D}:Zn (a8 (.a [.e a,.e b,.e c,.e d]))=a8 (.v (.o [a,b,c,d])):=jf3 [a,b,c,d] (by simp)
def j1r:Bv (a8 d)=a8 (.v (.e d)):=(rfl)
def jfj:ixW (a8 (.v (.e (.lst l)))) (a8 (.v (.e (.int i))))=Bv (atI l i):=(rfl)
def jfi:ixW (a8 (.v (.e (.tup l)))) (a8 (.v (.e (.int i))))=Bv (atI l i):=(rfl)
def jiv:ixW (a8 (.v (.o l))) (a8 (.v (.e (.int i))))=Bv (atI l i):=(rfl)
def jit:ixW (a8 (.v (.w l))) (a8 (.v (.e (.int i))))=Bv (atI l i):=(rfl)
noncomputable def jgr(c:Option Nat):Option W:=match c with
 |some c=>a8 (.v (.e (.str ⟨#[c]⟩)))
 |none=>af
def jgq{c:Nat}:jgr (a8 c)=a8 (.v (.e (.str ⟨#[c]⟩))):=(rfl)
def jiu{z:ar}(h:z.length<=1000000):ixW (a8 (.v (.e (.str z)))) (a8 (.v (.e (.int i))))=jgr (atI z.cps.toList i):=by simp only[ixW,Rk.sq,Rk.d,jm,Jw h,decide_true,if_true];cases atI z.cps.toList i<;>rfl
def ji3{z:ar}{lo hi:Option Int}(h:z.length<=1000000):slW (a8 (.v (.e (.str z)))) (a8 lo) (a8 hi)=a8 (.v (.e (.str (cq z lo hi)))):=by simp only[slW,Rk.sq,Rk.d,jm,Jw h,decide_true,if_true]
def jgu{y z:ar}(h:y.length+z.length<=1000000):Zv .add (a8 (.v (.e (.str y)))) (a8 (.v (.e (.str z))))=a8 (.v (.e (.str (y++z)))):=by simp[Zv,Wl,Rk.d,jm,Jw h,rkW]
def jiw{k:Bool}:vo .int (a8 (.a [.e (.bl k)]))=a8 (.v (.e (.int (if k then 1 else 0)))):=(rfl)
def vg{ns:zo}:intsOf (ns.map D.int)=a8 ns:=by
 induction ns with
 |nil=>rfl
 |cons b bs ih=>rw[X6,intsOf,ih];rfl
def j2k{ns:List ar}:strsOf (ns.map D.str)=a8 ns:=by
 induction ns with
 |nil=>rfl
 |cons b bs ih=>rw[X6,strsOf,ih];rfl
def jhy{ns:zo}:vo .sum (a8 (.a [.o (ns.map D.int)]))=a8 (.v (.e (.int ns.sum))):=by simp only[vo,Zu,Rk.d,vg];rfl
def jdn{ns:zo}:vo .sum (a8 (.a [.e (.lst (ns.map D.int))]))=a8 (.v (.e (.int ns.sum))):=by simp only[vo,Zu,Rk.d,vg];rfl
def j1q{sep:ar}{ts:List ar}(h:gq sep ts=ae):Mi sep (a8 (.v (.o (ts.map D.str))))=a8 (.v (.e (.str (fG sep ts)))):=by simp only[Mi,Rk.d,j2k,h,if_true]
def j8f:Mj (a8 (.v (.e (.lst l))))=a8 (.i (Qa l)):=(rfl)
def j8e:Mj (a8 (.v (.e (.tup l))))=a8 (.i (Qa l)):=(rfl)
def j8r:Qt (a8 (.a []))=a8 af:=(rfl)
def j8q:Qt (a8 (.a [.e (.int i)]))=a8 (a8 i):=(rfl)
variable{lo hi:Option Int}
variable{Γ:ar->List D->Rc}{fn:ar}
noncomputable def rcW(r:Rc):Option W:=match r with
 |.val d=>a8 (.v (.e d))
 |.fresh l=>a8 (.v (.o l))
 |_=>af
def ji7:rcW (.val d)=a8 (.v (.e d)):=(rfl)
def ji8:rcW (.fresh l)=a8 (.v (.o l)):=(rfl)
def V7(h:zu xs=a8 l):Qd Γ fn (a8 (.a xs))=rcW (Γ fn l):=by simp only[Qd,h];cases Γ fn l<;>rfl
def jcz{a:D}:Qd Γ fn (a8 (.a [.e a]))=rcW (Γ fn [a]):=V7 rfl
def jcy{a b:D}:Qd Γ fn (a8 (.a [.e a,.e b]))=rcW (Γ fn [a,b]):=V7 rfl
def jcx{a b c:D}:Qd Γ fn (a8 (.a [.e a,.e b,.e c]))=rcW (Γ fn [a,b,c]):=V7 rfl
def j8o:Qd Γ fn (a8 (.a [.o l]))=rcW (Γ fn [.lst l]):=V7 rfl
noncomputable def rcT(r:Rc):Option W:=match r with
 |.val d=>a8 (.v (.t d))
 |.fresh l=>if za l=ae then a8 (.v (.o l))else af
 |_=>af
def ji9:rcT (.val d)=a8 (.v (.t d)):=(rfl)
def jcw(h:zu xs=af):Qd Γ fn (a8 (.a xs))=rcT (Γ fn (xs.map Rk.d)):=by simp only[Qd,h];cases Γ fn (xs.map Rk.d)<;>rfl
def j8n{a b:D}:Qd Γ fn (a8 (.a [.w m,.e a,.e b]))=rcT (Γ fn [.lst m,a,b]):=jcw rfl
def jip:vo .len (a8 (.a [.e (.lst l)]))=a8 (.v (.e (.int l.length))):=(rfl)
def jio:vo .len (a8 (.a [.e (.tup l)]))=a8 (.v (.e (.int l.length))):=(rfl)
def jin:vo .len (a8 (.a [.w l]))=a8 (.v (.e (.int l.length))):=(rfl)
def jf2:vo .max (a8 (.a [.e (.int i),.e (.int j)]))=a8 (.v (.e (.int (if j>i then j else i)))):=(rfl)
def jbk{ns:zo}:M9 (a8 (.v (.w (ns.map D.int))))=a8 (.v (.e (.int (J0 ns)))):=by simp only[M9,Rk.d,vg]
def Dn{ks:List zo}{ds:List D}{k:zo}{d:D}(h:Ql ks ds k=a8 d):Ml (a8 (.v (.e (.dct ks ds)))) (a8 (.v (.e (.tup (k.map D.int)))))=a8 (.v (.e d)):=by simp only[Ml,Rk.d,tupI,vg,h];rfl
def jf1:vo .min (a8 (.a [.e (.int i),.e (.int j)]))=a8 (.v (.e (.int (if j<i then j else i)))):=(rfl)
def jab:vo .tuple (a8 (.a [.o l]))=a8 (.v (.e (.tup l))):=(rfl)
def jaa:vo .tuple (a8 (.a [.w l]))=a8 (.v (.e (.tup l))):=(rfl)
def j17{bs:List Bool}:boolsOf (bs.map D.bl)=a8 bs:=by
 induction bs with
 |nil=>rfl
 |cons b bs ih=>rw[X6,boolsOf,ih];rfl
def jgk{k:zo}{ks:List zo}{ds:List D}:Ou (a8 (.v (.e (.tup (k.map D.int))))) (a8 (.v (.e (.dct ks ds))))=a8 (.v (.e (.bl (ks.contains k)))):=by simp only[Ou,Rk.d,vg];rfl
def jjg{bs:List Bool}:vo .any (a8 (.a [.o (bs.map D.bl)]))=a8 (.v (.e (.bl (bs.any id)))):=by simp only[vo,Zu,Rk.d,j17];rfl
def jfn{ts:List String}:Df (a8 (.v x)) ts=blW (jy x.d ts):=(rfl)
def jao:Wv (a8 (.v (.e (.lst l))))=a8 (.i l):=(rfl)
def jan:Wv (a8 (.v (.e (.tup l))))=a8 (.i l):=(rfl)
def jdt:Wv (a8 (.v (.o l)))=a8 (.i l):=(rfl)
def j6z(h:-4611686018427387904<=i/\i<4611686018427387904):Wz (a8 (.a [.e (.int i)]))=a8 (.i (upto 0 i.toNat)):=if_pos h
def qb{is:List Nat}{c e:En->Option W}{z:Bool}{ds l:List D}(hf:N7 is ρ=ae)(hl:ds.length<=1000000)(h:Qc (Ji is c e ρ) ds=a8 l)(hz:z=aa\/za l=ae):j3e is (a8 (.i ds)) c e z ρ=a8 (.v (.o l)):=by simp only[j3e,hf,jm,Jw hl,decide_true,and_self,if_true,h,lD];rcases hz with z|z<;>simp[z]
def zq{i:Nat}{c e:En->Option W}(hc:c (ρ.set i (.val d))=a8 (.a [])){d':D}(he:e (ρ.set i (.val d))=a8 (.v (.e d'))):Ji [i] c e ρ d=a8 (a8 d'):=by simp[Ji,qz,hc,he,Rk.st]
def O6{i:Nat}{c e:En->Option W}{b:Bool}{d':D}(hc:c (ρ.set i (.val d))=a8 (.a [.e (.bl b)]))(he:b=ae->e (ρ.set i (.val d))=a8 (.v (.e d'))):Ji [i] c e ρ d=a8 (if b=ae then a8 d' else af):=by
 cases b with
 |true=>simp[Ji,qz,hc,he rfl,Rk.st,Rk.d]
 |false=>simp[Ji,qz,hc,Rk.d]
def j1c{i j:Nat}{c e:En->Option W}{a b:D}(hc:c ((ρ.set i (.val a)).set j (.val b))=a8 (.a [])){d':D}(he:e ((ρ.set i (.val a)).set j (.val b))=a8 (.v (.e d'))):Ji [i,j] c e ρ (.tup [a,b])=a8 (a8 d'):=by simp[Ji,qz,hc,he,Rk.st]
def O5{i j:Nat}{c e:En->Option W}{a b:D}{k:Bool}{d':D}(hc:c ((ρ.set i (.val a)).set j (.val b))=a8 (.a [.e (.bl k)]))(he:k=ae->e ((ρ.set i (.val a)).set j (.val b))=a8 (.v (.e d'))):Ji [i,j] c e ρ (.tup [a,b])=a8 (if k=ae then a8 d' else af):=by
 cases k with
 |true=>simp[Ji,qz,hc,he rfl,Rk.st,Rk.d]
 |false=>simp[Ji,qz,hc,Rk.d]
def Vm{α:Type}{xs:List α}{n:Nat}{x:α}(h:xs[n]?=a8 x):atI xs (n:Int)=a8 x:=jd4 h
end
section
def j7t:jy .non ["list","tuple"]=a8 aa:=by simp[jy,qx,D.ty]
def j7w {b:Bool}:jy (.bl b) ["list","tuple"]=a8 aa:=by simp[jy,qx,D.ty]
def jc2 {b:Bool}:jy (.bl b) ["bool"]=a8 ae:=by simp[jy,qx,D.ty]
def jbx {b:Bool}:jy (.bl b) ["str"]=a8 aa:=by simp[jy,qx,D.ty]
def j7z {b:Bool}:jy (.bl b) ["int","str"]=a8 ae:=by simp[jy,qx,D.ty]
def j7v {i:Int}:jy (.int i) ["list","tuple"]=a8 aa:=by simp[jy,qx,D.ty]
def jc1 {i:Int}:jy (.int i) ["bool"]=a8 aa:=by simp[jy,qx,D.ty]
def jbw {i:Int}:jy (.int i) ["str"]=a8 aa:=by simp[jy,qx,D.ty]
def j7y {i:Int}:jy (.int i) ["int","str"]=a8 ae:=by simp[jy,qx,D.ty]
def j7s {z:ar}:jy (.str z) ["list","tuple"]=a8 aa:=by simp[jy,qx,D.ty]
def jc0 {z:ar}:jy (.str z) ["bool"]=a8 aa:=by simp[jy,qx,D.ty]
def jbv {z:ar}:jy (.str z) ["str"]=a8 ae:=by simp[jy,qx,D.ty]
def j7x {z:ar}:jy (.str z) ["int","str"]=a8 ae:=by simp[jy,qx,D.ty]
def j7r {l:List D}:jy (.tup l) ["list","tuple"]=a8 ae:=by simp[jy,qx,D.ty]
def jby {l:List D}:jy (.tup l) ["list"]=a8 aa:=by simp[jy,qx,D.ty]
def jbu {l:List D}:jy (.tup l) ["tuple"]=a8 ae:=by simp[jy,qx,D.ty]
def j7u {l:List D}:jy (.lst l) ["list","tuple"]=a8 ae:=by simp[jy,qx,D.ty]
def jbz {l:List D}:jy (.lst l) ["list"]=a8 ae:=by simp[jy,qx,D.ty]
def jc4:D.isNon .non=ae:=(rfl)
def jc6{b:Bool}:D.isNon (.bl b)=aa:=(rfl)
def jc5{i:Int}:D.isNon (.int i)=aa:=(rfl)
def jc3{z:ar}:D.isNon (.str z)=aa:=(rfl)
end
section
noncomputable abbrev j8(r:zo):D:=.tup (r.map .int)
noncomputable abbrev ql(rs:List zo):List D:=rs.map j8
def jw{α:Type}{f:D->Option (Option D)}{h g:α->D}{L:List α}(q:∀x∈L,f (h x)=a8 (a8 (g x))):Qc f (L.map h)=a8 (L.map g):=by
 induction L with
 |nil=>rfl
 |cons x L ih=>rw[X6,Qc,q x (xr ..),ih λy hy=>q y (xm _ hy)];rfl
def Z4{α:Type}{f:D->Option (Option D)}{h g:α->D}{p:α->Bool}{L:List α}(q:∀x∈L,f (h x)=a8 (if p x=ae then a8 (g x)else af)):Qc f (L.map h)=a8 ((L.filter p).map g):=by
 induction L with
 |nil=>rfl
 |cons x L ih =>
  rw[X6,Qc,q x (xr ..),ih λy hy=>q y (xm _ hy)];by_cases z:p x=ae
  .rw[if_pos z,eP z];rfl
  .rw[if_neg z,cX z]
theorem Wg{f:D->Option (Option D)}:∀{ds:List D},(∀d∈ds,f d=a8 af)->Qc f ds=a8 []
 |[],_=>rfl
 |d::ds,h=>by rw[Qc,h d (xr ..),Wg λd hd=>h d (xm _ hd)]
def take_snoc{α:Type}{l:List α}{i:Nat}{x:α}(h:l[i]?=a8 x):l.take (i+1)=l.take i++[x]:=by rw[d7,h];rfl
def V5{α β:Type}{f:α->β}{l:List α}{i:Nat}{y:β}(h:(l.map f)[i]?=a8 y):∃x,l[i]?=a8 x/\y=f x:=by
 rw[xn]at h;cases e:l[i]? with
 |none=>rw[e]at h;cases h
 |some x=>rw[e]at h;cases h;exact⟨x,rfl,rfl⟩
def j7p{α:Type}{c:Prop}[Decidable c]{x:α}:(if c then x else x)=x:=by split<;>rfl
def j4w{l:List D}(h:Q7 (.tup l)):l.length<=1000/\Z2 l:=by simpa [Q7]using h
def j4y{l:List D}(h:Q7 (.lst l)):l.length<=1000/\Z2 l:=by simpa [Q7]using h
end
section
def Rv(p:zo):D.depL (p.map D.int)=0:=by
 induction p with
 |nil=>rfl
 |cons t ts ih=>simp[D.depL,D.dep,ih]
end
section
variable{fu:Nat}{Γ:ar->List D->Rc}{G:ar->Option D}{ls:List ar}{ρ:En}{i j k:Nat}{e c es m:Ex}{f x y:ar}{b r:Px}
def jbn{n:Int}{ns:zo}(h:ns.length<3999):W4 (a8 (.v (.w (D.int n::ns.map D.int))))=a8 (.v (.e (.int (ddI (n::ns)).length))):=by
 have e:intsOf (D.int n::ns.map D.int)=a8 (n::ns):=vg (ns:=n::ns);have z:(n::ns).length<4000:=by simp;omega
 simp only[W4,Rk.d,strsOf,e,z,if_true]
end
section
variable{Γ:ar->List D->Rc}{G:ar->Option D}{ρ:En}{a:Ex}
def jg2:True:=trivial
end
end L2
end
section
namespace L2
open PySem PySem.Spec PyProof.Rows
noncomputable def j04:Sv->Sv
 |.val d=>match flt d with
  |true=>.val d
  |false=>.un
 |_=>.un
def jd7(ρ:Rho):j5 (ρ.map Oo)=(j5 ρ).map j04:=by
 unfold j5;rw[Xf,Xf];refine Tt λs _=>?_;cases s with
 |val d=>show(Dk (flt d) d).abs=_;unfold Dk;show _=(match flt d with|true=>Sv.val d|false=>Sv.un);cases flt d<;>rfl
 |_=>rfl
noncomputable abbrev tI(k:zo):D:=.tup (k.map D.int)
noncomputable def jt(p:List zo×List zo)(k:zo):List zo×List zo:=if p.2.contains k=ae then p else(p.1++[k],p.2++[k])
noncomputable def bK(un:zo->zo)(bh:zo->Int->Int->zo)(s:zo)(ps:zo):List zo:=ps.flatMap λp=>[bh s p 0,bh s p 1]
noncomputable def bfs(un:zo->zo)(bh:zo->Int->Int->zo):Nat->List zo->List zo->Option (List zo)
 |0,_,_=>af
 |m+1,w,met=>match w.getLast? with
  |none=>a8 met
  |some s=>bfs un bh m ((bK un bh s (un s)).foldl jt (w.dropLast,met)).1 ((bK un bh s (un s)).foldl jt (w.dropLast,met)).2
def j90{p:List zo×List zo}{k:zo}:p.2 <+: (jt p k).2:=by
 unfold jt;split
 .exact gW _
 .exact List.prefix_append _ _
theorem Wb:∀{l:List zo} {p:List zo×List zo},p.2 <+: (l.foldl jt p).2
 |[],p=>gW _
 |k::l,p=>by rw[Pq];exact List.IsPrefix.trans j90 Wb
def jd3{p:List zo×List zo}{k:zo}(h:p.1.length<=p.2.length/\∀s∈p.1,s∈p.2):(jt p k).1.length<=(jt p k).2.length/\∀s∈(jt p k).1,s∈(jt p k).2:=by
 unfold jt;split
 .exact h
 .refine⟨by simp only[Xh];exact Nat.add_le_add_right h.1 _,λs hs=>?_⟩;rcases Xp.mp hs with z|z
  .exact Xk _ (h.2 s z)
  .exact Xb _ z
theorem Di:∀{l:List zo} {p:List zo×List zo},(p.1.length<=p.2.length/\∀s∈p.1,s∈p.2)->(l.foldl jt p).1.length<=(l.foldl jt p).2.length/\∀s∈(l.foldl jt p).1,s∈(l.foldl jt p).2
 |[],_,h=>h
 |k::l,p,h=>by rw[Pq];exact Di (jd3 h)
theorem Mr{un:zo->zo}{bh:zo->Int->Int->zo}:∀{m:Nat}{w met out:List zo},bfs un bh m w met=a8 out->met <+: out
 |0,_,_,_,h=>by cases h
 |m+1,w,met,out,h=>by
  unfold bfs at h;split at h
  .cases h;exact gW _
  .exact List.IsPrefix.trans (Wb (p:=(w.dropLast,met))) (Mr h)
noncomputable abbrev stR(s0 s1 s2:Sv)(start:zo)(w:List zo)(s6 s7 s8 s9:Sv):En:=[s0,s1,s2,.val (tI start),.exc rfN,.own (w.map tI),s6,s7,s8,s9]
def StC(Γ:ar->List D->Rc)(G:ar->Option D)(c eU eL eB:Ex)(r0:En)(out:List zo):Prop:=∃(s0 s1 s2:Sv)(start:zo)(un:zo->zo)(bh:zo->Int->Int->zo)(m:Nat),
 r0=[s0,s1,s2,.val (tI start),.un,.un,.un,.un,.un,.un]/\bfs un bh m [start] [start]=a8 out/\out.length<=100000 /\
 (∀w s6 s7 s8 s9,w.length<=100000->truth (ev Γ G c (stR s0 s1 s2 start w s6 s7 s8 s9))=a8 (decide (0<w.length))) /\
 ∀s∈out,∀w s7 s8 s9,ev Γ G eU (stR s0 s1 s2 start w (.val (tI s)) s7 s8 s9)=a8 (.i ((un s).map D.int)) /\
  ∀p∈un s,(∀w s8 s9,ev Γ G eL (stR s0 s1 s2 start w (.val (tI s)) (.val (.int p)) s8 s9)=a8 (.i [.int 0,.int 1]))/\∀an,an=0\/an=1->∀w s9,ev Γ G eB (stR s0 s1 s2 start w (.val (tI s)) (.val (.int p)) (.val (.int an)) s9)=a8 (.v (.e (tI (bh s p an))))
open Classical in
noncomputable def stG(c eU eL eB:Ex):Nat->(ar->List D->Rc)->(ar->Option D)->En->So:=λ_ Γ G r0=>if h:∃out,StC Γ G c eU eL eB r0 out then .ret (.val (.dct h.choose (h.choose.map λ_=>D.bl ae)))else .no
structure NmO(X:Cx)(i:Nat)(x:ar):Prop where
 n:X.N[i]?=a8 x
 l:Loc X.env.scope x
 v:Vis X.env.scope x
 f:X.fn x=ae\/X.env.scope.names.lookup x=a8 .local
 d:(x==k8z)=aa
 c:(x==k90)=aa
def Jq{ρ:Rho}{s:Sv}{r:En}(h:j5 ρ=s::r):∃y ρ',ρ=y::ρ'/\Sl.abs y=s/\j5 ρ'=r:=by
 cases ρ with
 |nil=>cases h
 |cons y ρ' =>have h:Sl.abs y::j5 ρ'=s::r:=h;injection h with h1 h2;exact⟨y,ρ',rfl,h1,h2⟩
def j93{y:Sl}{d:D}(h:Sl.abs y=.val d):y=.val d:=by cases y<;>cases h;rfl
section
variable{X:Cx}{a:ai}{y0 y1 y2:Sl}{start:zo}{un:zo->zo}{bh:zo->Int->Int->zo}{out:List zo}{Γ:ar->List D->Rc}{G:ar->Option D}
noncomputable abbrev stL(y0 y1 y2:Sl)(start:zo)(a lA:ai)(w:List zo)(s6 s7 s8 s9:Sl):Rho:=[y0,y1,y2,.val (tI start),.raw a dOb rfN,.own lA (w.map tI),s6,s7,s8,s9]
end
section
variable{X:Cx}{a:ai}{ρ:Rho}{ks:List zo}{st:aP}{rest body:List aP}{c:au}{pos:aO}{σ:St}{F H:Hp}{E:Ends}
def TS.plainR{M:Rho->Prop}(h1:DS X ρ st { nx:=M,rt:=λ_=>False })(R:Rep X.K ρ σ F)(hd:Q0 X.K a ks (del F (owns ρ)) F H)(h2:∀ρ1 σ1 F1 H1,M ρ1->Rep X.K ρ1 σ1 F1->Q0 X.K a ks (del F1 (owns ρ1)) F1 H1->Fr0 ρ ρ1 F F1->Jr X rest E σ1 H1):Jr X (st::rest) E σ H:=by
 refine(qw psS Jc).to (Uz (A:=[a]) (D':={ nx:=λσ' F'=>∃ρ',M ρ'/\Rep X.K ρ' σ' F'/\Fr0 ρ ρ' F F',rt:=λ_ _=>False }) hd.hd (by
  rw[hd.del]
  exact h1 σ F _ R ⟨λρ' σ' F' n R' f=>⟨ρ',n,R',f⟩,λ_ _ _ n=>n.elim,λ_ _ _ n=>n.elim,λ_ _ _ n=>n.elim,λ_ _ _ _ n=>n.elim⟩)
  (λσ' F' ⟨ρ',n,R',f⟩ na=>?_) (λ_ _ z=>z) (λ_ _ z=>z) (λ_ _ z=>z))
 exact h2 ρ' σ' F' _ n R' (hd.mrg f (na a (by simp))) f
def TS.whlR(W:Nat->Rho->List zo->Prop)(m:Nat)(h0:W m ρ ks)(hp:fv (aC X.prog X.w) X.A X.env X.xe)(R:Rep X.K ρ σ F)(hD:Q0 X.K a ks (del F (owns ρ)) F H)
  (hs:∀m ρ' ks',W m ρ' ks'->∃k,DB X ρ' c k/\(k=ae->TSs X a ρ' ks' body (λρ2 ks2=>∃m2,m2<m/\W m2 ρ2 ks2))/\(k=aa->∀σ' F' H',Rep X.K ρ' σ' F'->Q0 X.K a ks' (del F' (owns ρ')) F' H'->Fr0 ρ ρ' F F'->Jr X rest E σ' H')):Jr X (.While c body [] pos::rest) E σ H:=by
 refine(qw (j71 hp ptS Jc) Jc).to ?_;refine⟨λm σ' H'=>∃ρ' ks' F',W m ρ' ks'/\Rep X.K ρ' σ' F'/\Q0 X.K a ks' (del F' (owns ρ')) F' H'/\Fr0 ρ ρ' F F',⟨m,ρ,ks,F,h0,R,hD,Fr0.refl _ _⟩,?_⟩;rintro m σ' H' ⟨ρ',ks',F',w,R',D',f⟩;obtain⟨k,hc,ht,hf⟩:=hs m ρ' ks' w;refine Bk (A:=[a]) (Q':=λb F1=>b=k/\j0 F' F1) D'.hd (by rw[D'.del];exact hc σ' F' _ R' λF1 g=>⟨rfl,g⟩) ?_;rintro b F1 ⟨rfl,g⟩ hn;have D1:=D'.mrg (F':=F1) (jf (A:=owns ρ') g) (hn a (by simp));have f1:Fr0 ρ ρ' F F1:=j0.trans f (Fr0.grow g);cases b with
 |true =>refine W7 ?_;refine⟨λσ2 H2=>∃ρ2 ks2 F2,(∃m2,m2<m/\W m2 ρ2 ks2)/\Rep X.K ρ2 σ2 F2/\Q0 X.K a ks2 (del F2 (owns ρ2)) F2 H2/\Fr0 ρ ρ2 F F2,λσ2 H2 ⟨ρ2,ks2,F2,⟨m2,hlt,w2⟩,R2,D2,f2⟩=>⟨m2,hlt,ρ2,ks2,F2,w2,R2,D2,f2⟩,?_⟩;exact ht rfl σ' F1 _ _ (R'.grow g) D1 λρ2 ks2 σ2 F2 H2 n2 R2 d2 f2=>⟨ρ2,ks2,F2,n2,R2,d2,j0.trans f1 f2⟩
 |false=>exact Uc (hf rfl σ' F1 _ (R'.grow g) D1 f1)
end
def Yc{y:Sl}(h:Sl.abs y=.un):y=.un:=by cases y<;>cases h;rfl
theorem Bb:∀{xs:List (zo×ai×aj)},(∀z∈xs,z.2.2=.bool ae)->Vals (xs.map λ_=>V.bl ae) (xs.map λz=>z.2.2)
 |[],_=>.nil
 |z::xs,h=>.cons (h z (xr ..)) (Bb λy hy=>h y (xm _ hy))
theorem Dz{K:k8v}{H:Hp}:∀{xs:List (zo×ai×aj)},j4 K H ((xs.map λz=>z.1).map λ_=>D.bl ae) (xs.map λ_=>V.bl ae)
 |[]=>rfl
 |z::xs=>⟨.bl ae,_,rfl,rfl,Dz⟩
def j68{un:zo->zo}{bh:zo->Int->Int->zo}{s l1 l2:zo}:bK un bh s (l1++l2)=bK un bh s l1++bK un bh s l2:=List.flatMap_append ..
section
variable{X:Cx}
def Ts.states{c' eU' eL' eB':Ex}{nS nM nW nZ nP nA nB:ar}{c eU eL eB:au}{n1 n2:Nat}{p1 p2 p3 p4 p5 p6 p7 p8 p9 p10 p11 p12 p13 p14 p15 p16 p17 p18 p19 p20 p21 p22 p23 q1 q2 q3 q4 q5 q6 q7 q8 q9 q10 q11 q12 q13 q14:aO}
  (hq:X.calm=ae) (mS:NmO X 3 nS) (mM:NmO X 4 nM) (mW:NmO X 5 nW) (mZ:NmO X 6 nZ) (mP:NmO X 7 nP) (mA:NmO X 8 nA) (mB:NmO X 9 nB) (tc:Tr X c' (.b c)) (tU:Tr X eU' (.i (.Name nP p15) eU)) (tL:Tr X eL' (.i (.Name nA p16) eL)) (tB:Tr X eB' (.e eB))
  (d1:(evalEachOpt [a8 (.Name nS p2)] X.env).zip ((evalEach [.Constant (.bool ae) n1 p3] X.env).map λv=>do let x <-v;eS p4;pure x)=[(a8 (aD (.Name nS p2) X.env),do let x <-aD (.Constant (.bool ae) n1 p3) X.env;eS p4;pure x)])
  (s1:aJ (.Dict [a8 (.Name nS p2)] [.Constant (.bool ae) n1 p3] p4) (a8 (.Name nM p1)) p5.line X.env=pure aa) (s2:aJ (.List [.Name nS p7] p8) (a8 (.Name nW p6)) p9.line X.env=pure aa) (t1:ah [.Name nS p7] X.env=[(aa,aD (.Name nS p7) X.env)])
  (u1:(p12.endLine==p13.line)=ae) (u2:aR (.Name nW p11) "pop" X.env (aD (.Name nW p11) X.env)=aD (.Name nW p11) X.env) (u3:aJ (.Call (.Attribute (.Name nW p11) "pop" p12) [] [] p13) (a8 (.Name nZ p10)) p14.line X.env=pure aa)
  (f1:∀x,aI eU X.env x=pure x) (f2:∀x,aI eL X.env x=pure x) (s3:aJ eB (a8 (.Name nB p17)) p18.line X.env=pure aa) (hm:aG .NotIn (.Name nM q2)=aa) (s4:aJ (.Constant (.bool ae) n2 q7) (a8 (.Subscript (.Name nM q4) (.Name nB q5) q6)) q8.line X.env=pure aa)
  (hst:ah [.Name nB q11] X.env=[(aa,aD (.Name nB q11) X.env)]) (hline:(q10.endLine==q12.line)=ae) (hbase:aR (.Name nW q9) "append" X.env (aD (.Name nW q9) X.env)=aD (.Name nW q9) X.env)
  (hfew:((aU q12 (ah [.Name nB q11] X.env)).all (λx=>!x.1)&&(cC q12 (bF [] X.env)).all (λx=>x.1.isSome)&&decide (([.Name nB q11]:List au).length+([]:List bq).length+(if ([]:List bq).isEmpty then 0 else 1)<30))=ae)
  (s5:aJ (.Call (.Attribute (.Name nW q9) "append" q10) [.Name nB q11] [] q12) af q13.line X.env=pure aa) :
  Ts X (.seq (.prm (stG c' eU' eL' eB')) .nop) (.ss [.Assign [.Name nM p1] (.Dict [a8 (.Name nS p2)] [.Constant (.bool ae) n1 p3] p4) p5,.Assign [.Name nW p6] (.List [.Name nS p7] p8) p9,
   .While c [.Assign [.Name nZ p10] (.Call (.Attribute (.Name nW p11) "pop" p12) [] [] p13) p14,.For (.Name nP p15) eU [.For (.Name nA p16) eL [.Assign [.Name nB p17] eB p18,
    .If (.Compare (.Name nB q1) [.NotIn] [.Name nM q2] q3) [.Assign [.Subscript (.Name nM q4) (.Name nB q5) q6] (.Constant (.bool ae) n2 q7) q8,.Expr (.Call (.Attribute (.Name nW q9) "append" q10) [.Name nB q11] [] q12) q13] [] q14] [] p19] [] p20] [] p21,
   .Return (a8 (.Name nM p22)) p23]):=by
 refine Ts.prm (rest:=[]) (λfu Γ G c0 g ρ P N h hr=>?_) Ts.nil;unfold stG at h;split at h
 .rename_i hx;have spec:=hx.choose_spec;generalize hx.choose=out at h spec;obtain⟨s0,s1',s2',start,un,bh,m,er,hb,ho,k1,k2⟩:=spec;obtain⟨y0,ρ,rfl,e0,er⟩:=Jq er;obtain⟨y1,ρ,rfl,e1,er⟩:=Jq er;obtain⟨y2,ρ,rfl,e2,er⟩:=Jq er;obtain⟨y3,ρ,rfl,e3,er⟩:=Jq er;obtain⟨y4,ρ,rfl,e4,er⟩:=Jq er;obtain⟨y5,ρ,rfl,e5,er⟩:=Jq er;obtain⟨y6,ρ,rfl,e6,er⟩:=Jq er;obtain⟨y7,ρ,rfl,e7,er⟩:=Jq er;obtain⟨y8,ρ,rfl,e8,er⟩:=Jq er;obtain⟨y9,ρ,rfl,e9,er⟩:=Jq er;have er:ρ=[]:=by cases ρ with|nil=>rfl|cons _ _=>cases er
  subst er;obtain rfl:=j93 e3;obtain rfl:=Yc e4;obtain rfl:=Yc e5;obtain rfl:=Yc e6;obtain rfl:=Yc e7;obtain rfl:=Yc e8;obtain rfl:=Yc e9;have hrt:P.rt (.val (.dct out (out.map λ_=>D.bl ae))):=h _ rfl;intro σ H E R q;refine(qw (Qx c0.nd mM.n mM.l (j73 c0.un' (v4 mS.n mS.v mS.d mS.c) j2u d1) s1 mM.f) Jc).to ?_;intro a ha;obtain⟨v,sy,b,ys,ev,sq,l⟩:=R.val 3 _ rfl;subst ev;rw[z9 l]at sq;have gU:j0 H (upd H a (.dI [] 0)):=j6 ha;refine⟨.ref b,sy,b,start,rfl,gU.seqT (je.seqT sq),jb,λu ep ru=>?_⟩;rw[Nt];have R0:Rep X.K [y0,y1,y2,.val (tI start),.raw a dOb rfN,.un,.un,.un,.un,.un] (σ.set 4 (a8 (.ref a))) H:=R.set_rf (i:=4);have D0:Q0 X.K a [start] (del H (owns [y0,y1,y2,.val (tI start),.raw a dOb rfN,.un,.un,.un,.un,.un])) H (upd H a (.dI [(start,b,u)] ep)):=⟨_,ep,rfl,ha,rfl,λz hz=>by rw[xg.mp hz];exact sq,λz hz=>by rw[xg.mp hz];exact ru⟩
  have eab:∀{w:List zo} {lA:ai} {s6 s7 s8 s9:Sl},j5 (stL y0 y1 y2 start a lA w s6 s7 s8 s9)=stR s0 s1' s2' start w s6.abs s7.abs s8.abs s9.abs:=λ{w lA s6 s7 s8 s9}=>by rw[<-e0,<-e1,<-e2];rfl
  refine TS.plainR (M:=λρ1=>∃lA,ρ1=stL y0 y1 y2 start a lA [start] .un .un .un .un) (DS.setO 5 (DO.lst (DA.cons (DE.var 3 rfl mS.n mS.v mS.d mS.c) DA.nil t1)) (λl=>⟨l,rfl⟩) c0.nd mW.n mW.l s2 mW.f) R0 D0 ?_;rintro ρ1 σ1 F1 H1 ⟨lA,rfl⟩ R1 D1 fr1;refine TS.whlR (λm ρ' ks'=>∃w s6 s7 s8 s9,ρ'=stL y0 y1 y2 start a lA w s6 s7 s8 s9/\bfs un bh m w ks'=a8 out/\w.length<=ks'.length/\∀s∈w,s∈ks') m ⟨[start],.un,.un,.un,.un,rfl,hb,xu _,λs hs=>hs⟩ c0.po R1 D1 ?_;rintro m ρ' ks' ⟨w,s6,s7,s8,s9,rfl,hb',wl,wsub⟩;have kpre:=Mr hb';have klen:ks'.length<=100000:=Xd kpre.length_le ho;refine⟨decide (0<w.length),sound tc c0 g (stL y0 y1 y2 start a lA w s6 s7 s8 s9) _ (by rw[eab];exact k1 w _ _ _ _ (by omega)),λkt=>?_,λkf=>?_⟩
  .have hpos:0<w.length:=of_decide_eq_true kt;obtain⟨w0,s,rfl⟩:∃w0 s,w=w0++[s]:=⟨w.dropLast,w.getLast (List.length_pos_iff.mp hpos),(i7 _).symm⟩
   cases m with
   |zero=>cases hb'
   |succ m =>
   have hb2:bfs un bh m ((bK un bh s (un s)).foldl jt (w0,ks')).1 ((bK un bh s (un s)).foldl jt (w0,ks')).2=a8 out:=by unfold bfs at hb';simpa using hb'
   have hs:s∈out:=kpre.subset (wsub s (by simp));have ok0:(w0,ks').1.length<=(w0,ks').2.length/\∀s∈(w0,ks').1,s∈(w0,ks').2:=⟨by simp at wl ⊢;omega,λz hz=>wsub z (Xk _ hz)⟩
   have key:∀l1 l2,bK un bh s (un s)=l1++l2->(l1.foldl jt (w0,ks')).1.length<=100000/\(l1.foldl jt (w0,ks')).2.length<=100000:=λl1 l2 e=>by have h1:=(Di (l:=l1) ok0).1;have h2:=(Wb (l:=l2) (p:=l1.foldl jt (w0,ks'))).length_le;have h3:=(Mr hb2).length_le;rw[e,gz]at h3;omega
   have ku:=k2 s hs;refine TSs.plain (M:=λρ1=>ρ1=stL y0 y1 y2 start a lA w0 (.val (tI s)) s7 s8 s9) (DS.popS (w:=5) (i:=6) (l:=lA) (ds:=w0.map tI) (d:=tI s) (by show a8 (Sl.own lA ((w0++[s]).map tI))=_;rw[Xu];rfl) rfl c0.nd mZ.n mW.n mZ.l mZ.f mW.v mW.d mW.c u1 u2 u3) ?_;rintro ρ1 rfl;refine TSs.loop (t:=7) (ds:=(un s).map D.int) (λi ρ' ks2=>∃s7 s8 s9,ρ'=stL y0 y1 y2 start a lA ((bK un bh s ((un s).take i)).foldl jt (w0,ks')).1 (.val (tI s)) s7 s8 s9/\ks2=((bK un bh s ((un s).take i)).foldl jt (w0,ks')).2) (sound tU c0 g _ _ (by rw[eab];exact(ku _ _ _ _).1)) ⟨s7,s8,s9,rfl,rfl⟩ ?_ ?_ hq c0.po c0.nd mP.n mP.l mP.f f1
   .rintro i d ρ2 ks2 hd ⟨t7,t8,t9,rfl,rfl⟩;rw[xn]at hd;obtain⟨p,hp,rfl⟩:=Xv.mp hd;have pm:p∈un s:=Xl hp;have pi:=(ku w0 t7.abs t8.abs t9.abs).2 p pm;have hil:i<(un s).length:=(X4.mp hp).1;have htk:(un s).take (i+1)=(un s).take i++[p]:=by rw[l6,hp];rfl
    have hun:un s=(un s).take i++p::(un s).drop (i+1):=by have:=(j3 (i+1) (un s)).symm;rw[htk,T9]at this;exact this
    have hsp:bK un bh s (un s)=bK un bh s ((un s).take i)++([bh s p 0,bh s p 1]++bK un bh s ((un s).drop (i+1))):=by have:=congrArg (bK un bh s) hun;rw[j68]at this;exact this
    have big:∀j,((([bh s p 0,bh s p 1].take j).foldl jt ((bK un bh s ((un s).take i)).foldl jt (w0,ks'))).1.length<=100000)/\((([bh s p 0,bh s p 1].take j).foldl jt ((bK un bh s ((un s).take i)).foldl jt (w0,ks'))).2.length<=100000):=λj=>by
     have:=key (bK un bh s ((un s).take i)++[bh s p 0,bh s p 1].take j) ([bh s p 0,bh s p 1].drop j++bK un bh s ((un s).drop (i+1))) (by
      rw[hsp]
      conv=>lhs;rw[<-j3 j [bh s p 0,bh s p 1]]
      simp only[T9])
     rw[gz]at this;exact this
    have hfin:([bh s p 0,bh s p 1]:List zo).foldl jt ((bK un bh s ((un s).take i)).foldl jt (w0,ks'))=(bK un bh s ((un s).take (i+1))).foldl jt (w0,ks'):=by rw[htk,j68,gz];rfl
    generalize (bK un bh s ((un s).take i)).foldl jt (w0,ks')=pp at *;generalize (bK un bh s ((un s).take (i+1))).foldl jt (w0,ks')=pq at *;show TSs X a (stL y0 y1 y2 start a lA pp.1 (.val (tI s)) (.val (.int p)) t8 t9) pp.2 _ _;refine TSs.loop (t:=8) (ds:=[.int 0,.int 1]) (λj ρ' ks3=>∃s8 s9,ρ'=stL y0 y1 y2 start a lA (([bh s p 0,bh s p 1].take j).foldl jt pp).1 (.val (tI s)) (.val (.int p)) s8 s9/\ks3=(([bh s p 0,bh s p 1].take j).foldl jt pp).2) (sound tL c0 g _ _ (by rw[eab];exact pi.1 _ _ _)) ⟨t8,t9,rfl,rfl⟩ ?_ ?_ hq c0.po c0.nd mA.n mA.l mA.f f2
    .rintro j d ρ3 ks3 hd ⟨v8,v9,rfl,rfl⟩;obtain⟨an,han,rfl,hnx⟩:∃an,(an=0\/an=1)/\d=.int an/\([bh s p 0,bh s p 1].take (j+1)).foldl jt pp=jt (([bh s p 0,bh s p 1].take j).foldl jt pp) (bh s p an):=by
      match j,hd with
      |0,hd=>cases hd;exact⟨0,.inl rfl,rfl,rfl⟩
      |1,hd=>cases hd;exact⟨1,.inr rfl,rfl,rfl⟩
      |j+2,hd=>cases hd
     have bg:=big j;rw[hnx];generalize ([bh s p 0,bh s p 1].take j).foldl jt pp=pj at bg ⊢;show TSs X a (stL y0 y1 y2 start a lA pj.1 (.val (tI s)) (.val (.int p)) (.val (.int an)) v9) pj.2 _ _;refine TSs.plain (M:=λρ1=>ρ1=stL y0 y1 y2 start a lA pj.1 (.val (tI s)) (.val (.int p)) (.val (.int an)) (.val (tI (bh s p an)))) (DS.set 9 (show DE X _ eB (tI (bh s p an))from sound tB c0 g (stL y0 y1 y2 start a lA pj.1 (.val (tI s)) (.val (.int p)) (.val (.int an)) v9) (.e _) (by rw[eab];exact pi.2 an han _ _)) rfl c0.nd mB.n mB.l s3 mB.f) ?_;rintro ρ1 rfl;refine TSs.new (x:=4) (y:=9) (w:=5) (k:=bh s p an) (ds:=pj.1.map tI) rfl rfl rfl c0.un' (by rw[xf,dX];omega) (by rw[dX];omega) mM.n mM.v mM.d mM.c mB.n mB.v mB.d mB.c mW.n mW.v mW.d mW.c hm s4 hst hline hbase hfew s5 (λhc=>TSs.nil ⟨.val (.int an),.val (tI (bh s p an)),?_⟩) λhc=>TSs.nil ⟨.val (.int an),.val (tI (bh s p an)),?_⟩
     .unfold jt;rw[if_pos hc];exact⟨rfl,rfl⟩
     .unfold jt;rw[if_neg (by rw[hc];exact xj)];refine⟨?_,rfl⟩;show[y0,y1,y2,.val (tI start),.raw a dOb rfN,.own lA (pj.1.map tI++[tI (bh s p an)]),.val (tI s),.val (.int p),.val (.int an),.val (tI (bh s p an))]=stL y0 y1 y2 start a lA (pj.1++[bh s p an]) _ _ _ _;unfold stL;rw[Xu];rfl
    .rintro ρ3 ks3 ⟨v8,v9,rfl,rfl⟩;refine TSs.nil ⟨.val (.int p),v8,v9,?_⟩;show _=stL y0 y1 y2 start a lA pq.1 _ _ _ _/\_=pq.2;rw[<-hfin];exact⟨rfl,rfl⟩
   .rintro ρ2 ks2 ⟨t7,t8,t9,rfl,rfl⟩;rw[xf,Tj];have ok1:=Di (l:=bK un bh s (un s)) ok0;exact TSs.nil ⟨m,Ti _,_,.val (tI s),t7,t8,t9,rfl,hb2,ok1.1,ok1.2⟩
  .have h0:w=[]:=by have:¬0<w.length:=of_decide_eq_false kf;exact List.length_eq_zero_iff.mp (by omega)
   subst h0;cases m with
   |zero=>cases hb'
   |succ m =>
   have eo:ks'=out:=by unfold bfs at hb';simpa using hb'
   subst eo;intro σ' F' H' R' D' fr;obtain⟨xs,ep,eH,fa,ek,kt,tv⟩:=id D';refine(Up (Zj (v4 mM.n mM.v mM.d mM.c))).to ⟨.ref a,(R'.raw 4 a dOb rfN rfl).1,q.rt _ _ H' hrt ⟨?_,?_⟩⟩
   .have g1:j0 (del H (owns [y0,y1,y2,.val (tI start),.un,.un,.un,.un,.un,.un])) (del F' (owns (stL y0 y1 y2 start a lA [] s6 s7 s8 s9))):=j0.trans fr1 fr;exact g1.trans (je.trans (by rw[eH];exact j6 fa))
   .refine⟨a,xs,ep,xs.map λ_=>V.bl ae,rfl,by rw[eH];exact jb,ek,λz hz=>?_,Bb tv,by rw[ek];exact Dz⟩;exact(show j0 (del F' (owns (stL y0 y1 y2 start a lA [] s6 s7 s8 s9))) H' from je.trans (by rw[eH];exact j6 fa)).seqT (kt z hz)
 .exact h.elim
end
def j1f{K:k8v}{G G':Hp}{a:ai}{xs:List V}(h:∀u,G a=a8 u->(∀ys,u≠.lst ys)->(∀z e,u≠.dI z e)->G' a=a8 u)(sq:SqT K G a xs):SqT K G' a xs:=by
 rcases sq with (sq|⟨o,sq⟩)|sq
 .exact .inl (.inl (h _ sq (λ_=>nofun) (λ_ _=>nofun)))
 .exact .inl (.inr ⟨o,h _ sq (λ_=>nofun) (λ_ _=>nofun)⟩)
 .exact .inr sq
section
variable{X:Cx}{ρ:Rho}{e:au}{σ:St}{H:Hp}{ks:List zo}{ns:zo}
def DE.deepD(h:DE X (ρ.map Oo) e (.dct ks (ns.map D.int)))(R:Rep X.K ρ σ H){Q:VK}(q:∀a xs ep H',j0 H H'->H a=af->H' a=a8 (.dI xs ep)->ks=(xs.map λx=>x.1)->(∀x∈xs,SqT X.K H' x.2.1 (x.1.map V.int))->Vals (ns.map V.int) (xs.map λx=>x.2.2)->Q (.ref a) H'):Jo X e σ H Q:=λpins s I=>by
 classical
 have⟨A,hA,inA⟩:∃A:List ai,(∀a∈A,Hq (H a))/\∀b,Hq (H b)->b∈A:=by refine⟨(aA s.heap.objs.size).filter λb=>decide (Hq (H b)),λa ha=>of_decide_eq_true (Pn.mp ha).2,λb hb=>Pn.mpr ⟨Xc.mpr ?_,decide_eq_true hb⟩⟩;refine Nat.lt_of_not_le λz=>?_;rw[show H b=af from I.hok.fresh z]at hb;rcases hb with ⟨_,w⟩|⟨_,_,w⟩|⟨_,w⟩<;>cases w
 refine Mx (A:=A) (Q':=λv F=>j0 (del H A) F/\Enc X.K F (.dct ks (ns.map D.int)) v) hA (h σ (del H A) _ (R.flat hA) λv F g en=>⟨g,en.mono je⟩) (λv F ⟨g,en⟩ hF=>?_) pins s I;obtain⟨a,xs,ep,vs,ev,hx,ek,kt,rv,l⟩:=en;subst ev;have:=Yo l;subst this;have na:a∉A:=λz=>by rw[hF a z]at hx;cases hx
 have gm:j0 F (mrg A H F):=λb o z=>by rw[ji λy=>by rw[hF b y]at z;cases z];exact z
 have gH:j0 H (mrg A H F):=λb o z=>by
  by_cases y:b∈A
  .rw[vz y];exact z
  .rw[ji y];exact g b o (by rw[j7 y];exact z)
 have ha:H a=af:=by
  cases y:H a with
  |none=>rfl
  |some u =>have:=g a u (by rw[j7 na];exact y);rw[hx]at this;exact absurd (inA a (by rw[y,<-this];exact .inr (.inl ⟨_,_,rfl⟩))) na
 exact q a xs ep _ gH ha (gm _ _ hx) ek (λx hx=>gm.seqT (kt x hx)) rv
end
def HlC(Γ:ar->List D->Rc)(G:ar->Option D)(e1 c2:Ex)(r0:En)(p:List zo×zo):Prop :=
 ev Γ G e1 (r0.map j04)=a8 (.v (.e (.dct p.1 (p.2.map D.int))))/\truth (ev Γ G c2 (r0.set 4 (.val (.dct p.1 (p.2.map D.int)))))=a8 aa/\p.1≠[]/\(∀a∈p.1,∀b∈p.1,hI a=hI b->a=b)/\5<r0.length
open Classical in
noncomputable def hlG(e1 c2:Ex):Nat->(ar->List D->Rc)->(ar->Option D)->En->So:=λ_ Γ G r0=>if h:∃p,HlC Γ G e1 c2 r0 p then .next ((r0.set 4 .un).set 5 (.val (.dct h.choose.1 (h.choose.2.map D.int))))else .no
def EqC(Γ:ar->List D->Rc)(G:ar->Option D)(e1 e2:Ex)(r0:En):Prop:=∃(ks:List zo) (ns:zo),ev Γ G e1 r0=a8 (.v (.e (.dct ks (ns.map D.int))))/\ev Γ G e2 r0=a8 (.v (.e (.dct ks (ns.map D.int))))
open Classical in
noncomputable def eqG(e1 e2:Ex):Nat->(ar->List D->Rc)->(ar->Option D)->En->So:=λ_ Γ G r0=>if EqC Γ G e1 e2 r0 then .ret (.val (.bl ae))else .no
section
variable{X:Cx}
def Ts.held {e1' c2':Ex} {b:Sx} {nT nH:ar} {e1 c2:au} {sa rest:List aP} {p1 p2 p3 p4 p5 p6 p7 p8 p9 p10 p11 p12:aO} (mT:NmO X 4 nT) (mH:NmO X 5 nH) (hg:Gl X "dict") (t1:Tr X e1' (.e e1)) (t2:Tr X c2' (.b c2))
  (s1:aJ e1 (a8 (.Name nT p1)) p2.line X.env=pure aa) (hs:ah [.Name nT p6] X.env=(aa,aD (.Name nT p6) X.env)::ah [] X.env) (s3:aJ (.Call (.Name "dict" p5) [.Name nT p6] [] p7) (a8 (.Name nH p4)) p8.line X.env=pure aa)
  (hbase:aR (.Name nT p9) "clear" X.env (aD (.Name nT p9) X.env)=aD (.Name nT p9) X.env) (hline:(p10.endLine==p11.line)=ae) (s4:aJ (.Call (.Attribute (.Name nT p9) "clear" p10) [] [] p11) af p12.line X.env=pure aa) (tb:Ts X b (.ss rest)) :
  Ts X (.seq (.prm (hlG e1' c2')) b) (.ss (.Assign [.Name nT p1] e1 p2::.If c2 sa [] p3::.Assign [.Name nH p4] (.Call (.Name "dict" p5) [.Name nT p6] [] p7) p8::.Expr (.Call (.Attribute (.Name nT p9) "clear" p10) [] [] p11) p12::rest)):=by
 refine Ts.prm (λfu Γ G c0 g ρ P N h hr=>?_) tb;unfold hlG at h;split at h
 .rename_i hx;have spec:=hx.choose_spec;generalize hx.choose=pp at h spec;obtain⟨ks,ns⟩:=pp;obtain⟨k1,k2,k3,k4,k5⟩:=spec;have len:(j5 ρ).length=ρ.length:=xf ..;rw[len]at k5;intro σ H E R q;refine(qw (Qx c0.nd mT.n mT.l peS s1 mT.f) (qw (Kf ptS Jc Uq) (qw (Qx c0.nd mH.n mH.l (Vf j3i hg (c0.bt _ (by decide)) boot_dict (jc (v4 mT.n mT.v mT.d mT.c) jn hs) (by decide) (by decide) hs) s3 mH.f) (qw (Y5 (j4i (v4 mT.n mT.v mT.d mT.c) hbase hline) s4) Jc)))).to ?_;refine DE.deepD (show DE X (ρ.map Oo) e1 (.dct ks (ns.map D.int))from sound t1 c0 g (ρ.map Oo) (.e _) (by rw[jd7];exact k1)) R λa xs ep H1 g1 na m ek kt rv=>?_;have nao:a∉owns ρ:=R.fresh na;have ao:∀c∈owns ρ,∃ys,H1 c=a8 (.lst ys):=λc hc=>let ⟨ys,y⟩:=R.owned c hc;⟨ys,g1 _ _ y⟩;have R1:Rep X.K (ρ.set 4 (.val (.dct ks (ns.map D.int)))) (σ.set 4 (a8 (.ref a))) H1:=(R.grow g1).set_val ⟨a,xs,ep,ns.map V.int,rfl,by rw[j7 nao];exact m,ek,λx hx=>j1f (λu hu n1 n2=>by
   rw[j7];exact hu
   intro z
   obtain⟨ys,y⟩:=ao _ z
   rw[hu]at y;cases y
   exact n1 _ rfl) (kt x hx),rv,j4.ints ns⟩
  have sl:σ.length=ρ.length:=R.len;refine sound t2 c0 g (ρ.set 4 (.val (.dct ks (ns.map D.int)))) aa (by rw[jo];exact k2) (σ.set 4 (a8 (.ref a))) H1 _ R1 λH2 g2=>Uc ?_;have st4:(σ.set 4 (a8 (V.ref a)))[4]?=a8 (a8 (.ref a)):=Js (by omega);have m2:H2 a=a8 (.dI xs ep):=g2 _ _ m;refine⟨.ref a,st4,a,xs,ep,rfl,m2,λx hx=>g2.seqT (kt x hx),λz=>k3 (by rw[ek,z];rfl),λx hx y hy=>k4 _ (by rw[ek];exact Tg hx) _ (by rw[ek];exact Tg hy),λb ep' hb=>?_⟩;have nab:a≠b:=λz=>by rw[z,hb]at m2;cases m2
  have g12:=g1.trans g2;refine⟨.ref a,by rw[qg (by decide)];exact st4,a,xs,ep,rfl,by rw[jd nab];exact m2,λep2=>?_⟩;have g4:j0 H (upd (upd H2 b (.dI xs ep')) a (.dI [] ep2)):=λc u z=>by rw[jd (λy=>by rw[y,na]at z;cases z),jd (λy=>by rw[<-y]at hb;rw[g12 _ _ z]at hb;cases hb)];exact g12 _ _ z
  have R3:Rep X.K (ρ.set 4 .un) (σ.set 4 (a8 (.ref a))) (upd (upd H2 b (.dI xs ep')) a (.dI [] ep2)):=(R.grow g4).set_un;have sub:∀c∈owns (ρ.set 4 .un),c∈owns ρ:=λc hc=>(jg rfl).subset hc;have hbH:H b=af:=by
   cases y:H b with
   |none=>rfl
   |some u=>rw[g12 _ _ y]at hb;cases hb
  have R4:Rep X.K ((ρ.set 4 .un).set 5 (.val (.dct ks (ns.map D.int)))) ((σ.set 4 (a8 (.ref a))).set 5 (a8 (.ref b))) (upd (upd H2 b (.dI xs ep')) a (.dI [] ep2)):=R3.set_val ⟨b,xs,ep',ns.map V.int,rfl,by rw[j7 (λz=>R.fresh hbH (sub _ z)),jd (bE nab)];exact jb,ek,λx hx=>j1f (λu hu n1 n2=>by
   rw[j7,jd,jd]
   .exact hu
   .intro z;rw[z,hb]at hu;cases hu
   .intro z;rw[z,m2]at hu;cases hu;exact n2 _ _ rfl
   .intro z
    obtain⟨ys,y⟩:=ao _ (sub _ z)
    rw[g2 _ _ y]at hu;cases hu
    exact n1 _ rfl) (g2.seqT (kt x hx)),rv,j4.ints ns⟩
  exact hr _ (h _ (by rw[jo,jo];rfl)) _ _ E R4 (q.step (j0.trans (Fr0.grow g4) (j0.trans (Fr0.drop sub) (Fr0.drop λc hc=>(jg rfl).subset hc))))
 .exact h.elim
def Ts.eqd{e1' e2':Ex}{e1 e2:au}{p1 p2:aO}(t1:Tr X e1' (.e e1))(t2:Tr X e2' (.e e2)):Ts X (.seq (.prm (eqG e1' e2')) .nop) (.ss [.Return (a8 (.Compare e1 [.Eq] [e2] p1)) p2]):=by
 refine Ts.prm (rest:=[]) (λfu Γ G c0 g ρ P N h hr=>?_) Ts.nil;unfold eqG at h;split at h
 .rename_i hx;obtain⟨ks,ns,k1,k2⟩:=hx;have hrt:P.rt (.val (.bl ae)):=h (.val (.bl ae)) rfl;intro σ H E R q;refine(Up (Zj (Jf (jbd c0.un') peS peS (zg _)))).to ?_;refine(show DE X ρ e1 (.dct ks (ns.map D.int))from sound t1 c0 g ρ (.e _) k1) σ H _ R λv H1 g1 en1=>(show DE X ρ e2 (.dct ks (ns.map D.int))from sound t2 c0 g ρ (.e _) k2) σ H1 _ (R.grow g1) λu H2 g2 en2=>?_;obtain⟨a,xs,ep,vs,ev,hx,ek,kt,rv,l⟩:=(en1.mono je).mono g2;obtain⟨b,ys,ep',us,eu,hy,ek',kt',rv',l'⟩:=en2.mono je;subst ev eu;have:=Yo l;subst this;have:=Yo l';subst this;exact⟨a,b,xs,ys,ep,ep',rfl,rfl,hx,hy,kt,kt',ek.symm.trans ek',⟨ns,rv,rv'⟩,q.rt _ _ H2 hrt ⟨je.trans (g1.trans g2),rfl⟩⟩
 .exact h.elim
end
end L2
end
section
open PySem (Str)
open L2
noncomputable def jj3:=(k8u (k8u (k8u (k8u (k8u (k8u (k8u @jat @jg2) (k8u @jaq (k8u @jap @jau))) (k8u (k8u @j6v (k8u @jar @j6s)) (k8u @jav (k8u @j6t @jax)))) (k8u (k8u (k8u @jaw @jcd) (k8u @j6u (k8u @j52 @jch))) (k8u (k8u @jcc (k8u @jbk @jbq)) (k8u @j6m (k8u @jas @jf2))))) (k8u (k8u (k8u (k8u @j74 @j1m) (k8u @j45 (k8u @Ik @jix))) (k8u (k8u @jiy (k8u @jdr @jds)) (k8u @je0 (k8u @j48 @jaz)))) (k8u (k8u (k8u @jay (k8u @jey @jfy)) (k8u @jbo (k8u @jgz @jfx))) (k8u (k8u @j1w (k8u @j89 @jg8)) (k8u @jg0 (k8u @jcf @jgf)))))) (k8u (k8u (k8u (k8u (k8u @jg6 @jgd) (k8u @jgb (k8u @jgg @jj7))) (k8u (k8u @jg4 (k8u @jg9 @jg5)) (k8u @jci (k8u @jg1 @jg7)))) (k8u (k8u (k8u @jj8 (k8u @jj6 @jck)) (k8u @jge (k8u @jga @jcj))) (k8u (k8u @jg3 (k8u @j8a @jfz)) (k8u @jdc (k8u @jdd @jc9))))) (k8u (k8u (k8u (k8u @jfr @jjc) (k8u @jgx (k8u @j8y @j8u))) (k8u (k8u @j8w (k8u @j64 @j8x)) (k8u @j8v (k8u @jgt @ji6)))) (k8u (k8u (k8u @jew (k8u @jgo @d_e)) (k8u @d_o (k8u @d_w @jgp))) (k8u (k8u @j8j (k8u @j8m @j8k)) (k8u @j5s (k8u @j7p @j5k))))))) (k8u (k8u (k8u (k8u (k8u (k8u @j5l @j5m) (k8u @j5n (k8u @j5o @j5p))) (k8u (k8u @j5q (k8u @j5r @j5i)) (k8u @j5j (k8u @jfp @j49)))) (k8u (k8u (k8u @jad @jh1) (k8u @jh0 (k8u @jig @jih))) (k8u (k8u @jeu (k8u @ji0 @jfl)) (k8u @jfm (k8u @jcr @jdi))))) (k8u (k8u (k8u (k8u @jdh @jdg) (k8u @jf8 (k8u @jf7 @jf6))) (k8u (k8u @jf5 (k8u @jf4 @j1r)) (k8u @jfj (k8u @jfi @jiv)))) (k8u (k8u (k8u @jit (k8u @j8r @j8q)) (k8u @ji7 (k8u @ji8 @ji9))) (k8u (k8u @jcz (k8u @jcy @jcx)) (k8u @j8o (k8u @jip @jio)))))) (k8u (k8u (k8u (k8u (k8u @jin @jf1) (k8u @jab (k8u @jaa @jfn))) (k8u (k8u @jao (k8u @jan @jdt)) (k8u @j6z (k8u @jce @jcg)))) (k8u (k8u (k8u @jgc (k8u @jgk @jjg)) (k8u @j1h (k8u @jgq @jiu))) (k8u (k8u @ji3 (k8u @jgu @jiw)) (k8u @jhy (k8u @jdn @j8f))))) (k8u (k8u (k8u (k8u @j8e @j7t) (k8u @j7w (k8u @jc2 @jbx))) (k8u (k8u @j7z (k8u @j7v @jc1)) (k8u @jbw (k8u @j7y @j7s)))) (k8u (k8u (k8u @jc0 (k8u @jbv @j7x)) (k8u @j7r (k8u @jby @jbu))) (k8u (k8u @j7u (k8u @jbz @jc4)) (k8u @jc6 (k8u @jc5 @jc3))))))))
local macro_rules | `(tactic| walk_at "go")=>`(tactic| try simp (disch:=first | omega | assumption | (simp only [List.length_map,List.length_append,List.length_cons,List.length_nil,List.length_take,List.length_drop,List.length_reverse] <;> omega)) only [jj3,Yp,beq_self_eq_true,frz,Jm,j86,List.getElem?_cons_zero,List.getElem?_cons_succ,List.set_cons_zero,List.set_cons_succ,List.map_cons,List.map_nil,List.cons_append,List.nil_append,List.replicate,List.length_map,List.length_append,List.length_cons,List.length_nil,Bool.not_true,Bool.not_false,bne_self_eq_false,Nat.reduceSub,Nat.reduceAdd,Int.reduceToNat,Int.reducePow])
local macro_rules | `(tactic| ext)=>`(tactic| walk_at "go")
namespace KL
noncomputable def J9:Sx:=(.seq (.set 1 (.lst (.cons (.tup .nil) .nil))) (.seq (.loop [2] (.seq (.var 0)) (.seq (.set 3 (.lst .nil)) (.seq (.loop [4] (.seq (.var 1)) (.seq (.ext 3 (.comp [5] (.bin .add (.var 4) (.tup (.cons (.var 5) .nil))) (.seq (.var 2)) .nil)) .nop)) (.seq (.mov 1 3) .nop)))) (.seq (.retV 1) .nop)))
noncomputable def fP_all_choices:Fi:=⟨1,6,J9,aa⟩
noncomputable def Yb:Sx:=(.seq (.ife (.cmp .lt (.var 1) (.blt .len (.cons (.var 0) .nil))) (.seq (.ret (.ix (.var 0) (.var 1))) .nop) .nop) (.seq (.set 2 (.bin .add (.lit (.int 70001)) (.bin .mul (.bin .mul (.lit (.int 911)) (.var 1)) (.var 1)))) (.seq (.ife (.cmp .gt (.blt .len (.cons (.var 0) .nil)) (.lit (.int 0))) (.seq (.set 2 (.bin .add (.var 2) (.bin .mul (.bin .mod (.ix (.var 0) (.lit (.int 0))) (.lit (.int 9973))) (.bin .add (.bin .mul (.lit (.int 3)) (.var 1)) (.lit (.int 1)))))) .nop) .nop) (.seq (.retV 2) .nop))))
noncomputable def fL_cell:Fi:=⟨2,3,Yb,aa⟩
noncomputable def V8:Sx:=(.seq (.ife (.isi (.var 1) ["list","tuple"]) (.seq (.ife (.or (.cmp .ne (.isi (.var 0) ["list"]) (.isi (.var 1) ["list"])) (.not (.isi (.var 0) ["list","tuple"]))) (.seq (.ret (.lit (.bl aa))) .nop) .nop) (.seq (.set 2 (.comp [3] (.var 3) (.range (.cons (.blt .min (.cons (.blt .len (.cons (.var 0) .nil)) (.cons (.blt .len (.cons (.var 1) .nil)) .nil))) .nil)) (.cons (.not (.call "_law_same" (.cons (.ix (.var 0) (.var 3)) (.cons (.ix (.var 1) (.var 3)) .nil)))) .nil))) (.seq (.ret (.and (.cmp .eq (.blt .len (.cons (.var 0) .nil)) (.blt .len (.cons (.var 1) .nil))) (.cmp .eq (.var 2) (.lst .nil)))) .nop))) .nop) (.seq (.ife (.isN (.var 1)) (.seq (.ret (.isN (.var 0))) .nop) .nop) (.seq (.ife (.or (.cmp .ne (.isi (.var 0) ["bool"]) (.isi (.var 1) ["bool"])) (.cmp .ne (.isi (.var 0) ["str"]) (.isi (.var 1) ["str"]))) (.seq (.ret (.lit (.bl aa))) .nop) .nop) (.seq (.ret (.and (.isi (.var 0) ["int","str"]) (.cmp .eq (.var 0) (.var 1)))) .nop))))
noncomputable def fL_same:Fi:=⟨2,4,V8,aa⟩
section
variable{G:ar->Option D}{T:ar->Option Fi}
noncomputable def qi(ns:zo)(k:Nat):Int:=match ns[k]? with
 |some v=>v
 |none=>match ns with
  |[]=>70001+911*k*k
  |v::_=>70001+911*k*k+v%9973*(3*k+1)
def Qs {fu n:Nat} (hT:T "_law_cell" = a8 fL_cell) {ns:zo} {k:Nat} (hk:k<=100):evP fu G T (n+1) "_law_cell" [.lst (ns.map .int),.int k]=.val (.int (qi ns k)):=by
 rw[jx (F:=fL_cell) hT rfl];simp only[fL_cell,Yb,enter];by_cases h:k<ns.length
 .have e:atI (ns.map D.int) (k:Int)=a8 (.int ns[k]):=Vm (by simp[h]);have q:qi ns k=ns[k]:=by simp[qi,h]
  ext;simp only[e,j1r,j48,j1m,Ik,j1w,q]
 .cases ns with
  |nil =>ext;simp[qi]
  |cons v r =>
   have e:atI (D.int v::r.map D.int) 0=a8 (.int v):=by simp[atI,ixN]
   have q:qi (v::r) k=70001+911*k*k+v%9973*(3*k+1):=by unfold qi;rw[Pj (by omega)]
   rw[X6];rw[X7]at h;ext;simp only[e];ext;rw[q]
def j6k(f:zo):step [] f=[]:=rfl
def j43(acc:List zo)(a f:zo):step (acc++[a]) f=step acc f++f.map λx=>a++[x]:=by simp[step]
def j0f(fs:List zo)(f:zo):zr (fs++[f])=step (zr fs) f:=by simp[zr]
def Ib(acc:List zo){f:zo}{k:Nat}(h:f.length<=k):(step acc f).length<=acc.length*k:=by
 unfold step;induction acc with
 |nil=>simp
 |cons a acc ih =>rw[List.flatMap_cons,Xh,xf,X7,mw];omega
def j14{fs:List zo}{k:Nat}(h:∀f∈fs,f.length<=k):(zr fs).length<=k^fs.length:=by
 have go:∀(fs acc:List zo),(∀f∈fs,f.length<=k)->(fs.foldl step acc).length<=acc.length*k^fs.length:=by
  intro fs;induction fs with
  |nil=>intro acc _;simp
  |cons f fs ih =>intro acc hf;have h1:=ih (step acc f) λg hg=>hf g (xm _ hg);have h2:=Ib acc (hf f (xr ..));rw[Pq,X7,gK,gL (k^fs.length) k,<-Nat.mul_assoc];exact Xd h1 (Nat.mul_le_mul_right _ h2)
 have:=go fs [[]] h;simpa [zr]using this
def j0g{fs:List zo}{r:zo}(h:r∈zr fs):r.length=fs.length:=by
 have go:∀(fs acc:List zo) (k:Nat),(∀a∈acc,a.length=k)->∀r∈fs.foldl step acc,r.length=k+fs.length:=by
  intro fs;induction fs with
  |nil=>intro acc k ha r hr;exact ha r hr
  |cons f fs ih =>
   intro acc k ha r hr;have:=ih (step acc f) (k+1) (λa hm=>by
    obtain⟨b,hb,hx⟩:=List.mem_flatMap.mp hm
    obtain⟨x,_,rfl⟩:=Xj.mp hx
    rw[Xh,ha b hb];rfl) r hr
   rw[this,X7];omega
 have:=go fs [[]] 0 (λa ha=>by rw[xg.mp ha];rfl) r h;omega
def j0e {fu n:Nat} (hT:T "all_choices" = a8 fP_all_choices) {fs:List zo} (hf:∀f∈fs,f.length<=3) (hl:fs.length<=6):evP fu G T (n+1) "all_choices" [.lst (ql fs)]=.fresh (ql (zr fs)):=by
 rw[jx (F:=fP_all_choices) hT rfl];simp only[fP_all_choices,J9,enter];ext;have small:∀i,(zr (fs.take i)).length<=729:=λi=>by
  have h:=j14 (fs:=fs.take i) (k:=3) λf hm=>hf f (List.mem_of_mem_take hm);have h2:(fs.take i).length<=6:=by rw[Py];omega
  exact Xd h (Pu (by decide) h2)
 refine Z8 (λi ρ=>∃s2 s4,ρ=[.val (.lst (ql fs)),.own (ql (zr (fs.take i))),s2,.un,s4,.un]) ⟨.un,.un,by simp[zr,ql,j8]⟩ ?_ ?_
 .rintro i d ρ hi ⟨s2,s4,rfl⟩;obtain⟨f,hfi,rfl⟩:=V5 hi;have hf3:f.length<=3:=hf f (Xl hfi);have sm:=small i;simp only[Zh];ext;refine j44 (λj ρ=>∃s4,ρ=[.val (.lst (ql fs)),.val (.lst (ql (zr (fs.take i)))),.val (j8 f),.own (ql (step ((zr (fs.take i)).take j) f)),s4,.un]) ⟨s4,by simp[j6k]⟩ ?_ ?_
  .rintro j d ρ hj ⟨s4,rfl⟩;obtain⟨a,haj,rfl⟩:=V5 hj;have hs:=Ib ((zr (fs.take i)).take j) hf3;have hs2:((zr (fs.take i)).take j).length<=729:=by rw[Py];omega
   have ha:a.length<=6:=by have:=j0g (Xl haj);rw[Py]at this;omega
   simp only[Zh];ext;rw[qb (l:=(f.map λx=>j8 (a++[x]))) (by rfl) ?_ ?_ (.inl rfl)]
   .ext;refine⟨_,rfl,.val (j8 a),?_⟩;rw[take_snoc haj,j43];simp only[ql,Xu,Xf];rfl
   .simp only[xf];omega
   .refine jw λx _=>zq (by ext) ?_;ext;simp
  .rintro ρ' ⟨s4,rfl⟩;ext;refine⟨_,rfl,.val (j8 f),s4,?_⟩;rw[take_snoc hfi,j0f,Tj]
 .rintro ρ' ⟨s2,s4,rfl⟩;ext;rw[Tj]
def Cd {fu:Nat} (hT:T "_law_same" = a8 fL_same):∀(k:Nat){x:D}{n:Nat},x.dep<=k->Q7 x->evP fu G T (n+k+1) "_law_same" [x,x]=.val (.bl ae):=by
 intro k;induction k with
 |zero =>
  intro x n hk hx;rw[jx (F:=fL_same) hT rfl];simp only[fL_same,V8,enter];cases x with
  |tup l=>simp[D.dep]at hk
  |lst l=>simp[D.dep]at hk
  |dct ks l=>simp[D.dep]at hk
  |sct k=>simp[D.dep]at hk
  |fn x l=>simp[D.dep]at hk
  |non=>ext
  |bl b=>ext
  |int i=>ext
  |str z=>ext
 |succ k ih =>
  intro x n hk hx;have ih':∀{x:D},x.dep<=k->Q7 x->evP fu G T (n+(k+1)) "_law_same" [x,x]=.val (.bl ae):=λh1 h2=>ih h1 h2;rw[jx (F:=fL_same) hT rfl];simp only[fL_same,V8,enter];cases x with
  |dct ks l=>exact bp (by simpa [Q7]using hx)
  |sct k=>exact bp (by simpa [Q7]using hx)
  |fn x l=>exact bp (by simpa [Q7]using hx)
  |tup l =>
   obtain⟨hl,hx⟩:=j4w hx;have hk:D.depL l<=k:=by simp only[D.dep]at hk;omega
   ext;rw[X8,qb (l:=[]) (by rfl) (by rw[zf];omega) ?_ (.inl rfl)]
   .ext
   .refine Wg λd hd=>?_;obtain⟨j,hj,rfl⟩:=Eo hd;have hg:atI l (0+(j:Int))=a8 l[j]:=by rw[dh];exact Vm (kh hj)
    have hm:l[j]∈l:=Xo hj;refine O6 (b:=aa) (d':=.non) ?_ λz=>by cases z
    ext;simp only[hg];ext;rw[ih' (Xd (D.depL_mem hm) hk) (W6 hx hm)];ext
  |lst l =>
   obtain⟨hl,hx⟩:=j4y hx;have hk:D.depL l<=k:=by simp only[D.dep]at hk;omega
   ext;rw[X8,qb (l:=[]) (by rfl) (by rw[zf];omega) ?_ (.inl rfl)]
   .ext
   .refine Wg λd hd=>?_;obtain⟨j,hj,rfl⟩:=Eo hd;have hg:atI l (0+(j:Int))=a8 l[j]:=by rw[dh];exact Vm (kh hj)
    have hm:l[j]∈l:=Xo hj;refine O6 (b:=aa) (d':=.non) ?_ λz=>by cases z
    ext;simp only[hg];ext;rw[ih' (Xd (D.depL_mem hm) hk) (W6 hx hm)];ext
  |non=>ext
  |bl b=>ext
  |int i=>ext
  |str z=>ext
def j4x{r:zo}(h:r.length<=1000):Q7 (j8 r):=by
 simp only[Q7,xf];refine⟨h,Cp λd hd=>?_⟩;obtain⟨i,_,rfl⟩:=Xj.mp hd
 trivial
def Qo(n:Nat):upto 0 n=(aA n).map λ(k:Nat)=>D.int (0+(k:Int)):=rfl
def jks{m:Nat}(h:m<=6):(1:Int)<=2^m/\(2:Int)^m<=64:=by
 have:m=0\/m=1\/m=2\/m=3\/m=4\/m=5\/m=6:=by omega
 rcases this with e|e|e|e|e|e|e<;>subst e<;>decide
def j1u{p:zo}{k:Nat}(h:k<p.length):atI (p.map D.int) (0+(k:Int))=a8 (.int (p.getD k 0)):=by rw[dh];refine Vm ?_;rw[xn,kh h,km,kh h];rfl
end
end KL
namespace KV
open PySem
noncomputable def letters:List Nat:=[109,100,107,98,118,113,104,122,99,103,114,110,97,112,120,111,108,115,105,101,102,119,116,121,106,117]
def jbm:("mdkbvqhzcgrnapxolsiefwtyju":ar).cps.toList=letters:=by decide +kernel
noncomputable def lt(n:Int):Nat:=letters.getD n.toNat 0
noncomputable def sL(l:List Nat):ar:=⟨l.toArray⟩
def Q4{l:List Nat}:(sL l).length=l.length:=by simp[sL,nN]
def Wx{l m:List Nat}:sL l++sL m=sL (l++m):=by show(⟨l.toArray++m.toArray⟩:ar)=_;simp[sL]
def Bt:∀l:List Nat,fG ("":ar) (l.map λc=>(⟨#[c]⟩:ar))=sL l:=by
 intro l;show nO _ _=_;rw[StrLaws.glued_eq_join];induction l with
 |nil=>rfl
 |cons a r ih =>
  cases r with
  |nil=>rfl
  |cons b r =>
   rw[X6,X6,Str.join,<-X6 (f:=λc=>(⟨#[c]⟩:ar)),ih]
   .show(⟨(#[a] ++ #[])++(b::r).toArray⟩:ar)=⟨(a::b::r).toArray⟩
    simp
   .intro z;cases z
def jdv{l:List Nat}:(sL l).cps.toList=l:=by simp[sL]
def Bx{k n:Nat}:aN af (a8 (k:Int)) 1 n=aN (a8 ((0:Nat):Int)) (a8 (k:Int)) 1 n:=by
 have e:max (0:Int) (min 0 (n:Int))=0:=by omega
 simp[aN,e]
def By{k n:Nat}:aN (a8 (k:Int)) af 1 n=aN (a8 (k:Int)) (a8 (n:Int)) 1 n:=by
 have e:max (0:Int) (min (n:Int) (n:Int))=n:=by omega
 have e2:¬((n:Int)<0):=by omega
 simp[aN,e,e2]
def Ii{l:List Nat}{a b:Nat}{lo hi:Option Int}(he:aN lo hi 1 (sL l).length=aN (a8 (a:Int)) (a8 (b:Int)) 1 (sL l).length)(hab:a<=b)(hb:b<=l.length):cq (sL l) lo hi=sL ((l.drop a).take (b-a)):=by
 have hb':b<=(sL l).length:=by rw[Q4];exact hb
 have q:=StrLaws.sliced_plain (sL l) hab hb';rw[jdv]at q;have e1:=StrLaws.strSliceIndices_plain hab hb';unfold cq;rw[he];by_cases h:((1:Int)==1&&(aN (a8 (a:Int)) (a8 (b:Int)) 1 (sL l).length).length==(sL l).length)=ae
 .rw[if_pos h];rw[e1,Q4,xf,Xe]at h;have:b-a=l.length:=by simpa using h
  have ha:a=0:=by omega
  subst ha;rw[this,l7,Tj]
 .rw[if_neg h,q];rfl
def Be{l:List Nat}{k:Nat}(h:k<=l.length):cq (sL l) af (a8 (k:Int))=sL (l.take k):=by rw[Ii (a:=0) (b:=k) Bx (Xw _) h];simp
def Bg{l:List Nat}{k:Nat}(h:k<=l.length):cq (sL l) (a8 (k:Int)) af=sL (l.drop k):=by rw[Ii (a:=k) (b:=l.length) (by rw[By,Q4]) h (xu _),eV (by rw[eN];omega)]
def Ri {l:List Nat} (h:l.length<=100):gq ("":ar) (l.map λc=>(⟨#[c]⟩:ar))=ae:=by
 unfold gq;rw[gC];have e:∀(r:List Nat)(k:Nat),(r.map λc=>(⟨#[c]⟩:ar)).foldl (λ(x:Nat) (y:ar)=>x+y.length+("":ar).length) k=k+r.length:=by
  intro r;induction r with
  |nil=>intro k;rfl
  |cons a r ih =>intro k;rw[X6,Pq,ih,X7];show k+1+0+r.length=_;omega
 show di _=aa;have:=e l 0;rw[List.foldl_toArray];show di (dQ (λ(x:Nat) (y:ar)=>x+y.length+("":ar).length) 0 _)=aa;rw[this];unfold di;simp;have:=dX;omega
noncomputable def Vy(c:Int):List Nat:=(aA 8).map λ(k:Nat)=>lt (c/(4+5*(k:Int))%26)
noncomputable def Va(c:Int)(s:Nat):List Nat:=(aA s).map λ(k:Nat)=>lt ((c/32+3*(k:Int)*(k:Int)+(k:Int))%26)
def Zo(c:Int):(Vy c).length=8:=by simp[Vy]
def Jb(c:Int)(s:Nat):(Va c s).length=s:=by simp[Va]
noncomputable def stN(c:Int)(m:Nat):Nat:=(c/8%(9-(m:Int))).toNat
noncomputable def szN(c:Int):Nat:=(c/4%8).toNat
noncomputable def atN(c:Int):Nat:=(c/512%((szN c:Int)+1)).toNat
noncomputable def wrd(c:Int)(m k:Nat):List Nat :=
 if c%4<2 then(if c%4=0 then(Vy c).take (stN c m+k+1) else(Vy c).drop (8-stN c m-k-1))
 else(Va c (szN c)).take (atN c)++lt ((c/9+7*(k:Int))%26)::(Va c (szN c)).drop (atN c)
noncomputable def Jh(c:Int)(m:Nat):List ar:=(aA m).map λ(k:Nat)=>sL (wrd c m k)
def jhz{c:Int}{m:Nat}(h:m<=6):stN c m+m<=8:=by unfold stN;have h1:=Tf (c/8) (show(9-(m:Int))≠0 by omega);have h2:=cY (c/8) (show(0:Int)<9-(m:Int)by omega);omega
def jjf(c:Int):atN c<=szN c/\szN c<=7:=by unfold atN;have h1:=Tf (c/512) (show((szN c:Int)+1)≠0 by omega);have h2:=cY (c/512) (show(0:Int)<(szN c:Int)+1 by omega);refine⟨by omega,?_⟩;unfold szN;omega
def Ws(c:Int)(m:Nat):(Jh c m).length=m:=by simp[Jh]
end KV
open PySem (Str)
open L2
namespace KW
open KL KV PySem
noncomputable def Zd:Sx:=(.seq (.set 2 (.lit (.str "mdkbvqhzcgrnapxolsiefwtyju"))) (.seq (.ife (.cmp .lt (.bin .mod (.var 0) (.lit (.int 4))) (.lit (.int 2))) (.seq (.set 3 (.join "" (.comp [4] (.ix (.var 2) (.bin .mod (.bin .fdiv (.var 0) (.bin .add (.lit (.int 4)) (.bin .mul (.lit (.int 5)) (.var 4)))) (.lit (.int 26)))) (.range (.cons (.lit (.int 8)) .nil)) .nil))) (.seq (.set 5 (.bin .mod (.bin .fdiv (.var 0) (.lit (.int 8))) (.bin .sub (.lit (.int 9)) (.var 1)))) (.seq (.ife (.cmp .eq (.bin .mod (.var 0) (.lit (.int 4))) (.lit (.int 0))) (.seq (.ret (.comp [4] (.sl (.var 3) .nil (.cons (.bin .add (.bin .add (.var 5) (.var 4)) (.lit (.int 1))) .nil)) (.range (.cons (.var 1) .nil)) .nil)) .nop) .nop) (.seq (.ret (.comp [4] (.sl (.var 3) (.cons (.bin .sub (.bin .sub (.bin .sub (.lit (.int 8)) (.var 5)) (.var 4)) (.lit (.int 1))) .nil) .nil) (.range (.cons (.var 1) .nil)) .nil)) .nop)))) .nop) (.seq (.set 6 (.bin .mod (.bin .fdiv (.var 0) (.lit (.int 4))) (.lit (.int 8)))) (.seq (.set 7 (.join "" (.comp [4] (.ix (.var 2) (.bin .mod (.bin .add (.bin .add (.bin .fdiv (.var 0) (.lit (.int 32))) (.bin .mul (.bin .mul (.lit (.int 3)) (.var 4)) (.var 4))) (.var 4)) (.lit (.int 26)))) (.range (.cons (.var 6) .nil)) .nil))) (.seq (.set 8 (.bin .mod (.bin .fdiv (.var 0) (.lit (.int 512))) (.bin .add (.var 6) (.lit (.int 1))))) (.seq (.ret (.comp [4] (.bin .add (.bin .add (.sl (.var 7) .nil (.cons (.var 8) .nil)) (.ix (.var 2) (.bin .mod (.bin .add (.bin .fdiv (.var 0) (.lit (.int 9))) (.bin .mul (.lit (.int 7)) (.var 4))) (.lit (.int 26))))) (.sl (.var 7) (.cons (.var 8) .nil) .nil)) (.range (.cons (.var 1) .nil)) .nil)) .nop))))))
noncomputable def fL_words:Fi:=⟨2,9,Zd,aa⟩
noncomputable def Uv:Sx:=(.seq (.set 3 (.comp [4] (.var 4) (.range (.cons (.blt .len (.cons (.var 0) .nil)) .nil)) (.cons (.cmp .eq (.bin .mod (.bin .fdiv (.var 2) (.bin .shl (.lit (.int 1)) (.var 4))) (.lit (.int 2))) (.lit (.int 1))) .nil))) (.seq (.set 5 (.blt .sum (.cons (.comp [4] (.bin .shl (.ix (.var 0) (.var 4)) (.var 4)) (.seq (.var 3)) .nil) .nil))) (.seq (.set 6 (.blt .sum (.cons (.comp [4,7] (.bin .shl (.var 7) (.var 4)) (.enum (.var 0)) .nil) .nil))) (.seq (.ife (.cmp .eq (.var 1) (.lit (.int 1))) (.seq (.ret (.blt .int (.cons (.cmp .gt (.blt .sum (.cons (.var 0) .nil)) (.bin .mod (.bin .fdiv (.var 2) (.lit (.int 64))) (.blt .len (.cons (.var 0) .nil)))) .nil))) .nop) .nop) (.seq (.ife (.cmp .eq (.var 1) (.lit (.int 2))) (.seq (.set 8 (.bin .mod (.bin .mul (.bin .add (.var 6) (.lit (.int 1))) (.bin .add (.lit (.int 1)) (.bin .mod (.var 2) (.lit (.int 1000003))))) (.lit (.int 2147483629)))) (.seq (.ret (.blt .int (.cons (.cmp .eq (.bin .mod (.bin .fdiv (.var 8) (.lit (.int 32))) (.lit (.int 5))) (.lit (.int 0))) .nil))) .nop)) .nop) (.seq (.ife (.cmp .eq (.var 1) (.lit (.int 3))) (.seq (.set 8 (.bin .mul (.bin .add (.bin .add (.bin .mul (.var 5) (.var 5)) (.bin .mul (.lit (.int 17)) (.var 5))) (.lit (.int 69621))) (.bin .add (.lit (.int 1)) (.bin .mod (.var 2) (.lit (.int 1000003)))))) (.seq (.ret (.bin .mod (.bin .fdiv (.bin .mod (.var 8) (.lit (.int 2147483647))) (.lit (.int 16))) (.lit (.int 2)))) .nop)) .nop) (.seq (.ife (.cmp .eq (.var 1) (.lit (.int 4))) (.seq (.ret (.bin .mod (.bin .add (.blt .sum (.cons (.comp [4] (.ix (.var 0) (.var 4)) (.seq (.var 3)) .nil) .nil)) (.bin .fdiv (.var 2) (.lit (.int 64)))) (.lit (.int 2)))) .nop) .nop) (.seq (.set 8 (.bin .mul (.bin .add (.bin .mul (.var 6) (.var 6)) (.lit (.int 48271))) (.bin .add (.bin .add (.bin .mod (.var 2) (.lit (.int 1000003))) (.var 6)) (.lit (.int 1))))) (.seq (.ret (.bin .mod (.bin .fdiv (.bin .mod (.var 8) (.lit (.int 2147483647))) (.lit (.int 64))) (.lit (.int 2)))) .nop)))))))))
noncomputable def fL_bit:Fi:=⟨3,9,Uv,aa⟩
noncomputable def Qg:Sx:=(.seq (.set 3 (.bin .add (.lit (.int 1)) (.bin .mod (.call "_law_cell" (.cons (.var 0) (.cons (.var 1) .nil))) (.var 2)))) (.seq (.set 4 (.call "_law_words" (.cons (.call "_law_cell" (.cons (.var 0) (.cons (.bin .add (.var 1) (.lit (.int 1))) .nil))) (.cons (.var 3) .nil)))) (.seq (.set 5 (.bin .mod (.bin .fdiv (.call "_law_cell" (.cons (.var 0) (.cons (.var 1) .nil))) (.var 2)) (.lit (.int 5)))) (.seq (.set 6 (.lst .nil)) (.seq (.loop [7] (.range (.cons (.bin .shl (.lit (.int 1)) (.var 3)) .nil)) (.seq (.set 8 (.comp [9] (.bin .mod (.bin .fdiv (.var 7) (.bin .shl (.lit (.int 1)) (.bin .sub (.bin .sub (.var 3) (.var 9)) (.lit (.int 1))))) (.lit (.int 2))) (.range (.cons (.var 3) .nil)) .nil)) (.seq (.app 6 (.call "_law_bit" (.cons (.var 8) (.cons (.var 5) (.cons (.call "_law_cell" (.cons (.var 0) (.cons (.bin .add (.var 1) (.lit (.int 2))) .nil))) .nil))))) .nop))) (.seq (.ret (.tup (.cons (.blt .tuple (.cons (.var 4) .nil)) (.cons (.blt .tuple (.cons (.var 6) .nil)) .nil)))) .nop))))))
noncomputable def fL_question:Fi:=⟨3,10,Qg,aa⟩
section
variable{G:ar->Option D}{T:ar->Option Fi}
def j30 {n:Int} (h:0<=n/\n<26):atI ("mdkbvqhzcgrnapxolsiefwtyju":ar).cps.toList n=a8 (lt n):=by
 obtain⟨k,rfl⟩:∃k:Nat,n=(k:Int):=⟨n.toNat,by omega⟩
 have hk:k<letters.length:=by show k<26;omega
 rw[jbm];refine Vm ?_;unfold lt;rw[kh hk,X8,km,kh hk];rfl
def j9m:("mdkbvqhzcgrnapxolsiefwtyju":ar).length<=1000000:=by decide +kernel
def j6a {fu n m:Nat} (hT:T "_law_words" = a8 fL_words) {c:Int} (h:¬c%4<2) (hm:m<=10):evP fu G T (n+1) "_law_words" [.int c,.int m]=.fresh ((Jh c m).map D.str):=by
 rw[jx (F:=fL_words) hT rfl];simp only[fL_words,Zd,enter];have ll:=j9m;have a:=jjf c;obtain⟨s,hs⟩:∃s:Nat,s=szN c:=⟨_,rfl⟩
 have es:c/4%8=(s:Int):=by rw[hs];unfold szN;omega
 obtain⟨q,hq⟩:∃q:Nat,q=atN c:=⟨_,rfl⟩
 have eq:c/512%((s:Int)+1)=(q:Int):=by rw[hq];unfold atN;have:=Tf (c/512) (show((s:Int)+1)≠0 by omega);rw[<-hs];omega
 ext;rw[es,qb (l:=((Va c s).map λx=>(⟨#[x]⟩:ar)).map D.str) (by rfl) (by rw[zf];omega) ?_ (.inl rfl)];rotate_left
 .rw[X8,Qo,Va,Xf,Xf];refine jw λk hk'=>zq (by ext) ?_;have hk:=Xc.mp hk';ext;rw[j30 (by omega)];ext;simp
 rw[j1q (Ri (by rw[Jb];omega)),Bt];have lg:(sL (Va c s)).length=s:=by rw[Q4,Jb]
 ext;rw[eq,qb (l:=(Jh c m).map D.str) (by rfl) (by rw[zf];omega) ?_ (.inl rfl)]
 .ext
 .rw[X8,Qo,Jh,Xf];refine jw λk hk'=>zq (by ext) ?_;have hk:=Xc.mp hk';ext;rw[j30 (by omega)];ext;rw[Be (by rw[Jb];omega),Bg (by rw[Jb];omega)];have e1:(⟨#[lt ((c/9+7*(0+(k:Int)))%26)]⟩:ar)=sL [lt ((c/9+7*(0+(k:Int)))%26)]:=rfl;have l1:(sL ((Va c s).take q)).length=q:=by rw[Q4,Py,Jb];omega
  have l2:(sL ((Va c s).drop q)).length=s-q:=by rw[Q4,eN,Jb]
  have l3:(sL [lt ((c/9+7*(0+(k:Int)))%26)]).length=1:=rfl;have l4:(sL ((Va c s).take q)++sL [lt ((c/9+7*(0+(k:Int)))%26)]).length=q+1:=by rw[Wx,Q4,Xh,Py,Jb,X7,Pb];omega
  rw[e1];ext;rw[Wx,Wx];simp only[cH,wrd,h,if_false,<-hs,<-hq,T9,List.singleton_append,dh]
def j28 {fu n m:Nat} (hT:T "_law_words" = a8 fL_words) {c:Int} (hm:1<=m/\m<=6):evP fu G T (n+1) "_law_words" [.int c,.int m]=.fresh ((Jh c m).map D.str):=by
 by_cases h:c%4<2
 .rw[jx (F:=fL_words) hT rfl];simp only[fL_words,Zd,enter];have ll:=j9m;ext;rw[qb (l:=((Vy c).map λx=>(⟨#[x]⟩:ar)).map D.str) (by rfl) (by rw[zf];decide) ?_ (.inl rfl)];rotate_left
  .rw[Qo,Vy,Xf,Xf];refine jw λk hk'=>zq (by ext) ?_;have hk:=Xc.mp hk';ext;rw[j30 (by omega)];ext;simp
  rw[j1q (Ri (by rw[Zo];decide)),Bt];have st:=jhz (c:=c) hm.2;obtain⟨s,hs⟩:∃s:Nat,s=stN c m:=⟨_,rfl⟩
  have es:c/8%(9-(m:Int))=(s:Int):=by rw[hs];unfold stN;have:=Tf (c/8) (show(9-(m:Int))≠0 by omega);omega
  have lg:(sL (Vy c)).length=8:=by rw[Q4,Zo]
  by_cases h0:c%4=0
  .ext;rw[es,qb (l:=(Jh c m).map D.str) (by rfl) (by rw[zf];omega) ?_ (.inl rfl)]
   .ext
   .rw[X8,Qo,Jh,Xf];refine jw λk hk'=>zq (by ext) ?_;have hk:=Xc.mp hk';ext;have e:(s:Int)+(0+(k:Int))+1=((s+k+1:Nat):Int):=by omega
    have hh:wrd c m k=(Vy c).take (stN c m+k+1):=by unfold wrd;rw[if_pos h,if_pos h0]
    rw[e,Be (by rw[Zo];omega)];simp only[cH,hh,hs]
  .ext;rw[es,qb (l:=(Jh c m).map D.str) (by rfl) (by rw[zf];omega) ?_ (.inl rfl)]
   .ext
   .rw[X8,Qo,Jh,Xf];refine jw λk hk'=>zq (by ext) ?_;have hk:=Xc.mp hk';ext;have e:8-(s:Int)-(0+(k:Int))-1=((8-s-k-1:Nat):Int):=by omega
    have hh:wrd c m k=(Vy c).drop (8-stN c m-k-1):=by unfold wrd;rw[if_pos h,if_neg h0]
    rw[e,Bg (by rw[Zo];omega)];simp only[cH,hh,hs]
 .exact j6a hT h (by omega)
theorem Kz:∀{l:zo},(∀x∈l,0<=x/\x<=32)->0<=l.sum/\l.sum<=32*(l.length:Int)
 |[],_=>by simp
 |a::r,h=>by have h1:=h a (xr ..);have h2:=Kz (l:=r) λx hx=>h x (xm _ hx);rw[eD,X7];omega
def p2k{k:Nat}(h:k<=5):0<(2:Int)^k/\(2:Int)^k<=32:=by
 have:k=0\/k=1\/k=2\/k=3\/k=4\/k=5:=by omega
 rcases this with e|e|e|e|e|e<;>subst e<;>decide
noncomputable def Vt(row:zo)(c:Int):List Nat:=(aA row.length).filter λ(k:Nat)=>decide (c/(1*2^(0+(k:Int)).toNat)%2=1)
noncomputable def U3(row:zo)(c:Int):zo:=(Vt row c).map λ(k:Nat)=>row.getD k 0*2^(0+(k:Int)).toNat
noncomputable def byL(row:zo):zo:=row.zipIdx.map λp=>p.1*2^((p.2:Nat):Int).toNat
def t0k(k:Nat):(0+(k:Int)).toNat=k:=by omega
def j9x{row:zo}(h01:∀x∈row,x=0\/x=1)(k:Nat):row.getD k 0=0\/row.getD k 0=1:=by
 rw[km];cases h:row[k]? with
 |none=>exact .inl rfl
 |some v=>exact h01 v (Xl h)
def jbr{row:zo}{c:Int}(h01:∀x∈row,x=0\/x=1)(hl:row.length<=6):0<=(U3 row c).sum/\(U3 row c).sum<=192:=by
 have h:=Kz (l:=U3 row c) λx hx=>by obtain⟨k,hk,rfl⟩:=Xj.mp hx;have hk2:=Xc.mp (Pn.mp hk).1;have p:=p2k (k:=k) (by omega);rw[t0k];rcases j9x h01 k with e|e<;>rw[e]<;>omega
 have l:(U3 row c).length<=6:=by unfold U3 Vt;rw[xf];exact Xd (Td _ _) (by rw[Xe];exact hl)
 omega
def jja{row:zo}(h01:∀x∈row,x=0\/x=1)(hl:row.length<=6):0<=(byL row).sum/\(byL row).sum<=192:=by
 have h:=Kz (l:=byL row) λx hx=>by obtain⟨p,hp,rfl⟩:=Xj.mp hx;obtain⟨a,k⟩:=p;have hm:=kQ hp;have p:=p2k (k:=k) (by omega);show 0<=a*2^((k:Nat):Int).toNat/\a*2^((k:Nat):Int).toNat<=32;rw[X8];have:=h01 a (by rw[hm.2.2];exact Xo _);rcases this with e|e<;>rw[e]<;>omega
 have l:(byL row).length<=6:=by unfold byL;rw[xf,fV];exact hl
 omega
def jgw {fu n:Nat} (hT:T "_law_bit" = a8 fL_bit) {row:zo} {kd c:Int} (h01:∀x∈row,x=0\/x=1) (hl:1<=row.length/\row.length<=6):∃b:Int,(b=0\/b=1)/\evP fu G T (n+1) "_law_bit" [.lst (row.map D.int),.int kd,.int c]=.val (.int b):=by
 rw[jx (F:=fL_bit) hT rfl];simp only[fL_bit,Uv,enter];have kb:=jbr (c:=c) h01 hl.2;have bb:=jja h01 hl.2;have sl:(Vt row c).length<=6:=by unfold Vt;exact Xd (Td _ _) (by rw[Xe];exact hl.2)
 have get:∀k:Nat,k∈Vt row c->atI (row.map D.int) (0+(k:Int))=a8 (.int (row.getD k 0)):=λk hk=>j1u (Xc.mp (Pn.mp hk).1);ext;rw[qb (l:=(Vt row c).map λ(k:Nat)=>D.int (0+(k:Int))) (by rfl) (by rw[zf];omega) ?_ (.inl rfl)];rotate_left
 .rw[X8,Qo,Vt];refine Z4 λk hk'=>?_;have hk:=Xc.mp hk';have p:0<(2:Int)^(0+(k:Int)).toNat/\(2:Int)^(0+(k:Int)).toNat<=32:=by rw[t0k];exact p2k (by omega)
  refine O6 ?_ λ_=>?_
  .ext;simp only[j22];ext
  .ext
 ext;rw[qb (l:=(U3 row c).map D.int) (by rfl) (by rw[xf];omega) ?_ (.inr (Z1 _))];rotate_left
 .rw[U3,Xf];refine jw λk hk'=>zq (by ext) ?_;have b:=j9x h01 k;have hk:=Xc.mp (Pn.mp hk').1;ext;rw[get k hk'];ext;rfl
 ext;rw[qb (l:=(byL row).map D.int) (by rfl) (by simp only[Qa,xf,fV];omega) ?_ (.inl rfl)];rotate_left
 .rw[byL,Xf,Qa,List.zipIdx_map,Xf];refine jw λq hq=>?_;obtain⟨a,k⟩:=q;have hm:=kQ hq;have h1:=h01 a (by rw[hm.2.2];exact Xo _);show Ji _ _ _ _ (D.tup [.int (k:Int),.int a])=_;refine j1c (by ext) ?_;ext;rfl
 ext;generalize (U3 row c).sum=kept at *;generalize (byL row).sum=byr at *;by_cases k1:kd=1
 .refine⟨if decide (c/64%(row.length:Int)<row.sum)=ae then 1 else 0,by split<;>simp,?_⟩;ext;simp only[jcu];ext
 .by_cases k2:kd=2
  .refine⟨if decide ((byr+1)*(1+c%1000003)%2147483629/32%5=0)=ae then 1 else 0,by split<;>simp,?_⟩;ext;simp only[j22];ext
  .by_cases k3:kd=3
   .refine⟨(kept*kept+17*kept+69621)*(1+c%1000003)%2147483647/16%2,by omega,?_⟩;ext
   .by_cases k4:kd=4
    .refine⟨(((Vt row c).map λ(k:Nat)=>row.getD k 0).sum+c/64)%2,by omega,?_⟩;ext;rw[qb (l:=((Vt row c).map λ(k:Nat)=>row.getD k 0).map D.int) (by rfl) (by rw[xf];omega) ?_ (.inr (Z1 _))]
     .ext
     .rw[Xf];refine jw λk hk'=>zq (by ext) ?_;ext;rw[get k hk'];ext;rfl
    .refine⟨(byr*byr+48271)*(c%1000003+byr+1)%2147483647/64%2,by omega,?_⟩;ext
noncomputable def Dq(fu:Nat)(G:ar->Option D)(T:ar->Option Fi)(n:Nat)(row:zo)(kd c:Int):Int:=match evP fu G T (n+1) "_law_bit" [.lst (row.map D.int),.int kd,.int c] with
 |.val (.int b)=>b
 |_=>0
def j0o {fu n:Nat} (hT:T "_law_bit" = a8 fL_bit) {row:zo} {kd c:Int} (h01:∀x∈row,x=0\/x=1) (hl:1<=row.length/\row.length<=6):(Dq fu G T n row kd c=0\/Dq fu G T n row kd c=1)/\evP fu G T (n+1) "_law_bit" [.lst (row.map D.int),.int kd,.int c]=.val (.int (Dq fu G T n row kd c)):=by obtain⟨b,hb,e⟩:=jgw (fu:=fu) (n:=n) (G:=G) hT h01 hl (kd:=kd) (c:=c);unfold Dq;rw[e];exact⟨hb,rfl⟩
def j9w(m:Nat)(z:Int):∀x∈ju 2 m z,x=0\/x=1:=by
 intro x hx;obtain⟨i,hi⟩:=List.mem_iff_getElem?.mp hx;have hl:i<m:=by have:=(X4.mp hi).1;rw[zx]at this;exact this
 rw[Zc 2 hl]at hi;cases hi;omega
noncomputable def Vv(ns:zo)(a most:Nat):Nat:=(1+qi ns a%(most:Int)).toNat
noncomputable def Yt(fu:Nat)(G:ar->Option D)(T:ar->Option Fi)(n:Nat)(ns:zo)(a most:Nat):zo :=
 (aA (2^Vv ns a most)).map λ(k:Nat)=>Dq fu G T n (ju 2 (Vv ns a most) (k:Int)) (qi ns a/(most:Int)%5) (qi ns (a+2))
def Fx{ns:zo}{a most:Nat}(h:1<=most/\most<=6):1<=Vv ns a most/\Vv ns a most<=most:=by unfold Vv;have h1:=Tf (qi ns a) (show(most:Int)≠0 by omega);have h2:=cY (qi ns a) (show(0:Int)<most by omega);omega
def jd5 {fu n:Nat} (hB:T "_law_bit" = a8 fL_bit) {ns:zo} {a most:Nat} (hm:1<=most/\most<=6):∀x∈Yt fu G T n ns a most,x=0\/x=1:=by intro x hx;obtain⟨k,_,rfl⟩:=Xj.mp hx;have mb:=Fx (ns:=ns) (a:=a) hm;exact(j0o hB (j9w _ _) (by rw[zx];omega)).1
def K6 {fu n:Nat} (hC:T "_law_cell" = a8 fL_cell) (hW:T "_law_words" = a8 fL_words) (hB:T "_law_bit" = a8 fL_bit) (hT:T "_law_question" = a8 fL_question) {ns:zo} {a most:Nat} (ha:a<=50) (hm:1<=most/\most<=6) :
  evP fu G T (n+2) "_law_question" [.lst (ns.map D.int),.int a,.int most]=.val (.tup [.tup ((Jh (qi ns (a+1)) (Vv ns a most)).map D.str),.tup ((Yt fu G T n ns a most).map D.int)]):=by
 rw[jx (F:=fL_question) hT rfl];simp only[fL_question,Qg,enter];have mb:=Fx (ns:=ns) (a:=a) hm;obtain⟨m,em⟩:∃m:Nat,m=Vv ns a most:=⟨_,rfl⟩
 have em2:1+qi ns a%(most:Int)=(m:Int):=by rw[em];unfold Vv;have h1:=Tf (qi ns a) (show(most:Int)≠0 by omega);omega
 rw[<-em]at mb;have p2:=jks (m:=m) (by omega);have pc:((2^m:Nat):Int)=(2:Int)^m:=by simp
 have e3:(1*2^m:Int).toNat=2^m:=by rw[eF,<-pc];exact X8 _
 have c0:evP fu G T (n+1) "_law_cell" [.lst (ns.map D.int),.int a]=.val (.int (qi ns a)):=Qs hC (by omega);have c1:evP fu G T (n+1) "_law_cell" [.lst (ns.map D.int),.int ((a:Int)+1)]=.val (.int (qi ns (a+1))):=Qs hC (k:=a+1) (by omega);have c2:evP fu G T (n+1) "_law_cell" [.lst (ns.map D.int),.int ((a:Int)+2)]=.val (.int (qi ns (a+2))):=Qs hC (k:=a+2) (by omega);have wl:(Jh (qi ns (a+1)) m).length=m:=Ws _ _;ext;rw[c0];ext;rw[em2,c1];ext;rw[j28 hW (by omega)];ext;rw[c0];ext;rw[X8];ext;rw[e3];rw[j7e (λi=>[.val (.lst (ns.map D.int)),.val (.int a),.val (.int most),.val (.int m),.own ((Jh (qi ns (a+1)) m).map D.str),.val (.int (qi ns a/(most:Int)%5)),.own (((Yt fu G T n ns a most).take i).map D.int),if i=0 then .un else .val (.int ((i:Int)-1)),if i=0 then .un else .own ((ju 2 m ((i:Int)-1)).map D.int),.un]) (by simp)]
 .ext;rw[zf,eV (by simp[Yt,<-em]),<-em]
 .intro i d hi;obtain⟨h1,rfl⟩:=j6b hi;have hz:=j9w m (0+(i:Int));have hlz:=zx 2 m (0+(i:Int));obtain⟨hb,eb⟩:=j0o (fu:=fu) (n:=n) (G:=G) hB hz (by omega) (kd:=qi ns a/(most:Int)%5) (c:=qi ns (a+2));have lt64:2^m<=64:=by omega
  have al:(Yt fu G T n ns a most).length=2^m:=by simp[Yt,<-em]
  have ag:(Yt fu G T n ns a most)[i]?=a8 (Dq fu G T n (ju 2 m (0+(i:Int))) (qi ns a/(most:Int)%5) (qi ns (a+2))):=by unfold Yt;rw[<-em,xn,Pg h1,dh];rfl
  simp only[Zh];ext;rw[qb (l:=(ju 2 m (0+(i:Int))).map D.int) (by rfl) (by rw[zf];omega) ?_ (.inl rfl)];rotate_left
  .have ed:ju 2 m (0+(i:Int))=(aA m).map λ(k:Nat)=>(0+(i:Int))/2^(m-k-1)%2:=by
    refine de λk=>?_;by_cases hk:k<m
    .rw[Zc 2 hk,xn,Pg hk];rfl
    .rw[Pj (by rw[zx];omega),Pj (by simp;omega)]
   rw[X8,Qo,ed,Xf];refine jw λk hk'=>zq (by ext) ?_;have hk:=Xc.mp hk';have et:((m:Int)-(0+(k:Int))-1).toNat=m-k-1:=by omega
   have p:=p2k (k:=m-k-1) (by omega);rw[<-et]at p;ext;rw[et,eF];rfl
  ext;rw[c2];ext;rw[j8n,eb];ext;rw[jgy (by simp only[xf,Py];omega) rfl];ext;rw[d7,ag];simp
end
end KW
section
namespace K46
open PySem PySem.Spec PyProof.Rows L2
noncomputable section
noncomputable def top(i:Nat):aP:=PySem.Challenge.pw_leastasks_k46_lie_table_cells.main.body.getD i (.Pass ⟨0,0,0,0⟩)
noncomputable def Vz:Sx:=(.seq (.expr (.call "refuse_wrong_size" (.cons (.var 0) .nil))) (.seq (.ret (.call "all_choices" (.cons (.bin .mul (.lst (.cons (.glob "ANSWERS") .nil)) (.var 0)) .nil))) .nop))
noncomputable def Wd:Fi:=⟨1,1,Vz,aa⟩
noncomputable def Z6:Sx:=(.seq (.ret (.call "number_of" (.cons (.var 0) (.cons (.blt .len (.cons (.glob "ANSWERS") .nil)) .nil)))) .nop)
noncomputable def Vq:Fi:=⟨1,1,Z6,aa⟩
noncomputable def J3:Sx:=(.seq (.ife (.or (.cmp .lt (.var 0) (.glob "FEWEST_PLACES")) (.cmp .gt (.var 0) (.glob "MOST_PLACES"))) (.seq .fail .nop) .nop) .nop)
noncomputable def Q8:Fi:=⟨1,1,J3,aa⟩
noncomputable def J9:Sx:=(.seq (.set 1 (.lst (.cons (.tup .nil) .nil))) (.seq (.loop [2] (.seq (.var 0)) (.seq (.set 3 (.lst .nil)) (.seq (.loop [4] (.seq (.var 1)) (.seq (.ext 3 (.comp [5] (.bin .add (.var 4) (.tup (.cons (.var 5) .nil))) (.seq (.var 2)) .nil)) .nop)) (.seq (.mov 1 3) .nop)))) (.seq (.retV 1) .nop)))
noncomputable def fP_all_choices:Fi:=⟨1,6,J9,aa⟩
noncomputable def Zw:Sx:=(.seq (.set 2 (.lit (.int 0))) (.seq (.loop [3] (.seq (.var 0)) (.seq (.set 2 (.bin .add (.bin .mul (.var 2) (.var 1)) (.var 3))) .nop)) (.seq (.retV 2) .nop)))
noncomputable def Yl:Fi:=⟨2,4,Zw,aa⟩
noncomputable def Zy:Sx:=(.seq (.ret (.ix (.ix (.var 0) (.lit (.int 1))) (.call "row_number" (.cons (.var 1) .nil)))) .nop)
noncomputable def Yn:Fi:=⟨2,2,Zy,aa⟩
noncomputable def Wm:Sx:=(.seq (.ife (.cmp .notin (.var 1) (.ix (.var 0) (.lit (.int 0)))) (.seq .fail .nop) .nop) (.seq (.ret (.tix (.ix (.var 0) (.lit (.int 0))) (.var 1))) .nop))
noncomputable def j38:Fi:=⟨2,2,Wm,aa⟩
noncomputable def Qf:Sx:=(.seq (.ret (.bin .add (.call "row_number" (.cons (.bin .mul (.tup (.cons (.lit (.int 1)) .nil)) (.var 0)) .nil)) (.lit (.int 1)))) .nop)
noncomputable def Zb:Fi:=⟨1,1,Qf,aa⟩
noncomputable def Zx:Sx:=(.lmk 2 "number_filled_in" (.cons (.call "state_told" (.cons (.var 0) (.cons (.var 1) (.cons (.lst .nil) .nil)))) (.cons (.var 0) (.cons (.var 1) .nil))))
noncomputable def Ym:Fi:=⟨2,3,Zx,aa⟩
noncomputable def Z5:Sx:=(.seq (.expr (.call "refuse_wrong_lies" (.cons (.var 0) (.cons (.var 1) .nil)))) (.seq (.set 3 (.bin .mul (.tup (.cons (.lit (.int 0)) .nil)) (.call "count_of_rows" (.cons (.blt .len (.cons (.ix (.var 0) (.lit (.int 0))) .nil)) .nil)))) (.seq (.loop [4,5] (.seq (.var 2)) (.seq (.set 3 (.call "state_behind" (.cons (.var 3) (.cons (.call "spot_of" (.cons (.var 0) (.cons (.var 4) .nil))) (.cons (.var 5) (.cons (.var 0) (.cons (.var 1) .nil))))))) .nop)) (.seq (.retV 3) .nop))))
noncomputable def Vp:Fi:=⟨3,6,Z5,aa⟩
noncomputable def Qm:Sx:=(.seq (.set 5 (.call "rows_of" (.cons (.blt .len (.cons (.ix (.var 3) (.lit (.int 0))) .nil)) .nil))) (.seq (.keep 5) (.seq (.ret (.blt .tuple (.cons (.comp [6,7] (.ite (.cmp .eq (.ix (.var 6) (.var 1)) (.var 2)) (.var 7) (.call "with_another_lie" (.cons (.var 7) (.cons (.var 4) .nil)))) (.zip (.var 5) (.var 0)) .nil) .nil))) .nop)))
noncomputable def Zq:Fi:=⟨5,8,Qm,aa⟩
noncomputable def Jd:Sx:=(.seq (.ret (.ite (.or (.cmp .eq (.var 0) (.glob "GONE")) (.cmp .eq (.var 0) (.var 1))) (.glob "GONE") (.bin .add (.var 0) (.lit (.int 1))))) .nop)
noncomputable def Qh:Fi:=⟨2,2,Jd,aa⟩
noncomputable def Qe:Sx:=(.seq (.ret (.comp [2,3] (.var 2) (.zip (.call "rows_of" (.cons (.blt .len (.cons (.ix (.var 1) (.lit (.int 0))) .nil)) .nil)) (.var 0)) (.cons (.cmp .ne (.var 3) (.glob "GONE")) .nil))) .nop)
noncomputable def Za:Fi:=⟨2,4,Qe,aa⟩
noncomputable def Z7:Sx:=(.seq (.set 2 (.comp [3] (.call "answer_to" (.cons (.var 1) (.cons (.var 3) .nil))) (.seq (.call "rows_of_state" (.cons (.var 0) (.cons (.var 1) .nil)))) .nil)) (.seq (.ret (.cmp .le (.lset (.var 2)) (.lit (.int 1)))) .nop))
noncomputable def Vr:Fi:=⟨2,4,Z7,aa⟩
noncomputable def V2:Sx:=(.dx (.fill 1 4 (.call "is_settled" (.cons (.var 1) (.cons (.var 2) .nil))) "best_ask" (.cons (.var 1) (.cons (.var 2) (.cons (.var 3) .nil)))))
noncomputable def Qi:Fi:=⟨4,5,V2,aa⟩
noncomputable def O4:Sx:=(.dx (.minc 4 5 (.call "spots_unlike" (.cons (.call "rows_of_state" (.cons (.var 1) (.cons (.var 2) .nil))) .nil)) "greatest_behind" (.cons (.var 1) (.cons (.var 5) (.cons (.var 2) (.cons (.var 3) .nil))))))
noncomputable def Ud:Fi:=⟨4,6,O4,aa⟩
noncomputable def Vk:Sx:=(.dx (.maxc 5 7 (.comp [6] (.call "state_behind" (.cons (.var 1) (.cons (.var 2) (.cons (.var 6) (.cons (.var 3) (.cons (.var 4) .nil)))))) (.seq (.glob "ANSWERS")) .nil) "number_filled_in" (.cons (.var 7) (.cons (.var 3) (.cons (.var 4) .nil)))))
noncomputable def Qq:Fi:=⟨5,8,Vk,aa⟩
noncomputable def Qn:Sx:=(.seq (.ret (.comp [1,2] (.var 1) (.enum (.ix (.var 0) (.lit (.int 0)))) (.cons (.blt .any (.cons (.comp [3] (.cmp .ne (.ix (.var 3) (.var 1)) (.var 2)) (.seq (.var 0)) .nil) .nil)) .nil))) .nop)
noncomputable def Zr:Fi:=⟨1,4,Qn,aa⟩
noncomputable def J4:Sx:=(.seq (.ife (.or (.cmp .lt (.var 1) (.glob "FEWEST_LIES")) (.cmp .gt (.var 1) (.glob "MOST_LIES"))) (.seq .fail .nop) .nop) (.seq (.ife (.cmp .gt (.blt .len (.cons (.ix (.var 0) (.lit (.int 0))) .nil)) (.glob "MOST_PLACES_WITH_LIES")) (.seq .fail .nop) .nop) .nop))
noncomputable def Q9:Fi:=⟨2,2,J4,aa⟩
noncomputable def Yb:Sx:=(.seq (.ife (.cmp .lt (.var 1) (.blt .len (.cons (.var 0) .nil))) (.seq (.ret (.ix (.var 0) (.var 1))) .nop) .nop) (.seq (.set 2 (.bin .add (.lit (.int 70001)) (.bin .mul (.bin .mul (.lit (.int 911)) (.var 1)) (.var 1)))) (.seq (.ife (.cmp .gt (.blt .len (.cons (.var 0) .nil)) (.lit (.int 0))) (.seq (.set 2 (.bin .add (.var 2) (.bin .mul (.bin .mod (.ix (.var 0) (.lit (.int 0))) (.lit (.int 9973))) (.bin .add (.bin .mul (.lit (.int 3)) (.var 1)) (.lit (.int 1)))))) .nop) .nop) (.seq (.retV 2) .nop))))
noncomputable def fL_cell:Fi:=⟨2,3,Yb,aa⟩
noncomputable def Zd:Sx:=(.seq (.set 2 (.lit (.str "mdkbvqhzcgrnapxolsiefwtyju"))) (.seq (.ife (.cmp .lt (.bin .mod (.var 0) (.lit (.int 4))) (.lit (.int 2))) (.seq (.set 3 (.join "" (.comp [4] (.ix (.var 2) (.bin .mod (.bin .fdiv (.var 0) (.bin .add (.lit (.int 4)) (.bin .mul (.lit (.int 5)) (.var 4)))) (.lit (.int 26)))) (.range (.cons (.lit (.int 8)) .nil)) .nil))) (.seq (.set 5 (.bin .mod (.bin .fdiv (.var 0) (.lit (.int 8))) (.bin .sub (.lit (.int 9)) (.var 1)))) (.seq (.ife (.cmp .eq (.bin .mod (.var 0) (.lit (.int 4))) (.lit (.int 0))) (.seq (.ret (.comp [4] (.sl (.var 3) .nil (.cons (.bin .add (.bin .add (.var 5) (.var 4)) (.lit (.int 1))) .nil)) (.range (.cons (.var 1) .nil)) .nil)) .nop) .nop) (.seq (.ret (.comp [4] (.sl (.var 3) (.cons (.bin .sub (.bin .sub (.bin .sub (.lit (.int 8)) (.var 5)) (.var 4)) (.lit (.int 1))) .nil) .nil) (.range (.cons (.var 1) .nil)) .nil)) .nop)))) .nop) (.seq (.set 6 (.bin .mod (.bin .fdiv (.var 0) (.lit (.int 4))) (.lit (.int 8)))) (.seq (.set 7 (.join "" (.comp [4] (.ix (.var 2) (.bin .mod (.bin .add (.bin .add (.bin .fdiv (.var 0) (.lit (.int 32))) (.bin .mul (.bin .mul (.lit (.int 3)) (.var 4)) (.var 4))) (.var 4)) (.lit (.int 26)))) (.range (.cons (.var 6) .nil)) .nil))) (.seq (.set 8 (.bin .mod (.bin .fdiv (.var 0) (.lit (.int 512))) (.bin .add (.var 6) (.lit (.int 1))))) (.seq (.ret (.comp [4] (.bin .add (.bin .add (.sl (.var 7) .nil (.cons (.var 8) .nil)) (.ix (.var 2) (.bin .mod (.bin .add (.bin .fdiv (.var 0) (.lit (.int 9))) (.bin .mul (.lit (.int 7)) (.var 4))) (.lit (.int 26))))) (.sl (.var 7) (.cons (.var 8) .nil) .nil)) (.range (.cons (.var 1) .nil)) .nil)) .nop))))))
noncomputable def fL_words:Fi:=⟨2,9,Zd,aa⟩
noncomputable def Uv:Sx:=(.seq (.set 3 (.comp [4] (.var 4) (.range (.cons (.blt .len (.cons (.var 0) .nil)) .nil)) (.cons (.cmp .eq (.bin .mod (.bin .fdiv (.var 2) (.bin .shl (.lit (.int 1)) (.var 4))) (.lit (.int 2))) (.lit (.int 1))) .nil))) (.seq (.set 5 (.blt .sum (.cons (.comp [4] (.bin .shl (.ix (.var 0) (.var 4)) (.var 4)) (.seq (.var 3)) .nil) .nil))) (.seq (.set 6 (.blt .sum (.cons (.comp [4,7] (.bin .shl (.var 7) (.var 4)) (.enum (.var 0)) .nil) .nil))) (.seq (.ife (.cmp .eq (.var 1) (.lit (.int 1))) (.seq (.ret (.blt .int (.cons (.cmp .gt (.blt .sum (.cons (.var 0) .nil)) (.bin .mod (.bin .fdiv (.var 2) (.lit (.int 64))) (.blt .len (.cons (.var 0) .nil)))) .nil))) .nop) .nop) (.seq (.ife (.cmp .eq (.var 1) (.lit (.int 2))) (.seq (.set 8 (.bin .mod (.bin .mul (.bin .add (.var 6) (.lit (.int 1))) (.bin .add (.lit (.int 1)) (.bin .mod (.var 2) (.lit (.int 1000003))))) (.lit (.int 2147483629)))) (.seq (.ret (.blt .int (.cons (.cmp .eq (.bin .mod (.bin .fdiv (.var 8) (.lit (.int 32))) (.lit (.int 5))) (.lit (.int 0))) .nil))) .nop)) .nop) (.seq (.ife (.cmp .eq (.var 1) (.lit (.int 3))) (.seq (.set 8 (.bin .mul (.bin .add (.bin .add (.bin .mul (.var 5) (.var 5)) (.bin .mul (.lit (.int 17)) (.var 5))) (.lit (.int 69621))) (.bin .add (.lit (.int 1)) (.bin .mod (.var 2) (.lit (.int 1000003)))))) (.seq (.ret (.bin .mod (.bin .fdiv (.bin .mod (.var 8) (.lit (.int 2147483647))) (.lit (.int 16))) (.lit (.int 2)))) .nop)) .nop) (.seq (.ife (.cmp .eq (.var 1) (.lit (.int 4))) (.seq (.ret (.bin .mod (.bin .add (.blt .sum (.cons (.comp [4] (.ix (.var 0) (.var 4)) (.seq (.var 3)) .nil) .nil)) (.bin .fdiv (.var 2) (.lit (.int 64)))) (.lit (.int 2)))) .nop) .nop) (.seq (.set 8 (.bin .mul (.bin .add (.bin .mul (.var 6) (.var 6)) (.lit (.int 48271))) (.bin .add (.bin .add (.bin .mod (.var 2) (.lit (.int 1000003))) (.var 6)) (.lit (.int 1))))) (.seq (.ret (.bin .mod (.bin .fdiv (.bin .mod (.var 8) (.lit (.int 2147483647))) (.lit (.int 64))) (.lit (.int 2)))) .nop)))))))))
noncomputable def fL_bit:Fi:=⟨3,9,Uv,aa⟩
noncomputable def Qg:Sx:=(.seq (.set 3 (.bin .add (.lit (.int 1)) (.bin .mod (.call "_law_cell" (.cons (.var 0) (.cons (.var 1) .nil))) (.var 2)))) (.seq (.set 4 (.call "_law_words" (.cons (.call "_law_cell" (.cons (.var 0) (.cons (.bin .add (.var 1) (.lit (.int 1))) .nil))) (.cons (.var 3) .nil)))) (.seq (.set 5 (.bin .mod (.bin .fdiv (.call "_law_cell" (.cons (.var 0) (.cons (.var 1) .nil))) (.var 2)) (.lit (.int 5)))) (.seq (.set 6 (.lst .nil)) (.seq (.loop [7] (.range (.cons (.bin .shl (.lit (.int 1)) (.var 3)) .nil)) (.seq (.set 8 (.comp [9] (.bin .mod (.bin .fdiv (.var 7) (.bin .shl (.lit (.int 1)) (.bin .sub (.bin .sub (.var 3) (.var 9)) (.lit (.int 1))))) (.lit (.int 2))) (.range (.cons (.var 3) .nil)) .nil)) (.seq (.app 6 (.call "_law_bit" (.cons (.var 8) (.cons (.var 5) (.cons (.call "_law_cell" (.cons (.var 0) (.cons (.bin .add (.var 1) (.lit (.int 2))) .nil))) .nil))))) .nop))) (.seq (.ret (.tup (.cons (.blt .tuple (.cons (.var 4) .nil)) (.cons (.blt .tuple (.cons (.var 6) .nil)) .nil)))) .nop))))))
noncomputable def fL_question:Fi:=⟨3,10,Qg,aa⟩
noncomputable def V8:Sx:=(.seq (.ife (.isi (.var 1) ["list","tuple"]) (.seq (.ife (.or (.cmp .ne (.isi (.var 0) ["list"]) (.isi (.var 1) ["list"])) (.not (.isi (.var 0) ["list","tuple"]))) (.seq (.ret (.lit (.bl aa))) .nop) .nop) (.seq (.set 2 (.comp [3] (.var 3) (.range (.cons (.blt .min (.cons (.blt .len (.cons (.var 0) .nil)) (.cons (.blt .len (.cons (.var 1) .nil)) .nil))) .nil)) (.cons (.not (.call "_law_same" (.cons (.ix (.var 0) (.var 3)) (.cons (.ix (.var 1) (.var 3)) .nil)))) .nil))) (.seq (.ret (.and (.cmp .eq (.blt .len (.cons (.var 0) .nil)) (.blt .len (.cons (.var 1) .nil))) (.cmp .eq (.var 2) (.lst .nil)))) .nop))) .nop) (.seq (.ife (.isN (.var 1)) (.seq (.ret (.isN (.var 0))) .nop) .nop) (.seq (.ife (.or (.cmp .ne (.isi (.var 0) ["bool"]) (.isi (.var 1) ["bool"])) (.cmp .ne (.isi (.var 0) ["str"]) (.isi (.var 1) ["str"]))) (.seq (.ret (.lit (.bl aa))) .nop) .nop) (.seq (.ret (.and (.isi (.var 0) ["int","str"]) (.cmp .eq (.var 0) (.var 1)))) .nop))))
noncomputable def fL_same:Fi:=⟨2,4,V8,aa⟩
noncomputable def U7:Sx:=(.seq (.set 5 (.lst .nil)) (.seq (.loop [6,7] (.enum (.var 0)) (.seq (.set 8 (.bin .add (.var 7) (.blt .int (.cons (.cmp .ne (.bin .mod (.bin .fdiv (.var 6) (.bin .shl (.lit (.int 1)) (.bin .sub (.bin .sub (.var 2) (.var 3)) (.lit (.int 1))))) (.lit (.int 2))) (.var 4)) .nil)))) (.seq (.app 5 (.ix (.lst (.cons (.var 8) (.cons (.neg (.lit (.int 1))) .nil))) (.blt .int (.cons (.or (.cmp .lt (.var 7) (.lit (.int 0))) (.cmp .gt (.var 8) (.var 1))) .nil)))) .nop))) (.seq (.ret (.blt .tuple (.cons (.var 5) .nil))) .nop)))
noncomputable def Rp:Fi:=⟨5,9,U7,aa⟩
noncomputable def Ms:Sx:=(.seq (.ret (.comp [1,2] (.var 1) (.enum (.var 0)) (.cons (.cmp .ge (.var 2) (.lit (.int 0))) .nil))) .nop)
noncomputable def Dl:Fi:=⟨1,3,Ms,aa⟩
noncomputable def U5:Sx:=(.seq (.set 2 (.blt .len (.cons (.ix (.var 0) (.lit (.int 0))) .nil))) (.seq (.set 3 (.call "_law_left" (.cons (.var 1) .nil))) (.seq (.set 4 (.comp [5] (.ix (.ix (.var 0) (.lit (.int 1))) (.var 5)) (.seq (.var 3)) .nil)) (.seq (.ife (.or (.cmp .notin (.lit (.int 0)) (.var 4)) (.cmp .notin (.lit (.int 1)) (.var 4))) (.seq (.ret (.lst .nil)) .nop) .nop) (.seq (.set 6 (.lst .nil)) (.seq (.loop [7] (.range (.cons (.var 2) .nil)) (.seq (.set 8 (.comp [5] (.bin .mod (.bin .fdiv (.var 5) (.bin .shl (.lit (.int 1)) (.bin .sub (.bin .sub (.var 2) (.var 7)) (.lit (.int 1))))) (.lit (.int 2))) (.seq (.var 3)) .nil)) (.seq (.ife (.and (.cmp .isin (.lit (.int 0)) (.var 8)) (.cmp .isin (.lit (.int 1)) (.var 8))) (.seq (.app 6 (.var 7)) .nop) .nop) .nop))) (.seq (.retV 6) .nop)))))))
noncomputable def Rn:Fi:=⟨2,9,U5,aa⟩
noncomputable def Wn:Sx:=(.seq (.set 4 (.blt .len (.cons (.ix (.var 0) (.lit (.int 0))) .nil))) (.seq (.set 5 (.lst .nil)) (.seq (.loop [6] (.seq (.call "_law_unlike" (.cons (.var 0) (.cons (.var 3) .nil)))) (.seq (.set 7 (.comp [8] (.call "_law_behind" (.cons (.var 3) (.cons (.var 1) (.cons (.var 4) (.cons (.var 6) (.cons (.var 8) .nil)))))) (.seq (.lst (.cons (.lit (.int 0)) (.cons (.lit (.int 1)) .nil)))) .nil)) (.seq (.ife (.or (.not (.din (.ix (.var 7) (.lit (.int 0))) (.var 2))) (.not (.din (.ix (.var 7) (.lit (.int 1))) (.var 2)))) (.seq (.ret (.lit (.bl aa))) .nop) .nop) (.seq (.app 5 (.bin .add (.lit (.int 1)) (.blt .max (.cons (.dget (.var 2) (.ix (.var 7) (.lit (.int 0)))) (.cons (.dget (.var 2) (.ix (.var 7) (.lit (.int 1)))) .nil))))) .nop)))) (.seq (.ret (.call "_law_same" (.cons (.dget (.var 2) (.var 3)) (.cons (.minD (.var 5)) .nil)))) .nop))))
noncomputable def Oq:Fi:=⟨4,9,Wn,aa⟩
noncomputable def U6:Sx:=(.seq (.set 2 (.blt .len (.cons (.ix (.var 0) (.lit (.int 0))) .nil))) (.seq (.set 3 (.bin .mul (.tup (.cons (.lit (.int 0)) .nil)) (.bin .shl (.lit (.int 1)) (.var 2)))) (.seq (.prm (stG (.cmp .gt (.blt .len (.cons (.var 5) .nil)) (.lit (.int 0))) (.seq (.call "_law_unlike" (.cons (.var 0) (.cons (.var 6) .nil)))) (.seq (.lst (.cons (.lit (.int 0)) (.cons (.lit (.int 1)) .nil)))) (.call "_law_behind" (.cons (.var 6) (.cons (.var 1) (.cons (.var 2) (.cons (.var 7) (.cons (.var 8) .nil)))))))) .nop)))
noncomputable def Ro:Fi:=⟨2,10,U6,aa⟩
noncomputable def Vd:Sx:=(.seq (.set 3 (.call "_law_states" (.cons (.var 0) (.cons (.var 1) .nil)))) (.seq (.ife (.or (.not (.isi (.var 2) ["dict"])) (.cmp .ne (.blt .len (.cons (.var 2) .nil)) (.blt .len (.cons (.var 3) .nil)))) (.seq (.ret (.lit (.bl aa))) .nop) .nop) (.seq (.loop [4] (.seq (.var 3)) (.seq (.ife (.or (.not (.din (.var 4) (.var 2))) (.not (.call "_law_right" (.cons (.var 0) (.cons (.var 1) (.cons (.var 2) (.cons (.var 4) .nil))))))) (.seq (.ret (.lit (.bl aa))) .nop) .nop) .nop)) (.seq (.loop [4] (.seq (.var 2)) (.seq (.ife (.or (.not (.isi (.var 4) ["tuple"])) (.not (.call "_law_same" (.cons (.var 4) (.cons (.blt .tuple (.cons (.comp [5] (.var 5) (.seq (.var 4)) .nil) .nil)) .nil))))) (.seq (.ret (.lit (.bl aa))) .nop) .nop) .nop)) (.seq (.ret (.lit (.bl ae))) .nop)))))
noncomputable def Ue:Fi:=⟨3,6,Vd,aa⟩
noncomputable def j3k:Sx:=(.seq (.set 1 (.call "_law_question" (.cons (.var 0) (.cons (.lit (.int 0)) (.cons (.ix (.lst (.cons (.lit (.int 2)) (.cons (.lit (.int 2)) (.cons (.lit (.int 3)) .nil)))) (.bin .mod (.call "_law_cell" (.cons (.var 0) (.cons (.lit (.int 39)) .nil))) (.lit (.int 3)))) .nil))))) (.seq (.set 2 (.blt .len (.cons (.ix (.var 1) (.lit (.int 0))) .nil))) (.seq (.set 3 (.bin .mod (.call "_law_cell" (.cons (.var 0) (.cons (.lit (.int 3)) .nil))) (.ix (.lst (.cons (.lit (.int 3)) (.cons (.lit (.int 3)) (.cons (.lit (.int 3)) (.cons (.lit (.int 2)) .nil))))) (.var 2)))) (.seq (.prm (hlG (.call "lie_table" (.cons (.var 1) (.cons (.var 3) .nil))) (.not (.call "_law_is_table" (.cons (.var 1) (.cons (.var 3) (.cons (.var 4) .nil))))))) (.seq (.set 6 (.ix (.lst (.cons (.lit (.int 3)) (.cons (.lit (.int 3)) (.cons (.lit (.int 3)) (.cons (.lit (.int 2)) .nil))))) (.var 2))) (.seq (.set 7 (.bin .mod (.bin .add (.bin .add (.var 3) (.lit (.int 1))) (.bin .mod (.call "_law_cell" (.cons (.var 0) (.cons (.lit (.int 5)) .nil))) (.bin .sub (.var 6) (.lit (.int 1))))) (.var 6))) (.seq (.ife (.not (.call "_law_is_table" (.cons (.var 1) (.cons (.var 7) (.cons (.call "lie_table" (.cons (.var 1) (.cons (.var 7) .nil))) .nil))))) (.seq (.ret (.lit (.bl aa))) .nop) .nop) (.seq (.set 8 (.bin .shl (.lit (.int 1)) (.bin .mod (.call "_law_cell" (.cons (.var 0) (.cons (.lit (.int 4)) .nil))) (.var 2)))) (.seq (.set 9 (.tup (.cons (.ix (.var 1) (.lit (.int 0))) (.cons (.blt .tuple (.cons (.comp [10] (.ix (.ix (.var 1) (.lit (.int 1))) (.bin .bxor (.var 10) (.var 8))) (.range (.cons (.bin .shl (.lit (.int 1)) (.var 2)) .nil)) .nil) .nil)) .nil)))) (.seq (.ife (.not (.call "_law_is_table" (.cons (.var 9) (.cons (.var 3) (.cons (.call "lie_table" (.cons (.var 9) (.cons (.var 3) .nil))) .nil))))) (.seq (.ret (.lit (.bl aa))) .nop) .nop) (.seq (.prm (eqG (.call "lie_table" (.cons (.var 1) (.cons (.var 3) .nil))) (.var 5))) .nop)))))))))))
noncomputable def j39:Fi:=⟨1,11,j3k,aa⟩
noncomputable def tbl:List (ar×Fi):=("rows_of",Wd)::("row_number",Vq)::("refuse_wrong_size",Q8)::("all_choices",fP_all_choices)::("number_of",Yl)::("answer_to",Yn)::("spot_of",j38)::("count_of_rows",Zb)::("lie_table",Ym)::("state_told",Vp)::("state_behind",Zq)::("with_another_lie",Qh)::("rows_of_state",Za)::("is_settled",Vr)::("#number_filled_in",Qi)::("#best_ask",Ud)::("#greatest_behind",Qq)::("spots_unlike",Zr)::("refuse_wrong_lies",Q9)::("_law_cell",fL_cell)::("_law_words",fL_words)::("_law_bit",fL_bit)::("_law_question",fL_question)::("_law_same",fL_same)::("_law_behind",Rp)::("_law_left",Dl)::("_law_unlike",Rn)::("_law_right",Oq)::("_law_states",Ro)::("_law_is_table",Ue)::("law",j39)::[]
noncomputable def T(x:ar):Option Fi:=tbl.lookup x
noncomputable def gs:List (ar×D):=[("FEWEST_PLACES",.int 1),("MOST_PLACES",.int 6),("ANSWERS",.tup [.int 0,.int 1]),("FEWEST_LIES",.int 0),("MOST_LIES",.int 2),("MOST_PLACES_WITH_LIES",.int 3),("GONE",.int (-1))]
noncomputable def xs:List (ar×List D):=[]
noncomputable def qs:List ar:=["state_behind","rows_of_state","number_filled_in"]
noncomputable abbrev G:ar->Option D:=Gof gs aa xs qs
end
end K46
end
section
open PySem PySem.Spec PyProof.Rows L2
local macro_rules | `(tactic| walk_at "vis")=>`(tactic| first | exact Or.inl rfl | exact Or.inr (Or.inl rfl) | exact Or.inr (Or.inr rfl))
local macro_rules | `(tactic| walk_at "loc")=>`(tactic| first | exact Or.inl rfl | exact Or.inr rfl)
local macro_rules | `(tactic| walk_at "nm")=>`(tactic| repeat (first | exact rfl | refine ⟨_,_,rfl,by decide,by decide,by rfl,by decide,by rfl,?_⟩))
local macro_rules | `(tactic| walk_at "cap")=>`(tactic| repeat (first | exact rfl | refine ⟨_,_,rfl,by rfl,by rfl,by rfl,by rfl,?_⟩))
local macro_rules | `(tactic| walk_at "ts")=>`(tactic| first
 |exact Tr.int|exact Tr.bl|exact Tr.str
 |exact Tr.var (by rfl) (by walk_at "vis") (by decide) (by decide)|exact Tr.glob (by rfl) (by decide) (by decide)
 |refine Tr.bin ?_ ?_|refine Tr.neg ?_|refine Tr.cmp (by rfl) ?_ ?_|refine Tr.bcmp (by rfl) ?_ ?_|refine Tr.isN ?_|refine Tr.bisN ?_|refine Tr.isNN ?_|refine Tr.bisNN ?_
 |refine Tr.and ?_ ?_|refine Tr.or ?_ ?_|refine Tr.one ?_|refine Tr.not ?_
 |refine Tr.wand ?_ ?_|refine Tr.wor ?_ ?_|refine Tr.wand1 ?_|refine Tr.wor1 ?_|refine Tr.bw ?_|refine Tr.bnot ?_
 |refine Tr.ite ?_ ?_ ?_|exact Tr.nil|refine Tr.cons (by rfl) ?_ ?_|refine Tr.tup ?_|refine Tr.lst ?_
 |refine Tr.ix (by intro _ _;rfl) ?_ ?_|exact Tr.oN|refine Tr.oS ?_|refine Tr.sl ?_ ?_ ?_
 |refine Tr.minD (by rfl) (by rfl) (by rfl) ?_
 |refine Tr.max (by rfl) (by rfl) ?_|refine Tr.max1 (by rfl) (by rfl) ?_
 |refine Tr.call (by rfl) (by decide) (by rfl) (by rfl) ?_
 |refine Tr.dget (by intro _ _;rfl) ?_ ?_
 |refine Tr.tix (by rfl) (by rfl) (by rfl) (by rfl) ?_ ?_|refine Tr.dnin (by rfl) ?_ ?_|refine Tr.bdnin (by rfl) ?_ ?_|refine Tr.lset (by rfl) (by rfl) (by rfl) (by rfl) (by rfl) ?_|refine Tr.len (by rfl) ?_|refine Tr.any (by rfl) (by rfl) ?_|refine Tr.din (by rfl) ?_ ?_|refine Tr.tuple (by rfl) ?_|refine Tr.min (by rfl) (by rfl) ?_
 |refine Tr.sum (by rfl) (by rfl) ?_|refine Tr.intc (by rfl) ?_|refine Tr.join (by rfl) (by rfl) (by rfl) (by rfl) ?_|refine Tr.lset (by rfl) (by rfl) (by rfl) (by rfl) (by rfl) ?_|refine Tr.enum (by rfl) (by rfl) ?_
 |refine Tr.isi1 (by decide) (by decide +kernel) (by rfl) (by rfl) (by decide) (by decide) (by rfl) ?_
 |refine Tr.isi2 (by decide) (by decide) (by decide +kernel) (by decide +kernel) (by rfl) (by rfl) (by rfl) (by decide) (by decide) (by decide) (by decide) (by rfl) ?_
 |exact Tr.c0|refine Tr.c1 ?_
 |refine Tr.comp1 (by rfl) (by rfl) (by rfl) (by rfl) (by rfl) (by intro _;rfl) ?_ ?_ ?_
 |refine Tr.comp2 (by rfl) (by decide) (by rfl) (by rfl) (by rfl) (by rfl) (by rfl) (by rfl) (by intro _;rfl) ?_ ?_ ?_
 |refine Tr.seq ?_|refine Tr.range (by rfl) ?_|refine Tr.zip (by rfl) (by rfl) (by rfl) ?_ ?_
 |refine Tr.bval (by intro _;rfl) ?_
 |refine Ts.lmk (by rfl) (by walk_at "loc") (by exact aV rfl) (by decide) (by decide) (by rfl) (by decide) (by rfl) (by rfl) (by rfl) (by rfl) ?_
 |refine' Ts.lend (by rfl) (by decide) (by rfl) (by rfl) (by walk_at "loc") (by walk_at "loc") (by exact aV rfl) (by exact aV rfl) (by intro _;rfl) (by rfl) (by rfl) (by rfl) (by walk_at "vis") (by decide) (by decide) (by rfl) (by rfl) ?_ ?_|refine' Ts.lent (by rfl) (by walk_at "loc") (by walk_at "vis") (by exact aV rfl) (by decide) (by decide) (by rfl) (by rfl) (by rfl) ?_ ?_ ?_ ?_ ?_|refine TMt.set (by rfl) (by walk_at "loc") (by rfl) (by exact aV rfl) ?_ ?_|refine TMt.ife ?_ ?_ ?_ ?_|exact TMt.nil|exact TMs.nil|exact TMs.fail|refine TMs.set (by rfl) (by walk_at "loc") (by rfl) (by exact aV rfl) ?_ ?_|refine TMs.ife ?_ ?_ ?_ ?_|exact⟨rfl,rfl,rfl,λ_ _=>rfl⟩
 |exact Ts.nil|refine Ts.fgt ?_|refine Ts.keep ?_|refine Ts.clrs (by rfl) (by rfl) (by decide) (by rfl) (by rfl) (by rfl) (by rfl) (by walk_at "loc") (by walk_at "loc") (by exact aV rfl) (by exact aV rfl) (by decide) (by decide) (by decide) (by decide) (by rfl) (by intro _;rfl) (by rfl) (by rfl) (by rfl) ?_ ?_ ?_
 |refine Ts.smk (by rfl) (by rfl) (by walk_at "loc") (by exact aV rfl) (by decide) (by decide) (by decide) (by rfl) (by rfl) (by walk_at "loc") (by walk_at "loc") (by exact aV rfl) (by exact aV rfl) (by rfl) (by rfl) (by intro _;rfl) ?_ ?_ ?_ ?_
 |refine Ts.turn (by rfl) (by rfl) (by walk_at "loc") (by exact aV rfl) (by decide) (by decide) (by rfl) (by intro _;rfl) (by rfl) (by walk_at "vis") (by decide) (by decide) (by rfl) (by rfl) (by rfl) (by rfl) (by rfl) ?_ ?_ ?_ ?_ ?_
 |refine Ts.cons ?_ ?_|exact Ts.pass|exact Ts.doc|exact Ts.fail
 |exact Ts.mov (by rfl) (by rfl) (by walk_at "loc") (by exact aV rfl) (by walk_at "vis") (by decide) (by decide)
 |refine Ts.setC1 (by rfl) (by rfl) (by walk_at "loc") (by exact aV rfl) (by rfl) (by rfl) (by rfl) (by rfl) (by rfl) (by intro _;rfl) ?_ ?_ ?_
 |refine Ts.setC2 (by rfl) (by rfl) (by walk_at "loc") (by exact aV rfl) (by rfl) (by decide) (by rfl) (by rfl) (by rfl) (by rfl) (by rfl) (by rfl) (by intro _;rfl) ?_ ?_ ?_
 |refine Ts.set (by rfl) (by walk_at "loc") (by rfl) (by exact aV rfl) ?_
 |exact Ts.retV (by rfl) (by walk_at "vis") (by decide) (by decide)|refine Ts.ret ?_
 |refine Ts.ife ?_ ?_ ?_|refine Ts.for1 (by rfl) (by rfl) (by walk_at "loc") (by exact aV rfl) (by intro _;rfl) ?_ ?_
 |refine Ts.for2 (by rfl) (by decide) (by rfl) (by rfl) (by walk_at "loc") (by walk_at "loc") (by exact aV rfl) (by exact aV rfl) (by intro _;rfl) ?_ ?_
 |refine Ts.app (by rfl) (by walk_at "vis") (by decide) (by decide) (by rfl) (by rfl) (by rfl) (by rfl) ?_
 |refine Ts.ext (by rfl) (by walk_at "vis") (by decide) (by decide) (by rfl) (by rfl) (by rfl) (by rfl) ?_
 |refine Ts.expr (by rfl) ?_
 |refine MD.fill (by rfl) (by rfl) (by rfl) (by walk_at "vis") (by walk_at "vis") (by walk_at "loc") (by exact aV rfl) (by decide) (by decide) (by decide) (by decide) (by decide) (by decide) (by with_unfolding_all rfl) (by rfl) (by rfl) (by intro _ _;rfl) (by intro _ _;rfl) (by rfl) (by decide) (by rfl) (by rfl) ?_ ?_ ?_
 |refine MD.minc ?_ ⟨by rfl,by rfl,by walk_at "vis",by decide,by decide,by rfl,by rfl,by rfl,by rfl,by intro _;rfl,by rfl,by decide,by decide,by decide,by intro _ _ _ _ _;walk_at "vis",by intro _ _ _ _ _;rfl,by intro _ _ _ _ _;rfl,by intro _ _ _ _ _;rfl,?_⟩ (by rfl) (by rfl) (by intro _ _ _ _ _;rfl) (by intro _ _ _ _ _;rfl) ?_
 |refine MD.maxc ?_ ⟨by rfl,by rfl,by walk_at "vis",by decide,by decide,by rfl,by rfl,by rfl,by rfl,by intro _;rfl,by rfl,by decide,by decide,by decide,by intro _ _ _ _ _;walk_at "vis",by intro _ _ _ _ _;rfl,by intro _ _ _ _ _;rfl,by intro _ _ _ _ _;rfl,?_⟩ (by rfl) (by rfl)
 |refine SetT.cmp (by rfl) (by rfl) (by walk_at "loc") (by exact aV rfl) (by rfl) (by rfl) (by rfl) (by rfl) (by rfl) (by intro _;rfl) ?_ ?_ ?_
 |refine SetT.e (by rfl) (by walk_at "loc") (by rfl) (by exact aV rfl) ?_
 |exact MP.nop|refine MP.keep (by decide) ?_
 |refine MP.setC (by decide) (by rfl) (by rfl) (by walk_at "loc") (by exact aV rfl) (by rfl) (by rfl) (by rfl) (by rfl) (by rfl) (by intro _;rfl) ?_ ?_ ?_ ?_
 |refine MP.set (by decide) (by rfl) (by walk_at "loc") (by rfl) (by exact aV rfl) ?_ ?_
 |refine MP.ret ?_|refine MP.ifRet ?_ ?_ ?_
 |refine MP.ifAll (by rfl) (by rfl) (by decide) (by rfl) (by rfl) (by walk_at "vis") (by decide) (by decide) (by exact⟨_,rfl⟩) (by intro _;rfl) ?_ ?_
 |refine MP.ifRai (by rfl) (by rfl) (by decide) (by rfl) ?_ ?_ ?_
 |refine MP.takeIf (by decide) (by rfl) (by walk_at "vis") (by decide) (by decide) (by exact⟨_,rfl⟩) (by rfl) (by walk_at "loc") (by rfl) (by exact aV rfl) ?_ ?_ ?_
 |refine MP.take (by decide) (by rfl) (by walk_at "vis") (by decide) (by decide) (by exact⟨_,rfl⟩) (by rfl) (by walk_at "loc") (by rfl) (by exact aV rfl) ?_
 |refine MP.takeE (by rfl) (by walk_at "vis") (by decide) (by decide) (by exact⟨_,rfl⟩) (by rfl) ?_
 |refine MP.callS (by decide) (by exact⟨_,_,_,_,rfl,by rfl,by walk_at "vis",by decide,by decide,by rfl,by decide,by rfl,by rfl⟩) (by rfl) (by walk_at "loc") (by rfl) (by exact aV rfl) ?_ ?_
 |refine MP.ifCal (by exact⟨_,_,_,_,rfl,by rfl,by walk_at "vis",by decide,by decide,by rfl,by decide,by rfl,by rfl⟩) ?_ ?_ ?_
 |refine MP.appC (by decide) (by exact⟨_,_,_,_,rfl,by rfl,by walk_at "vis",by decide,by decide,by rfl,by decide,by rfl,by rfl⟩) (by rfl) (by walk_at "vis") (by decide) (by decide) (by rfl) (by rfl) (by rfl) (by rfl) (by rfl) ?_ ?_
 |refine MP.whlA (by rfl) (by walk_at "vis") (by decide) (by decide) (by exact⟨_,rfl⟩) ?_ ?_
 |intro C s H fp pn xe
 |intro C s H fp pn
 |intro pn xe)
local macro_rules | `(tactic| walk_at "bnd")=>`(tactic| (intro _ _ _ _ _ _ us hl; first | (obtain ⟨_,e⟩:=us1 hl; subst e; rfl) | (obtain ⟨_,_,e⟩:=us2 hl; subst e; rfl) | (obtain ⟨_,_,_,e⟩:=us3 hl; subst e; rfl) | (obtain ⟨_,_,_,_,e⟩:=us4 hl; subst e; rfl) | (obtain ⟨_,_,_,_,_,e⟩:=us5 hl; subst e; rfl)))
local macro_rules | `(tactic| walk_at "sc")=>`(tactic| exact ⟨rfl,rfl,rfl,by decide +kernel,rfl,by decide +kernel,by decide +kernel⟩)
local macro_rules | `(tactic| walk_at "lk")=>`(tactic| first | walk_at "sc" | walk_at "bnd" | decide)
namespace K46
section
variable{P:az}{w:aE}{K:k8v}{mg:k8y}{base:aH}
local macro_rules | `(tactic| walk_at "ts")=>`(tactic| first | refine Ts.states (by rfl) ⟨by rfl,by walk_at "loc",by walk_at "vis",by exact Or.inl rfl,by decide,by decide⟩ ⟨by rfl,by walk_at "loc",by walk_at "vis",by exact Or.inl rfl,by decide,by decide⟩ ⟨by rfl,by walk_at "loc",by walk_at "vis",by exact Or.inl rfl,by decide,by decide⟩ ⟨by rfl,by walk_at "loc",by walk_at "vis",by exact Or.inl rfl,by decide,by decide⟩ ⟨by rfl,by walk_at "loc",by walk_at "vis",by exact Or.inl rfl,by decide,by decide⟩ ⟨by rfl,by walk_at "loc",by walk_at "vis",by exact Or.inl rfl,by decide,by decide⟩ ⟨by rfl,by walk_at "loc",by walk_at "vis",by exact Or.inl rfl,by decide,by decide⟩ ?_ ?_ ?_ ?_ (by rfl) (by rfl) (by rfl) (by rfl) (by rfl) (by rfl) (by rfl) (by intro _; rfl) (by intro _; rfl) (by rfl) (by with_unfolding_all rfl) (by rfl) (by rfl) (by rfl) (by rfl) (by rfl) (by rfl) | refine Ts.held ⟨by rfl,by walk_at "loc",by walk_at "vis",by exact Or.inl rfl,by decide,by decide⟩ ⟨by rfl,by walk_at "loc",by walk_at "vis",by exact Or.inl rfl,by decide,by decide⟩ (by rfl) ?_ ?_ (by rfl) (by rfl) (by rfl) (by rfl) (by rfl) (by rfl) ?_ | refine Ts.eqd ?_ ?_)
def j0v:TrT P w K mg base "rows_of" ["many"] (top 8) Vz:=by
 intro f cdv A outer s H E xe;unfold Vz
 repeat' (walk_at "ts")
def Nv:TrT P w K mg base "row_number" ["row"] (top 9) Z6:=by
 intro f cdv A outer s H E xe;unfold Z6
 repeat' (walk_at "ts")
def Uk:TrT P w K mg base "refuse_wrong_size" ["many"] (top 10) J3:=by
 intro f cdv A outer s H E xe;unfold J3
 repeat' (walk_at "ts")
def Bc:TrT P w K mg base "all_choices" ["figures_by_spot","chosen","figures","longer","ahead","figure"] (top 11) J9:=by
 intro f cdv A outer s H E xe;unfold J9
 repeat' (walk_at "ts")
def Lz:TrT P w K mg base "number_of" ["figures","base","number","figure"] (top 12) Zw:=by
 intro f cdv A outer s H E xe;unfold Zw
 repeat' (walk_at "ts")
def K3:TrT P w K mg base "answer_to" ["question","row"] (top 14) Zy:=by
 intro f cdv A outer s H E xe;unfold Zy
 repeat' (walk_at "ts")
def j0u:TrT P w K mg base "spot_of" ["question","place"] (top 15) Wm:=by
 intro f cdv A outer s H E xe;unfold Wm
 repeat' (walk_at "ts")
def Mw:TrT P w K mg base "count_of_rows" ["many"] (top 16) Qf:=by
 intro f cdv A outer s H E xe;unfold Qf
 repeat' (walk_at "ts")
def K1:TrT P w K mg base "lie_table" ["question","lies","numbers"] (top 22) Zx:=by
 intro f cdv A outer s H E xe;unfold Zx
 repeat' (walk_at "ts")
def Nu:TrT P w K mg base "state_told" ["question","lies","told","state","place","answer"] (top 23) Z5:=by
 intro f cdv A outer s H E xe;unfold Z5
 repeat' (walk_at "ts")
def O7:TrT P w K mg base "state_behind" ["state","spot","answer","question","lies","rows","row","number"] (top 24) Qm:=by
 intro f cdv A outer s H E xe;unfold Qm
 repeat' (walk_at "ts")
def Uw:TrT P w K mg base "with_another_lie" ["number","lies"] (top 25) Jd:=by
 intro f cdv A outer s H E xe;unfold Jd
 repeat' (walk_at "ts")
def Mv:TrT P w K mg base "rows_of_state" ["state","question","row","number"] (top 26) Qe:=by
 intro f cdv A outer s H E xe;unfold Qe
 repeat' (walk_at "ts")
def Nx:TrT P w K mg base "is_settled" ["state","question","answers","row"] (top 27) Z7:=by
 intro f cdv A outer s H E xe;unfold Z7
 repeat' (walk_at "ts")
noncomputable def V0:Dx:=(.fill 1 4 (.call "is_settled" (.cons (.var 1) (.cons (.var 2) .nil))) "best_ask" (.cons (.var 1) (.cons (.var 2) (.cons (.var 3) .nil))))
def Ux:TrD P w K mg base "number_filled_in" ["numbers","state","question","lies","settled"] (top 28) V0:=by
 intro f cdv A outer s H E xe;unfold V0
 repeat' (walk_at "ts")
noncomputable def Mz:Dx:=(.minc 4 5 (.call "spots_unlike" (.cons (.call "rows_of_state" (.cons (.var 1) (.cons (.var 2) .nil))) .nil)) "greatest_behind" (.cons (.var 1) (.cons (.var 5) (.cons (.var 2) (.cons (.var 3) .nil)))))
def Ks:TrD P w K mg base "best_ask" ["numbers","state","question","lies","spots","spot"] (top 29) Mz:=by
 intro f cdv A outer s H E xe;unfold Mz
 repeat' (walk_at "ts")
noncomputable def Vg:Dx:=(.maxc 5 7 (.comp [6] (.call "state_behind" (.cons (.var 1) (.cons (.var 2) (.cons (.var 6) (.cons (.var 3) (.cons (.var 4) .nil)))))) (.seq (.glob "ANSWERS")) .nil) "number_filled_in" (.cons (.var 7) (.cons (.var 3) (.cons (.var 4) .nil))))
def Wt:TrD P w K mg base "greatest_behind" ["numbers","state","spot","question","lies","states","answer","behind"] (top 30) Vg:=by
 intro f cdv A outer s H E xe;unfold Vg
 repeat' (walk_at "ts")
def O8:TrT P w K mg base "spots_unlike" ["rows","spot","number","row"] (top 31) Qn:=by
 intro f cdv A outer s H E xe;unfold Qn
 repeat' (walk_at "ts")
def Ul:TrT P w K mg base "refuse_wrong_lies" ["question","lies"] (top 32) J4:=by
 intro f cdv A outer s H E xe;unfold J4
 repeat' (walk_at "ts")
def j6i:TrT P w K mg base "_law_cell" ["_law_script","_law_k","_law_spare"] (top 34) Yb:=by
 intro f cdv A outer s H E xe;unfold Yb
 repeat' (walk_at "ts")
def j41:TrT P w K mg base "_law_words" ["_law_cell_here","_law_many","_law_letters","_law_long","_law_k","_law_start","_law_size","_law_stem","_law_at"] (top 35) Zd:=by
 intro f cdv A outer s H E xe;unfold Zd
 repeat' (walk_at "ts")
def jae:TrT P w K mg base "_law_bit" ["_law_row","_law_kind","_law_cell_here","_law_some","_law_k","_law_kept","_law_by_row","_law_one","_law_mixed"] (top 36) Uv:=by
 intro f cdv A outer s H E xe;unfold Uv
 repeat' (walk_at "ts")
def Ku:TrT P w K mg base "_law_question" ["_law_script","_law_at","_law_most","_law_many","_law_places","_law_kind","_law_answers","_law_number","_law_row","_law_k"] (top 37) Qg:=by
 intro f cdv A outer s H E xe;unfold Qg
 repeat' (walk_at "ts")
def j6g:TrT P w K mg base "_law_same" ["_law_found","_law_due","_law_unlike_here","_law_k"] (top 38) V8:=by
 intro f cdv A outer s H E xe;unfold V8
 repeat' (walk_at "ts")
def j2g:TrT P w K mg base "_law_behind" ["_law_state","_law_lies","_law_many","_law_spot","_law_answer","_law_found","_law_number","_law_count","_law_more"] (top 39) U7:=by
 intro f cdv A outer s H E xe;unfold U7
 repeat' (walk_at "ts")
def j6h:TrT P w K mg base "_law_left" ["_law_state","_law_number","_law_count"] (top 40) Ms:=by
 intro f cdv A outer s H E xe;unfold Ms
 repeat' (walk_at "ts")
def j2e:TrT P w K mg base "_law_unlike" ["_law_question_here","_law_state","_law_many","_law_left_here","_law_answers","_law_number","_law_found","_law_spot","_law_bits"] (top 41) U5:=by
 intro f cdv A outer s H E xe;unfold U5
 repeat' (walk_at "ts")
def j42:TrT P w K mg base "_law_right" ["_law_question_here","_law_lies","_law_table","_law_state","_law_many","_law_some","_law_spot","_law_behind_here","_law_answer"] (top 42) Wn:=by
 intro f cdv A outer s H E xe;unfold Wn
 repeat' (walk_at "ts")
def j2f:TrT P w K mg base "_law_states" ["_law_question_here","_law_lies","_law_many","_law_start","_law_met","_law_waiting","_law_state","_law_spot","_law_answer","_law_behind_here"] (top 43) U6:=by
 intro f cdv A outer s H E xe;unfold U6
 repeat' (walk_at "ts")
def Kv:TrT P w K mg base "_law_is_table" ["_law_question_here","_law_lies","_law_table","_law_states_here","_law_state","_law_count"] (top 44) Vd:=by
 intro f cdv A outer s H E xe;unfold Vd
 repeat' (walk_at "ts")
def j99:TrT P w K mg base "law" ["_law_script","_law_question_here","_law_many","_law_lies","_law_table","_law_held","_law_top","_law_other","_law_bit_here","_law_turned","_law_number"] (top 45) j3k:=by
 intro f cdv A outer s H E xe;unfold j3k
 repeat' (walk_at "ts")
end
set_option maxHeartbeats 0 in
def head {l:eA} {w:aE} {K:k8v} {h:aH} {mg:k8y} {fa:ai} (X:K.In h) (Gn:h.Ns aB mg) (hfa:mg "law" = a8 (.ref fa))
  (h0:Lf K "rows_of" (top 8))
  (h1:Lf K "row_number" (top 9))
  (h2:Lf K "refuse_wrong_size" (top 10))
  (h3:Lf K "all_choices" (top 11))
  (h4:Lf K "number_of" (top 12))
  (h5:Lf K "answer_to" (top 14))
  (h6:Lf K "spot_of" (top 15))
  (h7:Lf K "count_of_rows" (top 16))
  (h8:Lf K "lie_table" (top 22))
  (h9:Lf K "state_told" (top 23))
  (h10:Lf K "state_behind" (top 24))
  (h11:Lf K "with_another_lie" (top 25))
  (h12:Lf K "rows_of_state" (top 26))
  (h13:Lf K "is_settled" (top 27))
  (h14:Lf K "number_filled_in" (top 28))
  (h15:Lf K "best_ask" (top 29))
  (h16:Lf K "greatest_behind" (top 30))
  (h17:Lf K "spots_unlike" (top 31))
  (h18:Lf K "refuse_wrong_lies" (top 32))
  (h19:Lf K "_law_cell" (top 34))
  (h20:Lf K "_law_words" (top 35))
  (h21:Lf K "_law_bit" (top 36))
  (h22:Lf K "_law_question" (top 37))
  (h23:Lf K "_law_same" (top 38))
  (h24:Lf K "_law_behind" (top 39))
  (h25:Lf K "_law_left" (top 40))
  (h26:Lf K "_law_unlike" (top 41))
  (h27:Lf K "_law_right" (top 42))
  (h28:Lf K "_law_states" (top 43))
  (h29:Lf K "_law_is_table" (top 44))
  (h30:Lf K "law" (top 45))
  (bz:bOk K=ae) {ts:List ai} (tz:tOk K ts=ae)
  {gt0:iR} {gt1:iR} {gt3:iR} {gt4:iR} {ga2:ai} {ga2n:Nat} {ga2s:Array (Option aj)} {gt5:iR} {gt6:iR} {gt7:iR} {gt8:iR}
  (gn0:cP K aB "FEWEST_PLACES" = a8 (a8 (.int 1 gt0))) (gn1:cP K aB "MOST_PLACES" = a8 (a8 (.int 6 gt1))) (ga2l:K.lookup ga2=a8 ⟨.type "tuple",af,.seq #[.int 0 gt3,.int 1 gt4] ga2n,ga2s⟩) (gn2:cP K aB "ANSWERS" = a8 (a8 (.ref ga2))) (gn3:cP K aB "FEWEST_LIES" = a8 (a8 (.int 0 gt5))) (gn4:cP K aB "MOST_LIES" = a8 (a8 (.int 2 gt6))) (gn5:cP K aB "MOST_PLACES_WITH_LIES" = a8 (a8 (.int 3 gt7))) (gn6:cP K aB "GONE" = a8 (a8 (.int (-1) gt8)))
  (exa:Kl K=ae)
  {fu n:Nat} (hlaw:∀ns:zo,ns.length<=63->evP fu G T (n+1) "law" [.lst (ns.map D.int)]=.val (.bl ae)) :
  ∃fd:aM,(∀(s:aq)(v:aj),ip s fd ⟨[v],[]⟩ [("_law_script",v)])/\∀base:aH,K.In base->base.Ns aB mg->FnOk l.prog w K mg base CX0 (lv (n+1)) fa fd ["_law_script"] (Ke K):=by
 have hL:=h30;obtain⟨f,oc,od,kV,dc,pm,an,cd,ct,sl,a,lk,c,k⟩:=hL;have e:=hfa.symm.trans (su X Gn a);cases e;refine⟨PySem.W.fnOf "law" "law" (J8 (top 45)) (jz (top 45)) (j9 (top 45)) .none kV dc pm an cd ct,λs v=>.of_eq rfl,λbase hKb hNb=>?_⟩;have hT:∀x F,T x=a8 F->LkF l.prog w K mg base x F:=λx F hx=>by
  have all:∀p∈tbl,LkF l.prog w K mg base p.1 p.2:=by
   intro p hp;simp only[tbl,xq,gX,or_false]at hp;rcases hp with rfl|rfl|rfl|rfl|rfl|rfl|rfl|rfl|rfl|rfl|rfl|rfl|rfl|rfl|rfl|rfl|rfl|rfl|rfl|rfl|rfl|rfl|rfl|rfl|rfl|rfl|rfl|rfl|rfl|rfl|rfl
   .refine lkF (qy h0 X Gn j0v ["many"] ?_ rfl rfl ?_ ?_) rfl ?_ ?_<;>walk_at "lk"
   .refine lkF (qy h1 X Gn Nv ["row"] ?_ rfl rfl ?_ ?_) rfl ?_ ?_<;>walk_at "lk"
   .refine lkF (qy h2 X Gn Uk ["many"] ?_ rfl rfl ?_ ?_) rfl ?_ ?_<;>walk_at "lk"
   .refine lkF (qy h3 X Gn Bc ["figures_by_spot"] ?_ rfl rfl ?_ ?_) rfl ?_ ?_<;>walk_at "lk"
   .refine lkF (qy h4 X Gn Lz ["figures","base"] ?_ rfl rfl ?_ ?_) rfl ?_ ?_<;>walk_at "lk"
   .refine lkF (qy h5 X Gn K3 ["question","row"] ?_ rfl rfl ?_ ?_) rfl ?_ ?_<;>walk_at "lk"
   .refine lkF (qy h6 X Gn j0u ["question","place"] ?_ rfl rfl ?_ ?_) rfl ?_ ?_<;>walk_at "lk"
   .refine lkF (qy h7 X Gn Mw ["many"] ?_ rfl rfl ?_ ?_) rfl ?_ ?_<;>walk_at "lk"
   .refine lkF (qy h8 X Gn K1 ["question","lies"] ?_ rfl rfl ?_ ?_) rfl ?_ ?_<;>walk_at "lk"
   .refine lkF (qy h9 X Gn Nu ["question","lies","told"] ?_ rfl rfl ?_ ?_) rfl ?_ ?_<;>walk_at "lk"
   .refine lkF (qy h10 X Gn O7 ["state","spot","answer","question","lies"] ?_ rfl rfl ?_ ?_) rfl ?_ ?_<;>walk_at "lk"
   .refine lkF (qy h11 X Gn Uw ["number","lies"] ?_ rfl rfl ?_ ?_) rfl ?_ ?_<;>walk_at "lk"
   .refine lkF (qy h12 X Gn Mv ["state","question"] ?_ rfl rfl ?_ ?_) rfl ?_ ?_<;>walk_at "lk"
   .refine lkF (qy h13 X Gn Nx ["state","question"] ?_ rfl rfl ?_ ?_) rfl ?_ ?_<;>walk_at "lk"
   .exact Es (g:="number_filled_in") (by decide +kernel) h14 X Gn Ux ["numbers","state","question","lies"] (by walk_at "sc") rfl rfl rfl rfl (by decide) (by decide) (by walk_at "bnd")
   .exact Es (g:="best_ask") (by decide +kernel) h15 X Gn Ks ["numbers","state","question","lies"] (by walk_at "sc") rfl rfl rfl rfl (by decide) (by decide) (by walk_at "bnd")
   .exact Es (g:="greatest_behind") (by decide +kernel) h16 X Gn Wt ["numbers","state","spot","question","lies"] (by walk_at "sc") rfl rfl rfl rfl (by decide) (by decide) (by walk_at "bnd")
   .refine lkF (qy h17 X Gn O8 ["rows"] ?_ rfl rfl ?_ ?_) rfl ?_ ?_<;>walk_at "lk"
   .refine lkF (qy h18 X Gn Ul ["question","lies"] ?_ rfl rfl ?_ ?_) rfl ?_ ?_<;>walk_at "lk"
   .refine lkF (qy h19 X Gn j6i ["_law_script","_law_k"] ?_ rfl rfl ?_ ?_) rfl ?_ ?_<;>walk_at "lk"
   .refine lkF (qy h20 X Gn j41 ["_law_cell_here","_law_many"] ?_ rfl rfl ?_ ?_) rfl ?_ ?_<;>walk_at "lk"
   .refine lkF (qy h21 X Gn jae ["_law_row","_law_kind","_law_cell_here"] ?_ rfl rfl ?_ ?_) rfl ?_ ?_<;>walk_at "lk"
   .refine lkF (qy h22 X Gn Ku ["_law_script","_law_at","_law_most"] ?_ rfl rfl ?_ ?_) rfl ?_ ?_<;>walk_at "lk"
   .refine lkF (qy h23 X Gn j6g ["_law_found","_law_due"] ?_ rfl rfl ?_ ?_) rfl ?_ ?_<;>walk_at "lk"
   .refine lkF (qy h24 X Gn j2g ["_law_state","_law_lies","_law_many","_law_spot","_law_answer"] ?_ rfl rfl ?_ ?_) rfl ?_ ?_<;>walk_at "lk"
   .refine lkF (qy h25 X Gn j6h ["_law_state"] ?_ rfl rfl ?_ ?_) rfl ?_ ?_<;>walk_at "lk"
   .refine lkF (qy h26 X Gn j2e ["_law_question_here","_law_state"] ?_ rfl rfl ?_ ?_) rfl ?_ ?_<;>walk_at "lk"
   .refine lkF (qy h27 X Gn j42 ["_law_question_here","_law_lies","_law_table","_law_state"] ?_ rfl rfl ?_ ?_) rfl ?_ ?_<;>walk_at "lk"
   .refine lkF (qy h28 X Gn j2f ["_law_question_here","_law_lies"] ?_ rfl rfl ?_ ?_) rfl ?_ ?_<;>walk_at "lk"
   .refine lkF (qy h29 X Gn Kv ["_law_question_here","_law_lies","_law_table"] ?_ rfl rfl ?_ ?_) rfl ?_ ?_<;>walk_at "lk"
   .refine lkF (qy h30 X Gn j99 ["_law_script"] ?_ rfl rfl ?_ ?_) rfl ?_ ?_<;>walk_at "lk"
  exact all (x,F) (lookup_mem hx)
 have bt:=jjb X Gn bz;have gl:∀x d,gs.lookup x=a8 d->∃u v,mg x=a8 u/\RelV v u/\∀H,Enc K H d v:=by
  intro x d hx;have hm:=lookup_mem hx;simp only[gs,xq,gX,or_false,Prod.mk.injEq]at hm;rcases hm with ⟨e1,e2⟩|⟨e1,e2⟩|⟨e1,e2⟩|⟨e1,e2⟩|⟨e1,e2⟩|⟨e1,e2⟩|⟨e1,e2⟩
  .subst e1 e2;exact⟨.int 1 gt0,.int 1,su X Gn gn0,⟨_,rfl⟩,λ_=>rfl⟩
  .subst e1 e2;exact⟨.int 6 gt1,.int 6,su X Gn gn1,⟨_,rfl⟩,λ_=>rfl⟩
  .subst e1 e2;exact⟨.ref ga2,.ref ga2,su X Gn gn2,rfl,λH=>⟨ga2,[.int 0,.int 1],rfl,.inr ⟨_,_,_,ga2l,rfl,rfl,rfl,(by show 2<=aw;decide),(.cons ⟨_,rfl⟩ (.cons ⟨_,rfl⟩ .nil))⟩,⟨_,_,rfl,rfl,⟨_,_,rfl,rfl,rfl⟩⟩⟩⟩
  .subst e1 e2;exact⟨.int 0 gt5,.int 0,su X Gn gn3,⟨_,rfl⟩,λ_=>rfl⟩
  .subst e1 e2;exact⟨.int 2 gt6,.int 2,su X Gn gn4,⟨_,rfl⟩,λ_=>rfl⟩
  .subst e1 e2;exact⟨.int 3 gt7,.int 3,su X Gn gn5,⟨_,rfl⟩,λ_=>rfl⟩
  .subst e1 e2;exact⟨.int (-1) gt8,.int (-1),su X Gn gn6,⟨_,rfl⟩,λ_=>rfl⟩
 have qn:∀f∈qs,∃fa,mg f=a8 (.ref fa)/\PySem.W.keepIn K (.ref fa)=ae:=by
  intro f hf;simp only[qs,xq,gX,or_false]at hf;rcases hf with rfl|rfl|rfl
  .exact j2r h10 X Gn
  .exact j2r h12 X Gn
  .exact j2r h14 X Gn
 have tb:Tb l.prog w K mg base G:=jhp bt gl exa (λp hp=>nomatch hp) (λz=>by cases z) hKb hNb qn (λp hp=>nomatch hp) (jil tz X Gn);exact jf9 hT tb (F:=j39) (by rfl) rfl hfa (Rm lk c k) _ (by walk_at "sc") rfl rfl (j99 _) hlaw
end K46
end
open PySem (Str sizeLine argBest)
open L2
namespace K46
open KL KW KV
def N5:T "_law_cell" = a8 KL.fL_cell:=by rfl
def j85:T "all_choices" = a8 KL.fP_all_choices:=by rfl
def jfv:T "_law_bit" = a8 KW.fL_bit:=by rfl
def gA:G "ANSWERS" = a8 (.tup [.int 0,.int 1]):=by rfl
theorem Zc{b:Int}:∀{m i:Nat}{z:Int},i<m->(ju b m z)[i]?=a8 (z/b^(m-1-i)%b)
 |m+1,0,z,_=>by rw[ju,List.getElem?_cons_zero];simp
 |m+1,i+1,z,h=>by rw[ju,eO,Zc (by omega)];congr 3;congr 1;omega
def j10 {fu n m:Nat} {z b:Int} (hm:m<=6) (hb:b=2\/b=3) (hz:0<=z/\z<b^m):evP fu G T (n+1) "number_of" [.tup ((ju b m z).map .int),.int b]=.val (.int z):=by
 rw[jx (F:=Yl) (by rfl) rfl];simp only[Yl,Zw,enter];ext;have z0:z/b^m=0:=fh hz.1 hz.2;refine Z8 (λi ρ=>∃s3,ρ=[.val (.tup ((ju b m z).map .int)),.val (.int b),.val (.int (z/b^(m-i))),s3]) ⟨.un,by rw[my,z0]⟩ ?_ ?_
 .rintro i d ρ hi ⟨s3,rfl⟩;obtain⟨v,hv,rfl⟩:=V5 hi;have hlt:i<m:=by have:=(X4.mp hv).1;rw[zx]at this;exact this
  rw[Zc hlt]at hv;cases hv;simp only[Zh];ext;refine⟨_,rfl,?_⟩;have e1:m-i=(m-1-i)+1:=by omega
  have e2:m-(i+1)=m-1-i:=by omega
  have e3:z/b^(m-i)*b+z/b^(m-1-i)%b=z/b^(m-(i+1)):=by rw[e1,e2,<-j8g z b (by omega),mI];exact Int.mul_ediv_add_emod _ _
  rw[e3];exact⟨_,rfl⟩
 .rintro ρ' ⟨s3,rfl⟩;ext;simp[zx]
def Ce {n m:Nat} {z:Int} (h:1<=m/\m<=6) (hz:0<=z/\z<2^m):evP 1000 G T (n+2) "row_number" [j8 (ju 2 m z)]=.val (.int z):=by
 rw[jx (F:=Vq) (by rfl) rfl];simp only[Vq,Z6,enter];ext;simp only[gA];ext;have e:evP 1000 G T (n+1) "number_of" [j8 (ju 2 m z),.int 2]=.val (.int z):=j10 h.2 (.inl rfl) hz;have e2:(((0+1+1:Nat):Int))=2:=rfl
 first|rw[e]|(rw[e2,e])
 ext
noncomputable def qD(ws:List ar)(a:zo):D:=.tup [.tup (ws.map D.str),.tup (a.map D.int)]
def j37{p:zo}{k:Nat}(h:k<p.length):atI (p.map D.int) (k:Int)=a8 (.int (p.getD k 0)):=by
 have:=j1u h
 rwa [dh]at this
def j1a {n m k:Nat} {ws:List ar} {a:zo} (hm:1<=m/\m<=6) (ha:a.length=2^m) (hk:k<2^m):evP 1000 G T (n+3) "answer_to" [qD ws a,j8 (ju 2 m (k:Int))]=.val (.int (a.getD k 0)):=by
 rw[jx (F:=Yn) (by rfl) rfl];simp only[Yn,Zy,enter,qD];have pc:((2^m:Nat):Int)=(2:Int)^m:=by simp
 have i1:atI [D.tup (ws.map D.str),.tup (a.map D.int)] 1=a8 (.tup (a.map D.int)):=rfl;ext;rw[i1];ext;rw[Ce (n:=n) hm (by omega)];ext;rw[j37 (by omega)];ext
def Rq(p:zo):Qa (p.map D.int)=(aA p.length).map λ(s:Nat)=>D.tup [.int (s:Int),.int (p.getD s 0)]:=by
 refine de λi=>?_;rw[La,xn,xn];by_cases h:i<p.length
 .rw[Pg h,kh h];simp[h]
 .rw[Pj (by omega),Pj (by simp;omega)];rfl
def at0(a b:D):atI [a,b] 0=a8 a:=rfl
def at1(a b:D):atI [a,b] 1=a8 b:=rfl
def j19(l:List zo)(h:∀k∈l,k.length=2):∀k,k<l.length->be (Qk l) k<=k/\∀j,j<=k->(l.getD (be (Qk l) k) []).getD 0 0<=(l.getD j []).getD 0 0:=by
 have two:∀i,i<l.length->∃a b,l.getD i []=[a,b]:=λi hi=>by
  have e:l.getD i []=l[i]:=by rw[km,kh hi];rfl
  have hm:=h _ (Xo hi);rw[e]
  match l[i],hm with|[a,b],_=>exact⟨a,b,rfl⟩
 intro k;induction k with
 |zero=>exact λ_=>⟨xu _,λj hj=>by rw[Nat.le_zero.mp hj];exact i8 _⟩
 |succ k ih =>
  intro hk;obtain⟨h1,h2⟩:=ih (by omega);obtain⟨a,b,e1⟩:=two (k+1) hk;obtain⟨c,d,e2⟩:=two (be (Qk l) k) (by omega);rw[be];cases z:Qk l (k+1) (be (Qk l) k) with
  |true =>
   rw[if_pos rfl];refine⟨xu _,λj hj=>?_⟩;have z:HT.lexLt (l.getD (k+1) []) (l.getD (be (Qk l) k) [])=ae:=z;rw[e1,e2]at z;have z:a<=c:=by
    rw[HT.lexLt]at z;by_cases q:a=c
    .omega
    .rw[if_neg q]at z;have:=of_decide_eq_true z;omega
   rcases gN j (k+1)with q|q
   .have:=h2 j (by omega);rw[e2]at this;rw[e1];exact Int.le_trans z this
   .rw[show j=k+1 by omega];exact i8 _
  |false =>
   rw[if_neg xj];refine⟨by omega,λj hj=>?_⟩;have z:HT.lexLt (l.getD (k+1) []) (l.getD (be (Qk l) k) [])=aa:=z;rw[e1,e2]at z;have z:c<=a:=by
    rw[HT.lexLt]at z;by_cases q:a=c
    .omega
    .rw[if_neg q]at z;have:=of_decide_eq_false z;omega
   rcases gN j (k+1)with q|q
   .exact h2 j (by omega)
   .rw[show j=k+1 by omega,e1,e2];exact z
def gF:G "FEWEST_PLACES" = a8 (.int 1):=by rfl
def gM:G "MOST_PLACES" = a8 (.int 6):=by rfl
def j4a {fu n:Nat} {m:Int} (h:1<=m/\m<=6):evP fu G T (n+1) "refuse_wrong_size" [.int m]=.val .non:=by rw[jx (F:=Q8) (by rfl) rfl];simp only[Q8,J3,enter];ext;simp only[gF];ext;simp only[gM];ext
def j1i {fu n m:Nat} (h:1<=m/\m<=6):evP fu G T (n+2) "rows_of" [.int m]=.fresh (ql (vd m)):=by
 rw[jx (F:=Wd) (by rfl) rfl];simp only[Wd,Vz,enter];ext;rw[j4a (n:=n) (by omega)];ext;simp only[gA];have hrep:(ay (m:Int).toNat [D.tup [.int 0,.int 1]]).flatten=ql (ay m [0,1]):=by
  rw[X8];have:∀k:Nat,(ay k [D.tup [.int 0,.int 1]]).flatten=ql (ay k [0,1]):=by
   intro k;induction k with
   |zero=>rfl
   |succ k ih=>rw[t6,Tq,ih];rfl
  exact this m
 ext;rw[hrep,j0e j85 (λf hf=>by rw[(List.mem_replicate.mp hf).2];decide) (by rw[dr];omega)];ext;have hc:zr (ay m [0,1])=vd m:=by
  rw[j3g];have:∀k:Nat,W0 (ay k [0,1])=vd k:=by
   intro k;induction k with
   |zero=>rfl
   |succ k ih=>rw[t6,W0,ih,vd];simp
  exact this m
 rw[hc]
def max2(x y:Int):Zm [x,y]=max x y:=by
 have:=Oi (ns:=[x,y]) (by simp);have h1:=this.2 x (by simp);have h2:=this.2 y (by simp);have h3:Zm [x,y]=x\/Zm [x,y]=y:=by simpa using this.1
 omega
noncomputable def bt(m s k:Nat):Int:=(ju 2 m (k:Int)).getD s 0
noncomputable def wal(L c:Int):Int:=if c = -1\/c=L then -1 else c+1
noncomputable def beh(m:Nat)(L:Int)(st:zo)(s:Nat)(x:Int):zo:=(aA (2^m)).map λk=>if bt m s k=x then st.getD k 0 else wal L (st.getD k 0)
noncomputable def lft(m:Nat)(st:zo):List Nat:=(aA (2^m)).filter λk=>decide (st.getD k 0 ≠ -1)
def gG:G "GONE" = a8 (.int (-1)):=by rfl
def j7g {n:Nat} {c L:Int}:evP 1000 G T (n+1) "with_another_lie" [.int c,.int L]=.val (.int (wal L c)):=by
 rw[jx (F:=Qh) (by rfl) rfl];simp only[Qh,Jd,enter];by_cases h1:c = -1
 .simp only[wal];rw[if_pos (.inl h1)];ext;simp only[gG];ext
  try simp only[gG]
  ext
 .by_cases h2:c=L
  .simp only[wal];rw[if_pos (.inr h2)];ext;simp only[gG];ext
   try simp only[gG]
   ext
  .simp only[wal];rw[if_neg (by omega)];ext;simp only[gG];ext
   try simp only[gG]
   ext
def zip_rows{m:Nat}{st:zo}(h:st.length=2^m):V3 (ql (vd m)) (st.map D.int)=(aA (2^m)).map λk=>D.tup [j8 (ju 2 m ((k:Nat):Int)),.int (st.getD k 0)]:=by
 unfold V3;rw[<-Ir];apply de;intro i;rw[xn,xn];by_cases hi:i<2^m
 .rw[Pg hi];have e1:(ql ((aA (2^m)).map λn=>ju 2 m ((n:Nat):Int)))[i]?=a8 (j8 (ju 2 m (i:Int))):=by unfold ql;rw[xn,xn,Pg hi];rfl
  have e2:(st.map D.int)[i]?=a8 (.int (st.getD i 0)):=by rw[xn,km,kh (by omega)];rfl
  rw[iC (z:=(j8 (ju 2 m (i:Int)),D.int (st.getD i 0))) |>.mpr ⟨e1,e2⟩];rfl
 .rw[Pj (l:=aA (2^m)) (by rw[Xe];omega),Pj (by rw[kR];simp only[ql,xf,Xe];omega)];rfl
def j0m{m s k:Nat}(hs:s<m):atI ((ju 2 m (k:Int)).map D.int) (s:Int)=a8 (.int (bt m s k)):=j37 (by rw[zx];exact hs)
def Z9{m:Nat}(h:m<=3):2^m<=8:=Pu (n:=2) (by decide) h
def j0q {n m s:Nat} {ws:List ar} {a st:zo} {x L:Int} (hw:ws.length=m) (hm:1<=m/\m<=3) (hst:st.length=2^m) (hs:s<m):evP 1000 G T (n+4) "state_behind" [j8 st,.int s,.int x,qD ws a,.int L]=.val (j8 (beh m L st s x)):=by
 have rok:evP 1000 G T (n+3) "rows_of" [.int m]=.fresh (ql (vd m)):=j1i (n:=n+1) (by omega);have p8:=Z9 hm.2;have lw:((ws.map D.str).length:Int)=(m:Int):=by rw[xf,hw]
 rw[jx (F:=Zq) (by rfl) rfl];simp only[Zq,Qm,enter,qD];ext;simp only[at0];ext;rw[hw,rok];ext;simp only[j8];rw[show Np (a8 (.v (.e (.lst (ql (vd m)))))) (a8 (.v (.e (.tup (st.map D.int)))))=a8 (.i (V3 (ql (vd m)) (st.map D.int)))from rfl,zip_rows hst];rw[qb (l:=(beh m L st s x).map D.int) (by rfl) (by rw[xf,Xe];omega) ?_ (.inl rfl)]
 .ext
 .rw[beh,Xf];refine jw λk hk=>j1c (by ext) ?_;by_cases hb:bt m s k=x
  .simp only[cH];rw[if_pos hb];ext;simp only[j8,j0m hs];ext
  .simp only[cH];rw[if_neg hb];ext;simp only[j8,j0m hs];ext;rw[j7g];ext
def Dp{x y:Int}:cmpI .ne x y=a8 (decide (x≠y)):=by unfold cmpI;by_cases h:x=y<;>simp[h]
def jct{x y:Int}:cmpI .le x y=a8 (decide (x<=y)):=by unfold cmpI;by_cases h:x<=y<;>simp[h]
def Cz {n m:Nat} {ws:List ar} {a st:zo} (hw:ws.length=m) (hm:1<=m/\m<=3) (hst:st.length=2^m):evP 1000 G T (n+4) "rows_of_state" [j8 st,qD ws a]=.fresh (ql ((lft m st).map λk=>ju 2 m ((k:Nat):Int))):=by
 have rok:evP 1000 G T (n+3) "rows_of" [.int m]=.fresh (ql (vd m)):=j1i (n:=n+1) (by omega);have p8:=Z9 hm.2;rw[jx (F:=Za) (by rfl) rfl];simp only[Za,Qe,enter,qD,j8];ext;simp only[at0];ext;rw[hw,rok];ext;rw[show Np (a8 (.v (.o (ql (vd m))))) (a8 (.v (.e (.tup (st.map D.int)))))=a8 (.i (V3 (ql (vd m)) (st.map D.int)))from rfl,zip_rows hst];rw[qb (l:=ql ((lft m st).map λk=>ju 2 m ((k:Nat):Int))) (by rfl) (by rw[xf,Xe];omega) ?_ (.inl rfl)]
 .ext
 .unfold ql lft;rw[Xf];refine Z4 λk hk=>O5 ?_ λ_=>by(ext;rfl)
  ext;simp only[gG];ext;rw[Dp];rfl
noncomputable def vq(a:zo)(m:Nat)(st:zo):zo:=(lft m st).map λk=>a.getD k 0
noncomputable def stl(a:zo)(m:Nat)(st:zo):Bool:=!((vq a m st).contains 0&&(vq a m st).contains 1)
theorem Io:∀{n:Nat}{p:zo},p.length=n->(∀x∈p,x=0\/x=1)->p∈vd n
 |0,[],_,_=>by simp[vd]
 |0,_::_,h,_=>by simp at h
 |n+1,[],h,_=>by simp at h
 |n+1,x::p,h,hx=>by have ih:=Io (n:=n) (p:=p) (by simpa using h) λy hy=>hx y (xm _ hy);unfold vd;have:=hx x (xr ..);rcases this with e|e<;>subst e<;>simp[ih]
def jgn:∀n:Fin 9,(vd n.val).all (λns=>decide (decide ((ddI ns).length<=1)=(!(ns.contains 0&&ns.contains 1))))=ae:=by decide +kernel
def jj9{ns:zo}(hl:ns.length<=8)(h:∀x∈ns,x=0\/x=1):decide ((ddI ns).length<=1) = !(ns.contains 0&&ns.contains 1):=by have:=T6.mp (jgn ⟨ns.length,by omega⟩) ns (Io rfl h);exact of_decide_eq_true this
def Fy{m:Nat}{st:zo}:(lft m st).length<=2^m:=by unfold lft;exact Xd (Td ..) (by rw[Xe];exact xu _)
def Et{m k:Nat}{st:zo}(h:k∈lft m st):k<2^m:=Xc.mp (Pn.mp h).1
def j0x {n m:Nat} {ws:List ar} {a st:zo} (hw:ws.length=m) (hm:1<=m/\m<=3) (ha:a.length=2^m) (h01:∀x∈a,x=0\/x=1) (hst:st.length=2^m):evP 1000 G T (n+5) "is_settled" [j8 st,qD ws a]=.val (.bl (stl a m st)):=by
 have fs:=Cz (n:=n) (a:=a) hw hm hst;have p8:=Z9 hm.2;have ll:=Fy (m:=m) (st:=st);rw[jx (F:=Vr) (by rfl) rfl];simp only[Vr,Z7,enter];ext;rw[fs];ext;rw[qb (l:=(vq a m st).map D.int) (by rfl) (by simp only[ql,xf];omega) ?_ (.inl rfl)]
 .ext;have el:W4 (a8 (.v (.w ((vq a m st).map D.int))))=a8 (.v (.e (.int (ddI (vq a m st)).length))):=by
   have:(vq a m st).length=(lft m st).length:=xf ..;cases ex:vq a m st with
   |nil=>rfl
   |cons x xs =>rw[ex,X7]at this;exact jbn (by omega)
  rw[el];ext;have:=jj9 (ns:=vq a m st) (by rw[show(vq a m st).length=(lft m st).length from xf ..];omega) (λy hy=>by
   obtain⟨k,hk,e⟩:=Xj.mp hy
   rw[<-e]
   exact h01 _ (by rw[km,kh (by have:=Et hk;omega)];exact Xo _))
  rw[jct];ext;rw[show stl a m st=decide ((ddI (vq a m st)).length<=1)from this.symm];have e1:decide (((ddI (vq a m st)).length:Int)<=1)=decide ((ddI (vq a m st)).length<=1):=decide_eq_decide.mpr (by omega);rw[e1]
 .unfold ql vq;rw[Xf,Xf];refine jw λk hk=>zq (by ext) ?_;have as:=j1a (n:=n+1) (ws:=ws) (a:=a) (m:=m) (by omega) ha (Et hk);ext;simp only[cH];rw[as];ext
def K5 {n m:Nat} {ws:List ar} {a st:zo} (hw:ws.length=m) (hm:1<=m/\m<=3) (ha:a.length=2^m) (h01:∀x∈a,x=0\/x=1) (hst:st.length=2^m) (_:lft m st≠[]):evP 1000 G T (n+5) "is_settled" [j8 st,qD ws a]=.val (.bl (stl a m st)):=j0x hw hm ha h01 hst
noncomputable def unl(m:Nat)(st:zo):List Nat:=(aA m).filter λs=>(lft m st).any λk=>decide (bt m s k≠bt m s ((lft m st).headD 0))
def j8c{m k:Nat}:Qa ((ju 2 m (k:Int)).map D.int)=(aA m).map λ(s:Nat)=>D.tup [.int (s:Int),.int (bt m s k)]:=by have:=Rq (ju 2 m (k:Int));rw[zx]at this;exact this
def Kr {n m:Nat} {st:zo} (hm:1<=m/\m<=3) (hne:lft m st≠[]):evP 1000 G T (n+1) "spots_unlike" [.lst (ql ((lft m st).map λk=>ju 2 m ((k:Nat):Int)))]=.fresh ((unl m st).map λ(s:Nat)=>D.int (s:Int)):=by
 have p8:=Z9 hm.2;have ll:=Fy (m:=m) (st:=st);obtain⟨k0,r,e0⟩:∃k0 r,lft m st=k0::r:=by
  cases e:lft m st with
  |nil=>exact absurd e hne
  |cons k r=>exact⟨k,r,rfl⟩
 have h0:(lft m st).headD 0=k0:=by rw[e0];rfl
 have i0:atI (ql ((lft m st).map λk=>ju 2 m ((k:Nat):Int))) 0=a8 (j8 (ju 2 m (k0:Int))):=by rw[e0];simp[ql,atI,ixN]
 rw[jx (F:=Zr) (by rfl) rfl];simp only[Zr,Qn,enter];ext;rw[i0];ext
 try simp only[j8]
 ext;rw[j8c];rw[qb (l:=(unl m st).map λ(s:Nat)=>D.int (s:Int)) (by rfl) (by rw[xf,Xe];omega) ?_ (.inl rfl)]
 .ext
 .unfold unl;refine Z4 λs hs=>O5 ?_ λ_=>by ext
  have hs':s<m:=Xc.mp hs;ext;rw[qb (l:=((lft m st).map λk=>decide (bt m s k≠bt m s k0)).map D.bl) (by rfl) (by simp only[ql,xf];omega) ?_ (.inl rfl)]
  .ext;rw[h0,lS];rfl
  .unfold ql;rw[Xf,Xf];refine jw λk hk=>zq (by ext) ?_;simp only[cH];ext;simp only[j8,j0m hs'];ext;rw[Dp];ext
def Wa{m s k:Nat}{L x:Int}{st:zo}(hk:k<2^m):(beh m L st s x).getD k 0=if bt m s k=x then st.getD k 0 else wal L (st.getD k 0):=by unfold beh;rw[km,xn,Pg hk];rfl
def jd1{m s:Nat}{L x:Int}{st:zo}:(beh m L st s x).length=2^m:=by unfold beh;rw[xf,Xe]
def J6{m k:Nat}{st:zo}:k∈lft m st↔k<2^m/\st.getD k 0 ≠ -1:=by unfold lft;rw[Pn,Xc,decide_eq_true_eq]
def j0n{m s k:Nat}(hs:s<m):bt m s k=0\/bt m s k=1:=by
 have h:bt m s k∈ju 2 m (k:Int):=by unfold bt;rw[km,kh (by rw[zx];exact hs)];exact Xo _
 have:=Nf (by decide) h;omega
def Y7{m s:Nat}{st:zo}:s∈unl m st↔s<m/\∃k∈lft m st,∃k'∈lft m st,bt m s k≠bt m s k':=by
 unfold unl;rw[Pn,Xc,List.any_eq_true];refine⟨λ⟨h1,k,hk,h2⟩=>⟨h1,k,hk,(lft m st).headD 0,?_,of_decide_eq_true h2⟩,λ⟨h1,k,hk,k',hk',h2⟩=>⟨h1,?_⟩⟩
 .cases e:lft m st with
  |nil=>rw[e]at hk;cases hk
  |cons x r=>exact xr ..
 .by_cases h:bt m s k=bt m s ((lft m st).headD 0)
  .exact⟨k',hk',decide_eq_true λz=>h2 (h.trans z.symm)⟩
  .exact⟨k,hk,decide_eq_true h⟩
def jah{a:zo}{m:Nat}{st:zo}(ha:a.length=2^m)(h01:∀x∈a,x=0\/x=1):stl a m st=ae ↔ ∀k∈lft m st,∀k'∈lft m st,a.getD k 0=a.getD k' 0:=by
 have g:∀k∈lft m st,a.getD k 0=0\/a.getD k 0=1:=λk hk=>h01 _ (by
  rw[km,kh (by have:=(J6.mp hk).1;omega)];exact Xo _)
 unfold stl;rw[gC,Bool.and_eq_false_iff];have c:∀v:Int,(vq a m st).contains v=ae ↔ ∃k∈lft m st,a.getD k 0=v:=λv=>by rw[Xx];unfold vq;rw[Xj]
 constructor
 .intro h k hk k' hk';rcases h with h|h
  .have n:∀k∈lft m st,a.getD k 0≠0:=λk hk z=>by rw[(c 0).mpr ⟨k,hk,z⟩]at h;cases h
   have:=n k hk;have:=n k' hk';have:=g k hk;have:=g k' hk';omega
  .have n:∀k∈lft m st,a.getD k 0≠1:=λk hk z=>by rw[(c 1).mpr ⟨k,hk,z⟩]at h;cases h
   have:=n k hk;have:=n k' hk';have:=g k hk;have:=g k' hk';omega
 .intro h;cases e0:(vq a m st).contains 0 with
  |false=>exact .inl rfl
  |true =>
   refine .inr ?_;cases e1:(vq a m st).contains 1 with
   |false=>rfl
   |true =>obtain⟨k,hk,z⟩:=(c 0).mp e0;obtain⟨k',hk',z'⟩:=(c 1).mp e1;have:=h k hk k' hk';omega
def j2o:∀m:Fin 4,∀k:Fin 8,∀k':Fin 8,k.val<2^m.val->k'.val<2^m.val->k≠k'->∃s:Fin 3,s.val<m.val/\bt m.val s.val k.val≠bt m.val s.val k'.val:=by decide +kernel
def j3v{a:zo}{m:Nat}{st:zo}(hm:m<=3)(ha:a.length=2^m)(h01:∀x∈a,x=0\/x=1)(h:stl a m st=aa):unl m st≠[]:=λz=>by
 have:stl a m st=ae:=(jah ha h01).mpr λk hk k' hk'=>by
  by_cases e:k=k'
  .rw[e]
  .exfalso;have p8:=Z9 hm;have b1:=(J6.mp hk).1;have b2:=(J6.mp hk').1;obtain⟨s,h1,h2⟩:=j2o ⟨m,by omega⟩ ⟨k,by omega⟩ ⟨k',by omega⟩ b1 b2 (λq=>e (congrArg Fin.val q));have:s.val∈unl m st:=Y7.mpr ⟨h1,k,hk,k',hk',h2⟩;rw[z]at this;cases this
 rw[h]at this;cases this
structure Vs(m:Nat)(L:Int)(st:zo):Prop where
 len:st.length=2^m
 bd:∀k,k<2^m->-1<=st.getD k 0/\st.getD k 0<=L
 ne:lft m st≠[]
noncomputable def wt(L c:Int):Nat:=if c = -1 then 0 else(L+1-c).toNat
noncomputable def mu(m:Nat)(L:Int)(st:zo):Nat:=((aA (2^m)).map λk=>wt L (st.getD k 0)).sum
theorem Ky{f g:Nat->Nat}:∀{l:List Nat},(∀k∈l,f k<=g k)->(l.map f).sum<=(l.map g).sum
 |[],_=>xu _
 |k::l,h=>by rw[X6,X6,eD,eD];exact Nat.add_le_add (h k (xr ..)) (Ky λk hk=>h k (xm _ hk))
theorem Bd{f g:Nat->Nat}:∀{l:List Nat},(∀k∈l,f k<=g k)->(∃k∈l,f k<g k)->(l.map f).sum<(l.map g).sum
 |[],_,⟨_,h,_⟩=>by cases h
 |k::l,h,⟨j,hj,hl⟩=>by
  rw[X6,X6,eD,eD];rcases xq.mp hj with e|e
  .subst e;exact Nat.add_lt_add_of_lt_of_le hl (Ky λk hk=>h k (xm _ hk))
  .exact Nat.add_lt_add_of_le_of_lt (h k (xr ..)) (Bd (λk hk=>h k (xm _ hk)) ⟨j,e,hl⟩)
def Kq{L c:Int}(hL:0<=L)(h:-1<=c/\c<=L):-1<=wal L c/\wal L c<=L/\wt L (wal L c)<=wt L c/\(c ≠ -1->wt L (wal L c)<wt L c)/\(wal L c ≠ -1->c ≠ -1/\wal L c=c+1):=by
 unfold wal wt;by_cases h1:c = -1
 .subst h1;simp;omega
 .by_cases h2:c=L
  .subst h2;simp[h1];omega
  .rw[if_neg (by omega),if_neg (by omega),if_neg h1];omega
theorem Vs.beh{m s:Nat}{L x:Int}{st:zo}(v:Vs m L st)(hL:0<=L)(hs:s∈unl m st)(hx:x=0\/x=1):Vs m L (beh m L st s x)/\mu m L (beh m L st s x)<mu m L st:=by
 obtain⟨hsm,k,hk,k',hk',hne⟩:=Y7.mp hs;have b1:=j0n (k:=k) hsm;have b2:=j0n (k:=k') hsm;obtain⟨i,hi,ei⟩:∃i∈lft m st,bt m s i=x:=by
  by_cases e:bt m s k=x
  .exact⟨k,hk,e⟩
  .exact⟨k',hk',by omega⟩
 obtain⟨j,hj,ej⟩:∃j∈lft m st,bt m s j≠x:=by
  by_cases e:bt m s k=x
  .exact⟨k',hk',by omega⟩
  .exact⟨k,hk,e⟩
 refine⟨⟨jd1,λk hk=>?_,λz=>?_⟩,?_⟩
 .rw[Wa hk];split
  .exact v.bd k hk
  .have:=Kq hL (v.bd k hk);exact⟨this.1,this.2.1⟩
 .have:i∈lft m (K46.beh m L st s x):=J6.mpr ⟨(J6.mp hi).1,by rw[Wa (J6.mp hi).1,if_pos ei];exact(J6.mp hi).2⟩;rw[z]at this;cases this
 .unfold mu;refine Bd (λk hk=>?_) ⟨j,Xc.mpr (J6.mp hj).1,?_⟩
  .have hk:=Xc.mp hk;rw[Wa hk];split
   .exact xu _
   .exact(Kq hL (v.bd k hk)).2.2.1
  .rw[Wa (J6.mp hj).1,if_neg ej];exact(Kq hL (v.bd j (J6.mp hj).1)).2.2.2.1 (J6.mp hj).2
noncomputable def NF(a:zo)(m:Nat)(L:Int):Nat->zo->Int
 |0,_=>0
 |f+1,st=>if stl a m st=ae then 0 else 1+J0 ((unl m st).map λs=>max (NF a m L f (beh m L st s 0)) (NF a m L f (beh m L st s 1)))
noncomputable def NN(a:zo)(m:Nat)(L:Int)(st:zo):Int:=NF a m L (mu m L st) st
def j3o{a:zo}{m:Nat}{L:Int}(hL:0<=L):∀(f g:Nat)(st:zo),Vs m L st->mu m L st<=f->mu m L st<=g->NF a m L f st=NF a m L g st:=by
 have pos:∀st,Vs m L st->0<mu m L st:=λst v=>by
  obtain⟨k,hk⟩:=iD _ v.ne;obtain⟨k1,k2⟩:=J6.mp hk;unfold mu;have:((aA (2^m)).map λ_=>0).sum<((aA (2^m)).map λk=>wt L (st.getD k 0)).sum:=Bd (λ_ _=>Xw _) ⟨k,Xc.mpr k1,by
   have:=v.bd k k1
   unfold wt;rw[if_neg k2];omega⟩
  omega
 intro f;induction f with
 |zero=>intro g st v h1 h2;have:=pos st v;omega
 |succ f ih =>
  intro g st v h1 h2;cases g with
  |zero=>have:=pos st v;omega
  |succ g =>
   unfold NF;by_cases e:stl a m st=ae
   .rw[if_pos e,if_pos e]
   .rw[if_neg e,if_neg e];congr 2;refine Tt λs hs=>?_;have w0:=v.beh hL hs (x:=0) (.inl rfl);have w1:=v.beh hL hs (x:=1) (.inr rfl);rw[ih g _ w0.1 (by omega) (by omega),ih g _ w1.1 (by omega) (by omega)]
def j0t{a:zo}{m:Nat}{L:Int}{st:zo}(h:stl a m st=ae):NN a m L st=0:=by
 unfold NN;cases mu m L st with
 |zero=>rfl
 |succ f=>unfold NF;rw[if_pos h]
def j27{a:zo}{m:Nat}{L:Int}{st:zo}(hL:0<=L)(v:Vs m L st)(h:stl a m st=aa):NN a m L st=1+J0 ((unl m st).map λs=>max (NN a m L (beh m L st s 0)) (NN a m L (beh m L st s 1))):=by have e:NN a m L st=NF a m L (mu m L st+1) st:=j3o hL _ _ st v (xu _) (Pk _);rw[e];unfold NF;rw[if_neg (by rw[h];exact xj)];congr 2;refine Tt λs hs=>?_;have w0:=v.beh hL hs (x:=0) (.inl rfl);have w1:=v.beh hL hs (x:=1) (.inr rfl);unfold NN;rw[j3o hL (mu m L st) _ _ w0.1 (by omega) (xu _),j3o hL (mu m L st) _ _ w1.1 (by omega) (xu _)]
theorem Uu{f:zo->Int}{k:zo}:∀{ks:List zo},k∈ks->Ql ks ((ks.map f).map D.int) k=a8 (.int (f k))
 |[],h=>by cases h
 |k'::ks,h=>by
  show(if k'=k then _ else _)=_;by_cases e:k'=k
  .rw[if_pos e,e]
  .rw[if_neg e];exact Uu ((xq.mp h).resolve_left λz=>e z.symm)
theorem Yh{α:Type}[DecidableEq α]:∀{l S:List α},l.Nodup->(∀x∈l,x∈S)->l.length<=S.length
 |[],_,_,_=>Xw _
 |x::l,S,hn,h=>by have hx:=h x (xr ..);have:=Yh (l:=l) (S:=S.erase x) (Xn.mp hn).2 λy hy=>(List.mem_erase_of_ne (λ(e:y=x)=>(Xn.mp hn).1 (by rw[<-e];exact hy))).mpr (h y (xm _ hy));rw[List.length_erase_of_mem hx]at this;have:=List.length_pos_of_mem hx;rw[X7];omega
noncomputable def stS:Nat->List zo
 |0=>[[]]
 |n+1=>(stS n).map (-1 :: ·)++(stS n).map (0 :: ·)++(stS n).map (1 :: ·)++(stS n).map (2 :: ·)
theorem Nz:∀n,(stS n).length=4^n
 |0=>rfl
 |n+1=>by unfold stS;simp only[Xh,xf,Nz n];rw[gK];omega
theorem Fw:∀{n:Nat}{st:zo},st.length=n->(∀x∈st,-1<=x/\x<=2)->st∈stS n
 |0,[],_,_=>by simp[stS]
 |0,_::_,h,_=>by simp at h
 |n+1,[],h,_=>by simp at h
 |n+1,x::st,h,hx=>by have ih:=Fw (n:=n) (st:=st) (by simpa using h) λy hy=>hx y (xm _ hy);have:=hx x (xr ..);unfold stS;rcases(show x = -1\/x=0\/x=1\/x=2 by omega)with e|e|e|e<;>subst e<;>simp[ih]
section
variable{a:zo}{m:Nat}{L:Int}{ws:List ar}
def Pd(a:zo)(m:Nat)(L:Int)(S:List zo)(k:zo):Prop:=∃p∈S,stl a m p=aa/\∃s∈unl m p,∃x:Int,(x=0\/x=1)/\k=beh m L p s x
def Pd.sub{S S':List zo}{k:zo}(h:Pd a m L S k)(q:∀p∈S,p∈S'):Pd a m L S' k:=let ⟨p,hp,r⟩:=h;⟨p,q p hp,r⟩
structure Gd(a:zo)(m:Nat)(L:Int)(B:Nat)(Rt:zo->Prop)(ks ks':List zo):Prop where
 vs:∀k∈ks',Vs m L k
 nd:ks'.Nodup
 sub:∀k∈ks,k∈ks'
 bd:∀k∈ks',k∈ks\/mu m L k<=B
 cl:∀k∈ks',k∈ks\/(stl a m k=aa->∀s∈unl m k,∀x:Int,(x=0\/x=1)->beh m L k s x∈ks')
 pr:∀k∈ks',k∈ks\/Rt k\/Pd a m L ks' k
def Gd.trans{B:Nat}{Rt:zo->Prop}{ks ks1 ks2:List zo}(h1:Gd a m L B Rt ks ks1)(h2:Gd a m L B Rt ks1 ks2):Gd a m L B Rt ks ks2 :=
 ⟨h2.vs,h2.nd,λk hk=>h2.sub k (h1.sub k hk),λk hk=>(h2.bd k hk).elim (λz=>h1.bd k z) .inr,λk hk=>(h2.cl k hk).elim (λz=>(h1.cl k z).imp id λq e s hs x hx=>h2.sub _ (q e s hs x hx)) .inr,λk hk=>(h2.pr k hk).elim (λz=>(h1.pr k z).imp id λq=>q.imp id λy=>y.sub h2.sub) .inr⟩
def Gd.mono{B B':Nat}{Rt:zo->Prop}{ks ks1:List zo}(h1:Gd a m L B Rt ks ks1)(h:B<=B'):Gd a m L B' Rt ks ks1:=⟨h1.vs,h1.nd,h1.sub,λk hk=>(h1.bd k hk).imp id λz=>Xd z h,h1.cl,h1.pr⟩
def Gd.root{B:Nat}{Rt Rt':zo->Prop}{ks ks1:List zo}(h1:Gd a m L B Rt ks ks1)(h:∀k,Rt k->Rt' k):Gd a m L B Rt' ks ks1:=⟨h1.vs,h1.nd,h1.sub,h1.bd,h1.cl,λk hk=>(h1.pr k hk).imp id λq=>q.imp (h k) id⟩
def Gd.refl{B:Nat}{Rt:zo->Prop}{ks:List zo}(h1:∀k∈ks,Vs m L k)(h2:ks.Nodup):Gd a m L B Rt ks ks:=⟨h1,h2,λ_ h=>h,λ_ h=>.inl h,λ_ h=>.inl h,λ_ h=>.inl h⟩
def j50(hm:m<=3)(hL:L<=2){ks:List zo}(h1:∀k∈ks,Vs m L k)(h2:ks.Nodup):ks.length<aw:=by
 have p8:=Z9 hm;have:=Yh (S:=stS (2^m)) h2 λk hk=>Fw (h1 k hk).len λx hx=>by obtain⟨i,hi,e⟩:=dH hx;have:=(h1 k hk).bd i (by have:=(h1 k hk).len;omega);rw[km,kh hi,Te,e]at this;omega
 rw[Nz]at this;have:4^(2^m)<=4^8:=Pu (by decide) p8;have e:(4:Nat)^8=65536:=by decide
 rw[dX];omega
theorem Ol{α:Type}{f:D->List zo->zo->Option (D×List zo×zo)}{B:Nat}{Rt:zo->Prop}{h r:α->D}{M:α->List zo}:∀(l:List α)(ks:List zo),(∀k∈ks,Vs m L k)->ks.Nodup ->
  (∀x∈l,∀ks,(∀k∈ks,Vs m L k)->ks.Nodup->∃ks',f (h x) ks (ks.map (NN a m L))=a8 (r x,ks',ks'.map (NN a m L))/\Gd a m L B Rt ks ks'/\∀k∈M x,k∈ks') ->
  ∃ks',vp f (l.map h) ks (ks.map (NN a m L))=a8 (l.map r,ks',ks'.map (NN a m L))/\Gd a m L B Rt ks ks'/\∀x∈l,∀k∈M x,k∈ks'
 |[],ks,h1,h2,_=>⟨ks,rfl,.refl h1 h2,λ_ h=>by cases h⟩
 |x::l,ks,h1,h2,hf=>by
  obtain⟨ks1,e1,g1,m1⟩:=hf x (xr ..) ks h1 h2;obtain⟨ks2,e2,g2,m2⟩:=Ol l ks1 g1.vs g1.nd λy hy=>hf y (xm _ hy);refine⟨ks2,?_,g1.trans g2,λy hy k hk=>?_⟩
  .rw[X6,X6,vp,e1];dsimp only;rw[e2]
  .rcases xq.mp hy with z|z
   .subst z;exact g2.sub k (m1 k hk)
   .exact m2 y z k hk
theorem Ec{f:Nat->Int}:∀l:List Nat,Ye (l.map λs=>D.int (f s)) (l.map λ(s:Nat)=>D.int (s:Int))=a8 (l.map λs=>[f s,(s:Int)])
 |[]=>rfl
 |s::l=>by rw[X6,X6,Ye,Ec l];rfl
def jf0{f:Nat->Int}{l:List Nat}(hl:l≠[]):∃t∈l,f t=J0 (l.map f)/\((l.map λs=>[f s,(s:Int)])[be (Qk (l.map λs=>[f s,(s:Int)])) ((l.map λs=>[f s,(s:Int)]).length-1)]?)=a8 [J0 (l.map f),((t:Nat):Int)]:=by
 have h2:∀k∈l.map (λs=>[f s,(s:Int)]),k.length=2:=λk hk=>by obtain⟨s,_,e⟩:=Xj.mp hk;rw[<-e];rfl
 have hp:0<(l.map λs=>[f s,(s:Int)]).length:=by rw[xf];exact List.length_pos_iff.mpr hl
 obtain⟨b1,b2⟩:=j19 (l.map λs=>[f s,(s:Int)]) h2 _ (Nat.sub_lt hp Nat.one_pos);generalize be (Qk (l.map λs=>[f s,(s:Int)])) ((l.map λs=>[f s,(s:Int)]).length-1)=i at b1 b2;rw[xf]at b1 b2 hp;have hi:i<l.length:=by omega
 have gt:∀j,j<l.length->(l.map λs=>[f s,(s:Int)]).getD j []=[f (l.getD j 0),((l.getD j 0:Nat):Int)]:=λj hj=>by rw[km,xn,km,kh hj];rfl
 have e:J0 (l.map f)=f (l.getD i 0):=by have mm:=Oh (ns:=l.map f) (by simpa using hl);obtain⟨s,hs,es⟩:=Xj.mp mm.1;obtain⟨j,hj,ej⟩:=dH hs;have z1:=mm.2 (f (l.getD i 0)) (Tg (by rw[km,kh hi];exact Xo _));have z2:=b2 j (by omega);rw[gt i hi,gt j hj]at z2;have z2:f (l.getD i 0)<=f (l.getD j 0):=z2;rw[km (l:=l) (i:=j),kh hj,Te,ej,es]at z2;omega
 refine⟨l.getD i 0,by rw[km,kh hi];exact Xo _,e.symm,?_⟩;rw[e];have:=gt i hi;rw[km,kh (by rw[xf];exact hi),Te]at this;rw[kh (by rw[xf];exact hi),this]
end
def dqN:dq "number_filled_in" = ("#number_filled_in":ar):=by decide +kernel
def dqB:dq "best_ask" = ("#best_ask":ar):=by decide +kernel
def dqG:dq "greatest_behind" = ("#greatest_behind":ar):=by decide +kernel
def j0l{Γ:ar->List D->Rc}{f:ar}{x y z u v:D}:Qd Γ f (a8 (.a [.e x,.e y,.e z,.e u,.e v]))=rcW (Γ f [x,y,z,u,v]):=V7 rfl
def jgv{Γ:ar->List D->Rc}{f:ar}{x y z u:D}:Qd Γ f (a8 (.a [.e x,.e y,.e z,.e u]))=rcW (Γ f [x,y,z,u]):=V7 rfl
def j6x{Γ:ar->List D->Rc}{t j:Nat}{it es:Ex}{f:ar}{ks:List zo}{ns:zo}{ρ:En}:Vn Γ G (.maxc t j it f es) ks ns ρ=Yu (lsD t j (ev Γ G it ρ) ρ) λl ρ3=>Ma (vp (λd ks ns=>zc Γ f (ev Γ G es (ρ3.set j (.val d))) ks ns) l ks ns):=(rfl)
def j6w{Γ:ar->List D->Rc}{t j:Nat}{it es:Ex}{f:ar}{ks:List zo}{ns:zo}{ρ:En}:Vn Γ G (.minc t j it f es) ks ns ρ=Yu (lsD t j (ev Γ G it ρ) ρ) λl ρ3=>minD l (vp (λd ks ns=>zc Γ f (ev Γ G es (ρ3.set j (.val d))) ks ns) l ks ns):=(rfl)
def Wy{Γ:ar->List D->Rc}{s t:Nat}{c es:Ex}{f:ar}{ks:List zo}{ns:zo}{ρ:En}:Vn Γ G (.fill s t c f es) ks ns ρ=Wc s t ρ ks ns (ev Γ G c ρ) (zc Γ f (ev Γ G es (ρ.set t (.val (.bl aa)))) ks ns):=(rfl)
def j3b{ks ks':List zo}{ns ns':zo}{d:D}{r:List zo->zo->Option (D×List zo×zo)}(h:r ks ns=a8 (d,ks',ns')):dxS (a8 (.val (.dct ks (ns.map D.int)))) r=.ret (.dval d ks' ns'):=by unfold dxS;simp only[vg,h]
def Mq{Γ:ar->List D->Rc}{f:ar}{w:Option W}{ks ks':List zo}{ns ns':zo}{d:D}{rs:List Rk}{ds:List D}(h1:w=a8 (.a rs))(h2:zu rs=a8 ds)(h3:Γ (dq f) (.dct ks (ns.map D.int)::ds)=.dval d ks' ns'):zc Γ f w ks ns=a8 (d,ks',ns'):=by unfold zc;rw[h1];dsimp only;rw[h2];dsimp only;rw[h3]
section
variable{a:zo}{m:Nat}{L:Int}{ws:List ar}
noncomputable def Ow(a:zo)(m:Nat)(L:Int)(ks:List zo):D:=.dct ks ((ks.map (NN a m L)).map D.int)
def j3n(a:zo)(m:Nat)(L:Int)(ws:List ar)(X:Nat)(st:zo):Prop:=∀ks,(∀k∈ks,Vs m L k)->ks.Nodup->∃ks',evP 1000 G T X "#number_filled_in" [Ow a m L ks,j8 st,qD ws a,.int L]=.dval (.int (NN a m L st)) ks' (ks'.map (NN a m L))/\Gd a m L (mu m L st) (λk=>k=st) ks ks'/\st∈ks'
def Bh(m:Nat)(L:Int)(st k:zo):Prop:=∃s∈unl m st,∃x:Int,(x=0\/x=1)/\k=beh m L st s x
def j36{X s:Nat}{st:zo}(hw:ws.length=m)(hm:1<=m/\m<=3)(hL:0<=L/\L<=2)(v:Vs m L st)(hs:s∈unl m st)(ih:∀st',Vs m L st'->mu m L st'<mu m L st->j3n a m L ws (X+4) st')(ks:List zo)(h1:∀k∈ks,Vs m L k)(h2:ks.Nodup) :
  ∃ks',evP 1000 G T (X+5) "#greatest_behind" [Ow a m L ks,j8 st,.int s,qD ws a,.int L]=.dval (.int (max (NN a m L (beh m L st s 0)) (NN a m L (beh m L st s 1)))) ks' (ks'.map (NN a m L))/\Gd a m L (mu m L st-1) (Bh m L st) ks ks'/\∀x:Int,(x=0\/x=1)->beh m L st s x∈ks':=by
 have hsm:=(Y7.mp hs).1;have sb:=λx:Int=>j0q (n:=X) (ws:=ws) (a:=a) (x:=x) (L:=L) hw hm v.len hsm;have w:=λ(x:Int) hx=>v.beh hL.1 hs (x:=x) hx;obtain⟨ks',e1,g1,m1⟩:=Ol (a:=a) (m:=m) (L:=L) (Rt:=Bh m L st) (M:=λx:Int=>[beh m L st s x]) (f:=λd ks ns=>zc (evP 1000 G T (X+4)) "number_filled_in" (ev (evP 1000 G T (X+4)) G (.cons (.var 7) (.cons (.var 3) (.cons (.var 4) .nil))) (([.exc rfN,.val (j8 st),.val (.int s),.val (qD ws a),.val (.int L),.val (.lst [j8 (beh m L st s 0),j8 (beh m L st s 1)]),.un,.un]:En).set 7 (.val d))) ks ns)
  (B:=mu m L st-1) (h:=λx:Int=>j8 (beh m L st s x)) (r:=λx:Int=>D.int (NN a m L (beh m L st s x))) [0,1] ks h1 h2 (λx hx ks h1 h2=>by
   have hx:x=0\/x=1:=by simpa using hx
   obtain⟨ks',e,g,hin⟩:=ih _ (w x hx).1 (w x hx).2 ks h1 h2
   refine⟨ks',Mq (rs:=[.e (j8 (beh m L st s x)),.e (qD ws a),.e (.int L)]) (ds:=[j8 (beh m L st s x),qD ws a,.int L]) (by simp only[T5,T4];ext) (by rfl) (by rw[dqN];exact e),(g.mono (by have:=(w x hx).2;omega)).root (λk hk=>⟨s,hs,x,hx,hk⟩),λk hk=>by rw[xg.mp hk];exact hin⟩)
 refine⟨ks',?_,g1,λx hx=>m1 x (by rcases hx with z|z<;>subst z<;>simp) _ (by simp)⟩;rw[jx (F:=Qq) (by rfl) rfl];simp only[Qq,Vk,enter,Ow,Im];have hit:ev (evP 1000 G T (X+4)) G (.comp [6] (.call "state_behind" (.cons (.var 1) (.cons (.var 2) (.cons (.var 6) (.cons (.var 3) (.cons (.var 4) .nil)))))) (.seq (.glob "ANSWERS")) .nil) [.exc rfN,.val (j8 st),.val (.int s),.val (qD ws a),.val (.int L),.un,.un,.un]=a8 (.v (.o [j8 (beh m L st s 0),j8 (beh m L st s 1)])):=by
  ext;simp only[gA];ext;rw[qb (l:=[j8 (beh m L st s 0),j8 (beh m L st s 1)]) (by rfl) (by decide) ?_ (.inl rfl)];have:∀x:Int,Ji [6] (ev (evP 1000 G T (X+4)) G .nil) (ev (evP 1000 G T (X+4)) G (.call "state_behind" (.cons (.var 1) (.cons (.var 2) (.cons (.var 6) (.cons (.var 3) (.cons (.var 4) .nil))))))) [.exc rfN,.val (j8 st),.val (.int s),.val (qD ws a),.val (.int L),.un,.un,.un] (.int x)=a8 (a8 (j8 (beh m L st s x))):=λx=>by refine zq (by ext) ?_;ext;rw[j0l,sb];ext
  have z:=jw (f:=Ji [6] (ev (evP 1000 G T (X+4)) G .nil) (ev (evP 1000 G T (X+4)) G (.call "state_behind" (.cons (.var 1) (.cons (.var 2) (.cons (.var 6) (.cons (.var 3) (.cons (.var 4) .nil))))))) [.exc rfN,.val (j8 st),.val (.int s),.val (qD ws a),.val (.int L),.un,.un,.un]) (h:=λx:Int=>D.int x) (g:=λx:Int=>j8 (beh m L st s x)) (L:=[0,1]) λx _=>this x;exact z
 show fin (dxS (a8 (.val (.dct ks ((ks.map (NN a m L)).map D.int)))) λks ns=>Vn (evP 1000 G T (X+4)) G (.maxc 5 7 (.comp [6] (.call "state_behind" (.cons (.var 1) (.cons (.var 2) (.cons (.var 6) (.cons (.var 3) (.cons (.var 4) .nil)))))) (.seq (.glob "ANSWERS")) .nil) "number_filled_in" (.cons (.var 7) (.cons (.var 3) (.cons (.var 4) .nil)))) ks ns [.exc rfN,.val (j8 st),.val (.int s),.val (qD ws a),.val (.int L),.un,.un,.un])=_;rw[j3b (d:=.int (max (NN a m L (beh m L st s 0)) (NN a m L (beh m L st s 1)))) (ks':=ks') (ns':=ks'.map (NN a m L))]
 .rfl
 .rw[j6x,hit];have e3:lsD 5 7 (a8 (.v (.o [j8 (beh m L st s 0),j8 (beh m L st s 1)]))) [.exc rfN,.val (j8 st),.val (.int s),.val (qD ws a),.val (.int L),.un,.un,.un]=a8 ([j8 (beh m L st s 0),j8 (beh m L st s 1)],[.exc rfN,.val (j8 st),.val (.int s),.val (qD ws a),.val (.int L),.val (.lst [j8 (beh m L st s 0),j8 (beh m L st s 1)]),.un,.un]):=by unfold lsD;dsimp only;rw[if_pos ⟨by simp,by decide,by decide,by decide,by rfl,by simp⟩];rfl
  rw[e3];unfold Yu;dsimp only;have e1':=e1;simp only[X6,cG]at e1';rw[e1'];unfold Ma;dsimp only;rw[show intsOf [D.int (NN a m L (beh m L st s 0)),D.int (NN a m L (beh m L st s 1))]=a8 [NN a m L (beh m L st s 0),NN a m L (beh m L st s 1)]from rfl];dsimp only;rw[if_pos (by simp),max2]
def j65{X:Nat}{st:zo}(hw:ws.length=m)(hm:1<=m/\m<=3)(ha:a.length=2^m)(h01:∀x∈a,x=0\/x=1)(hL:0<=L/\L<=2)(v:Vs m L st)(hn:stl a m st=aa)(ih:∀st',Vs m L st'->mu m L st'<mu m L st->j3n a m L ws (X+4) st')(ks:List zo)(h1:∀k∈ks,Vs m L k)(h2:ks.Nodup) :
  ∃ks' t,t∈unl m st/\max (NN a m L (beh m L st t 0)) (NN a m L (beh m L st t 1))=J0 ((unl m st).map λs=>max (NN a m L (beh m L st s 0)) (NN a m L (beh m L st s 1)))/\evP 1000 G T (X+6) "#best_ask" [Ow a m L ks,j8 st,qD ws a,.int L]=.dval (.tup [.int (J0 ((unl m st).map λs=>max (NN a m L (beh m L st s 0)) (NN a m L (beh m L st s 1)))),.int ((t:Nat):Int)]) ks' (ks'.map (NN a m L))/\Gd a m L (mu m L st-1) (Bh m L st) ks ks'/\∀s∈unl m st,∀x:Int,(x=0\/x=1)->beh m L st s x∈ks':=by
 have ul:(unl m st).length<=3:=by unfold unl;refine Xd (Td ..) ?_;rw[Xe];exact hm.2
 obtain⟨ks',e1,g1,m1⟩:=Ol (a:=a) (m:=m) (L:=L) (Rt:=Bh m L st) (M:=λs:Nat=>[beh m L st s 0,beh m L st s 1]) (f:=λd ks ns=>zc (evP 1000 G T (X+5)) "greatest_behind" (ev (evP 1000 G T (X+5)) G (.cons (.var 1) (.cons (.var 5) (.cons (.var 2) (.cons (.var 3) .nil)))) (([.exc rfN,.val (j8 st),.val (qD ws a),.val (.int L),.val (.lst ((unl m st).map λ(s:Nat)=>D.int (s:Int))),.un]:En).set 5 (.val d))) ks ns)
  (B:=mu m L st-1) (h:=λs:Nat=>D.int (s:Int)) (r:=λs:Nat=>D.int (max (NN a m L (beh m L st s 0)) (NN a m L (beh m L st s 1)))) (unl m st) ks h1 h2 (λs hs ks h1 h2=>by
   obtain⟨ks',e,g,mm⟩:=j36 hw hm hL v hs ih ks h1 h2
   refine⟨ks',Mq (rs:=[.e (j8 st),.e (.int (s:Int)),.e (qD ws a),.e (.int L)]) (ds:=[j8 st,.int (s:Int),qD ws a,.int L]) (by simp only[T5,T4];ext) (by rfl) (by rw[dqG];exact e),g,λk hk=>by
    rcases xq.mp hk with z|z
    .rw[z];exact mm 0 (.inl rfl)
    .rw[xg.mp z];exact mm 1 (.inr rfl)⟩)
 obtain⟨t,ht,et0,et⟩:=jf0 (f:=λs:Nat=>max (NN a m L (beh m L st s 0)) (NN a m L (beh m L st s 1))) (j3v hm.2 ha h01 hn);refine⟨ks',t,ht,et0,?_,g1,λs hs x hx=>m1 s hs _ (by rcases hx with z|z<;>subst z<;>simp)⟩;rw[jx (F:=Ud) (by rfl) rfl];simp only[Ud,O4,enter,Ow,Im];have hit:ev (evP 1000 G T (X+5)) G (.call "spots_unlike" (.cons (.call "rows_of_state" (.cons (.var 1) (.cons (.var 2) .nil))) .nil)) [.exc rfN,.val (j8 st),.val (qD ws a),.val (.int L),.un,.un]=a8 (.v (.o ((unl m st).map λ(s:Nat)=>D.int (s:Int)))):=by ext;rw[Cz (n:=X+1) hw hm v.len];ext;rw[Kr (n:=X+4) hm v.ne];ext
 show fin (dxS (a8 (.val (.dct ks ((ks.map (NN a m L)).map D.int)))) λks ns=>Vn (evP 1000 G T (X+5)) G (.minc 4 5 (.call "spots_unlike" (.cons (.call "rows_of_state" (.cons (.var 1) (.cons (.var 2) .nil))) .nil)) "greatest_behind" (.cons (.var 1) (.cons (.var 5) (.cons (.var 2) (.cons (.var 3) .nil))))) ks ns [.exc rfN,.val (j8 st),.val (qD ws a),.val (.int L),.un,.un])=_;rw[j3b (d:=.tup [.int (J0 ((unl m st).map λs=>max (NN a m L (beh m L st s 0)) (NN a m L (beh m L st s 1)))),.int ((t:Nat):Int)]) (ks':=ks') (ns':=ks'.map (NN a m L))]
 .rfl
 .rw[j6w,hit];have e3:lsD 4 5 (a8 (.v (.o ((unl m st).map λ(s:Nat)=>D.int (s:Int))))) [.exc rfN,.val (j8 st),.val (qD ws a),.val (.int L),.un,.un]=a8 ((unl m st).map λ(s:Nat)=>D.int (s:Int),[.exc rfN,.val (j8 st),.val (qD ws a),.val (.int L),.val (.lst ((unl m st).map λ(s:Nat)=>D.int (s:Int))),.un]):=by unfold lsD;dsimp only;rw[if_pos ⟨by rw[xf];omega,by decide,by decide,by decide,by rfl,by simp⟩];rfl
  rw[e3];unfold Yu;dsimp only;rw[e1];unfold minD;dsimp only;rw[Ec];dsimp only;rw[et];rfl
def j4p{st:zo}(v:Vs m L st):0<mu m L st:=by
 obtain⟨k,hk⟩:=iD _ v.ne;obtain⟨k1,k2⟩:=J6.mp hk;unfold mu;have:((aA (2^m)).map λ_=>0).sum<((aA (2^m)).map λk=>wt L (st.getD k 0)).sum:=Bd (λ_ _=>Xw _) ⟨k,Xc.mpr k1,by
  have:=v.bd k k1
  unfold wt;rw[if_neg k2];omega⟩
 omega
def j78(hw:ws.length=m)(hm:1<=m/\m<=3)(ha:a.length=2^m)(h01:∀x∈a,x=0\/x=1)(hL:0<=L/\L<=2):∀(f n:Nat)(st:zo),Vs m L st->mu m L st<=f->j3n a m L ws (3*f+4+n) st:=by
 intro f;induction f with
 |zero=>intro n st v h;have:=j4p v;omega
 |succ f ih =>
  intro n st v hf ks h1 h2;have lv:3*(f+1)+4+n=(3*f+n+6)+1:=by omega
  rw[lv];have es:evP 1000 G T (3*f+n+6) "is_settled" [j8 st,qD ws a]=.val (.bl (stl a m st)):=K5 (n:=3*f+n+1) hw hm ha h01 v.len v.ne;have key:∀ks',(Vn (evP 1000 G T (3*f+n+6)) G (.fill 1 4 (.call "is_settled" (.cons (.var 1) (.cons (.var 2) .nil))) "best_ask" (.cons (.var 1) (.cons (.var 2) (.cons (.var 3) .nil)))) ks (ks.map (NN a m L)) [.exc rfN,.val (j8 st),.val (qD ws a),.val (.int L),.un]=a8 (.int (NN a m L st),ks',ks'.map (NN a m L))) ->
    evP 1000 G T (3*f+n+6+1) "#number_filled_in" [Ow a m L ks,j8 st,qD ws a,.int L]=.dval (.int (NN a m L st)) ks' (ks'.map (NN a m L)):=λks' h=>by
   rw[jx (F:=Qi) (by rfl) rfl];simp only[Qi,V2,enter,Ow,Im];show fin (dxS (a8 (.val (.dct ks ((ks.map (NN a m L)).map D.int)))) λks ns=>Vn (evP 1000 G T (3*f+n+6)) G (.fill 1 4 (.call "is_settled" (.cons (.var 1) (.cons (.var 2) .nil))) "best_ask" (.cons (.var 1) (.cons (.var 2) (.cons (.var 3) .nil)))) ks ns [.exc rfN,.val (j8 st),.val (qD ws a),.val (.int L),.un])=_;rw[j3b h];rfl
  have hc:ev (evP 1000 G T (3*f+n+6)) G (.call "is_settled" (.cons (.var 1) (.cons (.var 2) .nil))) [.exc rfN,.val (j8 st),.val (qD ws a),.val (.int L),.un]=a8 (.v (.e (.bl (stl a m st)))):=by ext;rw[es];ext
  by_cases hin:st∈ks
  .refine⟨ks,key ks ?_,.refl h1 h2,hin⟩;rw[Wy];unfold Wc;rw[show([.exc rfN,.val (j8 st),.val (qD ws a),.val (.int L),.un]:En)[1]?=a8 (.val (.tup (st.map D.int)))from rfl];dsimp only;rw[vg];dsimp only;rw[if_pos ⟨by simp,by decide,by decide⟩,if_pos (by rw[Xx];exact hin),Uu hin];rfl
  .have hcn:ks.contains st=aa:=by
    cases z:ks.contains st with
    |false=>rfl
    |true=>exact absurd (Xx.mp z) hin
   have app:∀ks1,Gd a m L (mu m L st-1) (Bh m L st) ks ks1->(stl a m st=aa\/ks1=ks)->(stl a m st=aa->∀s∈unl m st,∀x:Int,(x=0\/x=1)->beh m L st s x∈ks1)->st∉ks1/\Gd a m L (mu m L st) (λk=>k=st) ks (ks1++[st])/\st∈ks1++[st]:=λks1 g hor cl=>by
    have nin:st∉ks1:=λz=>by
     rcases g.bd st z with q|q
     .exact hin q
     .have:=j4p v;omega
    refine⟨nin,⟨λk hk=>?_,?_,λk hk=>Xk _ (g.sub k hk),λk hk=>?_,λk hk=>?_,λk hk=>?_⟩,by simp⟩
    .rcases Xp.mp hk with z|z
     .exact g.vs k z
     .rw[xg.mp z];exact v
    .exact List.nodup_append.mpr ⟨g.nd,by simp,λx hx y hy e=>nin (by rw[xg.mp hy]at e;rw[<-e];exact hx)⟩
    .rcases Xp.mp hk with z|z
     .exact(g.bd k z).imp id λq=>by omega
     .rw[xg.mp z];exact .inr (xu _)
    .rcases Xp.mp hk with z|z
     .exact(g.cl k z).imp id λq e s hs x hx=>Xk _ (q e s hs x hx)
     .rw[xg.mp z];exact .inr λe s hs x hx=>Xk _ (cl e s hs x hx)
    .rcases Xp.mp hk with z|z
     .rcases hor with q|q
      .refine(g.pr k z).imp id λy=>.inr ?_;rcases y with y|y
       .exact⟨st,by simp,q,y⟩
       .exact y.sub λp hp=>Xk _ hp
      .rw[q]at z;exact .inl z
     .exact .inr (.inl (xg.mp z))
   cases hs:stl a m st with
   |true =>obtain⟨n1,g1,m1⟩:=app ks (.refl h1 h2) (.inr rfl) (λe=>by rw[hs]at e;cases e);refine⟨ks++[st],key _ ?_,g1,m1⟩;rw[Wy,hc];unfold Wc;rw[show([.exc rfN,.val (j8 st),.val (qD ws a),.val (.int L),.un]:En)[1]?=a8 (.val (.tup (st.map D.int)))from rfl];dsimp only;rw[vg];dsimp only;rw[if_pos ⟨by simp,by decide,by decide⟩,if_neg (by rw[hcn];exact xj),hs];simp only[Rk.st];rw[if_pos (j50 hm.2 hL.2 h1 h2),j0t hs,Xu,cU,j0t hs]
   |false =>
    obtain⟨ks1,t,_,_,e1,g,mm⟩:=j65 hw hm ha h01 hL v hs (X:=3*f+n) (λst' v' hlt=>by
     have:=ih n st' v' (by omega)
     rwa [show 3*f+4+n=3*f+n+4 by omega]at this) ks h1 h2
    obtain⟨n1,g1,m1⟩:=app ks1 g (.inl hs) λ_=>mm;have hc1:ks1.contains st=aa:=by
     cases z:ks1.contains st with
     |false=>rfl
     |true=>exact absurd (Xx.mp z) n1
    refine⟨ks1++[st],key _ ?_,g1,m1⟩;have ecl:zc (evP 1000 G T (3*f+n+6)) "best_ask" (ev (evP 1000 G T (3*f+n+6)) G (.cons (.var 1) (.cons (.var 2) (.cons (.var 3) .nil))) (([.exc rfN,.val (j8 st),.val (qD ws a),.val (.int L),.un]:En).set 4 (.val (.bl aa)))) ks (ks.map (NN a m L))=a8 (.tup [.int (J0 ((unl m st).map λs=>max (NN a m L (beh m L st s 0)) (NN a m L (beh m L st s 1)))),.int ((t:Nat):Int)],ks1,ks1.map (NN a m L)) :=
     Mq (rs:=[.e (j8 st),.e (qD ws a),.e (.int L)]) (ds:=[j8 st,qD ws a,.int L]) (by simp only[T5,T4];ext) (by rfl) (by rw[dqB];exact e1)
    rw[Wy,hc,ecl];unfold Wc;rw[show([.exc rfN,.val (j8 st),.val (qD ws a),.val (.int L),.un]:En)[1]?=a8 (.val (.tup (st.map D.int)))from rfl];dsimp only;rw[vg];dsimp only;rw[if_pos ⟨by simp,by decide,by decide⟩,if_neg (by rw[hcn];exact xj),hs];simp only[Rk.st];rw[if_pos ⟨hc1,j50 hm.2 hL.2 g.vs g.nd⟩,Xu,cU,j27 hL.1 v hs]
end
def gFL:G "FEWEST_LIES" = a8 (.int 0):=by rfl
def gML:G "MOST_LIES" = a8 (.int 2):=by rfl
def gMP:G "MOST_PLACES_WITH_LIES" = a8 (.int 3):=by rfl
def jbp {n m:Nat} {ws:List ar} {a:zo} {L:Int} (hw:ws.length=m) (hm:m<=3) (hL:0<=L/\L<=2):evP 1000 G T (n+1) "refuse_wrong_lies" [qD ws a,.int L]=.val .non:=by rw[jx (F:=Q9) (by rfl) rfl];simp only[Q9,J4,enter,qD];ext;simp only[gFL];ext;simp only[gML];ext;rw[at0];ext;simp only[gMP];ext
def ones:∀m:Fin 4,ay m.val (1:Int)=ju 2 m.val (((2^m.val-1:Nat)):Int):=by decide +kernel
def j8i {n m:Nat} (hm:1<=m/\m<=3):evP 1000 G T (n+3) "count_of_rows" [.int m]=.val (.int ((2^m:Nat):Int)):=by
 have p1:1<=2^m:=Pu (n:=2) (by decide) (Xw m);have pc:((2^m:Nat):Int)=(2:Int)^m:=by simp
 have rn:evP 1000 G T (n+2) "row_number" [j8 (ay m 1)]=.val (.int (((2^m-1:Nat)):Int)):=by have e:ay m (1:Int)=ju 2 m (((2^m-1:Nat)):Int):=ones ⟨m,by omega⟩;rw[e];exact Ce (n:=n) (by omega) (by omega)
 rw[jx (F:=Zb) (by rfl) rfl];simp only[Zb,Qf,enter];ext;rw[X8];simp only[j8,cV]at rn;rw[rn];ext;rw[show(((2^m-1:Nat)):Int)+1=((2^m:Nat):Int)by omega]
noncomputable def st0(m:Nat):zo:=ay (2^m) 0
def j2h {n m:Nat} {ws:List ar} {a:zo} {L:Int} (hw:ws.length=m) (hm:1<=m/\m<=3) (hL:0<=L/\L<=2):evP 1000 G T (n+4) "state_told" [qD ws a,.int L,.lst []]=.val (j8 (st0 m)):=by have lo:=jbp (n:=n+2) (a:=a) hw hm.2 hL;have cs:=j8i (n:=n) hm;have p8:=Z9 hm.2;have p1:1<=2^m:=Pu (n:=2) (by decide) (Xw m);rw[jx (F:=Vp) (by rfl) rfl];simp only[Vp,Z5,enter,qD]at lo ⊢;ext;rw[lo];ext;rw[at0];ext;rw[hw,cs];ext;rw[X8];simp only[j8,st0,cV];ext;simp only[Q6];ext
def Fb{m k:Nat}(hk:k<2^m):(st0 m).getD k 0=0:=by unfold st0;rw[km,iO,if_pos hk];rfl
def jkt{m:Nat}:lft m (st0 m)=aA (2^m):=by unfold lft;refine List.filter_eq_self.mpr λk hk=>?_;rw[Fb (Xc.mp hk)];rfl
def vs0{m:Nat}{L:Int}(hL:0<=L):Vs m L (st0 m) :=
 ⟨dr ..,λk hk=>by rw[Fb hk];omega,λz=>by
  rw[jkt]at z
  have:=congrArg bL z
  rw[Xe]at this
  have:0<2^m:=Nat.pow_pos (by decide)
  simp only[Pb]at *
  omega⟩
def mu0{m:Nat}{L:Int}(hm:m<=3)(hL:0<=L/\L<=2):mu m L (st0 m)<=24:=by
 unfold mu;have h1:((aA (2^m)).map λk=>wt L ((st0 m).getD k 0)).sum<=((aA (2^m)).map λ_=>3).sum:=Ky λk hk=>by rw[Fb (Xc.mp hk)];unfold wt;rw[if_neg (by decide)];omega
 have h2:((aA (2^m)).map λ_=>3).sum=2^m*3:=by rw[List.map_const',Xe,List.sum_replicate_nat]
 have:=Z9 hm;omega
def j2i {n m:Nat} {ws:List ar} {a:zo} {L:Int} (hw:ws.length=m) (hm:1<=m/\m<=3) (ha:a.length=2^m) (h01:∀x∈a,x=0\/x=1) (hL:0<=L/\L<=2):∃ks:List zo,ks.Nodup/\(∀k∈ks,mu m L k<=24)/\(∀k∈ks,k=st0 m\/Pd a m L ks k)/\st0 m∈ks/\(∀k∈ks,Vs m L k)/\(∀k∈ks,stl a m k=aa->∀s∈unl m k,∀x:Int,(x=0\/x=1)->beh m L k s x∈ks)/\evP 1000 G T (n+77) "lie_table" [qD ws a,.int L]=.val (.dct ks ((ks.map (NN a m L)).map D.int)):=by
 obtain⟨ks,e,gd,hin⟩:=j78 (ws:=ws) hw hm ha h01 hL 24 n (st0 m) (vs0 hL.1) (mu0 hm.2 hL) [] (λ_ h=>by cases h) d8;have e:evP 1000 G T (n+76) "#number_filled_in" [.dct [] (([]:zo).map D.int),j8 (st0 m),qD ws a,.int L]=.dval (.int (NN a m L (st0 m))) ks (ks.map (NN a m L)):=by rw[show 3*24+4+n=n+76 by omega]at e;exact e
 have t0:=j2h (n:=n+72) (a:=a) hw hm hL;refine⟨ks,gd.nd,λk hk=>Xd ((gd.bd k hk).resolve_left (by simp)) (mu0 hm.2 hL),λk hk=>(gd.pr k hk).resolve_left (by simp),hin,gd.vs,λk hk=>(gd.cl k hk).resolve_left (by simp),?_⟩;rw[jx (F:=Ym) (by rfl) rfl];simp only[Ym,Zx,enter,j1h];rw[Mq (rs:=[.e (j8 (st0 m)),.e (qD ws a),.e (.int L)]) (ds:=[j8 (st0 m),qD ws a,.int L]) ?_ (by rfl) (by rw[dqN];exact e)]
 .rfl
 .simp only[ay,gZ,i5,X6,cG,T5,T4];ext;have t0:evP 1000 G T (n+76) "state_told" [qD ws a,.int L,.lst []]=.val (j8 (st0 m)):=t0;rw[V7 (l:=[qD ws a,.int L,.lst []]) rfl,t0];ext
def j62{m s k:Nat}(hs:s<m):bt m s k=(k:Int)/2^(m-1-s)%2:=by unfold bt;rw[km,Zc hs];rfl
def j9b{m s:Nat}(hs:s<m):(1:Int)*2^((m:Int)-(s:Int)-1).toNat=2^(m-1-s):=by rw[eF,show((m:Int)-(s:Int)-1).toNat=m-1-s by omega]
def j9c{m s:Nat}(hm:m<=3):(0:Int)<2^(m-1-s)/\(2:Int)^(m-1-s)<=4:=by
 have:m-1-s=0\/m-1-s=1\/m-1-s=2:=by omega
 rcases this with e|e|e<;>rw[e]<;>decide
noncomputable def bhF(m:Nat)(L:Int)(st:zo)(s:Nat)(x:Int)(k:Nat):Int:=if bt m s k=x then st.getD k 0 else wal L (st.getD k 0)
def Rh {n m s:Nat} {st:zo} {x L:Int} (hm:1<=m/\m<=3) (hL:0<=L) (hst:st.length=2^m) (hb:∀k,k<2^m->-1<=st.getD k 0/\st.getD k 0<=L) (hs:s<m):evP 1000 G T (n+1) "_law_behind" [j8 st,.int L,.int m,.int s,.int x]=.val (j8 (beh m L st s x)):=by
 have p8:=Z9 hm.2;have sh:=j9b hs;have pl:=j9c (m:=m) (s:=s) hm.2;rw[jx (F:=Rp) (by rfl) rfl];simp only[Rp,U7,enter,j8];ext;rw[Rq,hst];refine Z8 (λi ρ=>∃s6 s7 s8,ρ=[.val (j8 st),.val (.int L),.val (.int m),.val (.int s),.val (.int x),.own (((aA i).map (bhF m L st s x)).map D.int),s6,s7,s8]) ⟨.un,.un,.un,rfl⟩ ?_ ?_
 .rintro i d ρ hi ⟨s6,s7,s8,rfl⟩;have hi':i<2^m:=by have:=(X4.mp hi).1;simpa using this
  rw[xn,Pg hi']at hi;cases hi;have bi:=hb i hi';have bd:=j62 (k:=i) hs;have b01:=j0n (k:=i) hs;have lr:(aA i).length=i:=Xe;simp only[jd0];refine⟨_,?_,.val (.int (i:Int)),.val (.int (st.getD i 0)),.val (.int (st.getD i 0+if bt m s i=x then 0 else 1)),rfl⟩;rw[kP,Xu,Xu,cU,cU,show bhF m L st s x i=(if bt m s i=x then st.getD i 0 else wal L (st.getD i 0))from rfl];generalize st.getD i 0=c at *;ext;rw[sh];ext;rw[<-bd];by_cases h:bt m s i=x
  .rw[if_pos h,if_pos h];ext;rw[if_neg xj,Int.add_zero];by_cases hc:c<0
   .ext;rw[if_pos (by first|rfl|trivial)];ext;rw[at1];ext;rw[show c = -1 by omega]
   .ext;rw[if_neg (by first|exact xj|decide)];ext;rw[at0];ext
  .rw[if_neg h,if_neg h];ext;rw[if_pos trivial];by_cases hc:c<0
   .ext;rw[if_pos (by first|rfl|trivial)];ext;rw[at1];ext;rw[show wal L c = -1 by unfold wal;rw[if_pos (.inl (by omega))]]
   .by_cases hd:c+1>L
    .ext;rw[if_pos (by first|rfl|trivial)];ext;rw[at1];ext;rw[show wal L c = -1 by unfold wal;rw[if_pos (.inr (by omega))]]
    .ext;rw[if_neg (by first|exact xj|decide)];ext;rw[at0];ext;rw[show wal L c=c+1 by unfold wal;rw[if_neg (by omega)]]
 .rintro ρ ⟨s6,s7,s8,rfl⟩;rw[xf,Xe];ext;rfl
theorem Du{i:Int}:∀l:zo,((l.map D.int).any λe=>deq e (.int i))=l.contains i
 |[]=>rfl
 |x::l=>by
  rw[X6,eE,Du l,j5g,fX];by_cases e:x=i
  .subst e;simp
  .rw[beq_false_of_ne (bE e)];simp[e]
def j0d{i:Int}{l:zo}:Qj .isin (.int i) (.lst (l.map D.int))=a8 (l.contains i):=by rw[<-Du];simp[Qj,D.sqv,D.dep,Rv]
def Lg{i:Int}{l:zo}:Qj .notin (.int i) (.lst (l.map D.int))=a8 (!l.contains i):=by rw[<-Du];simp[Qj,D.sqv,D.dep,Rv]
def j32 {n m:Nat} {st:zo} {L:Int} (hm:1<=m/\m<=3) (hst:st.length=2^m) (hb:∀k,k<2^m->-1<=st.getD k 0/\st.getD k 0<=L):evP 1000 G T (n+1) "_law_left" [j8 st]=.fresh ((lft m st).map λ(k:Nat)=>D.int (k:Int)):=by
 have p8:=Z9 hm.2;rw[jx (F:=Dl) (by rfl) rfl];simp only[Dl,Ms,enter,j8];ext;rw[Rq,hst];rw[qb (l:=(lft m st).map λ(k:Nat)=>D.int (k:Int)) (by rfl) (by rw[xf,Xe];omega) ?_ (.inl rfl)]
 .ext
 .unfold lft;refine Z4 λk hk=>O5 ?_ λ_=>by ext
  have bk:=hb k (Xc.mp hk);by_cases h:st.getD k 0 = -1
  .rw[decide_eq_false (by simpa using h)];ext
  .rw[decide_eq_true h];ext
noncomputable def unL(a:zo)(m:Nat)(st:zo):List Nat:=if stl a m st=ae then[]else unl m st
def j8s{m s:Nat}{st:zo}(hs:s<m):(((lft m st).map (bt m s)).contains 0&&((lft m st).map (bt m s)).contains 1)=decide (s∈unl m st):=by
 rw[cT,Xg,decide_eq_true_eq,Xx,Xx,Xj,Xj,Y7];constructor
 .rintro⟨⟨k,hk,e⟩,k',hk',e'⟩;exact⟨hs,k,hk,k',hk',by omega⟩
 .rintro⟨_,k,hk,k',hk',h⟩;have b1:=j0n (k:=k) hs;have b2:=j0n (k:=k') hs;by_cases e:bt m s k=0
  .exact⟨⟨k,hk,e⟩,k',hk',by omega⟩
  .exact⟨⟨k',hk',by omega⟩,k,hk,by omega⟩
def j29{m:Nat}{st:zo}:unl m st=(aA m).filter λs=>decide (s∈unl m st):=by
 have h:∀s∈aA m,(decide (s∈unl m st))=((lft m st).any λk=>decide (bt m s k≠bt m s ((lft m st).headD 0))):=λs hs=>by rw[cT,decide_eq_true_eq];unfold unl;rw[Pn];exact⟨λz=>z.2,λz=>⟨hs,z⟩⟩
 rw[List.filter_congr h];rfl
def Rb{n m:Nat}{ws:List ar}{a st:zo}{L:Int}(hw:ws.length=m)(hm:1<=m/\m<=3)(ha:a.length=2^m)(hst:st.length=2^m)(hb:∀k,k<2^m->-1<=st.getD k 0/\st.getD k 0<=L) :
  evP 1000 G T (n+2) "_law_unlike" [qD ws a,j8 st]=.fresh ((unL a m st).map λ(s:Nat)=>D.int (s:Int)):=by
 have p8:=Z9 hm.2;have ll:=Fy (m:=m) (st:=st);have lf:evP 1000 G T (n+1) "_law_left" [j8 st]=.fresh ((lft m st).map λ(k:Nat)=>D.int (k:Int)):=j32 hm hst hb;rw[jx (F:=Rn) (by rfl) rfl];simp only[Rn,U5,enter,qD];ext;rw[at0];ext;rw[lf];ext;rw[qb (l:=(vq a m st).map D.int) (by rfl) (by rw[xf];omega) ?_ (.inr (Z1 _))];rotate_left
 .unfold vq;rw[Xf];refine jw λk hk=>zq (by ext) ?_;ext;rw[at1];ext;rw[j37 (by have:=Et hk;omega)];ext;rfl
 ext;rw[Lg];have bTail:∀s6,fin (run 1000 (evP 1000 G T (n+1)) G (.seq (.set 6 (.lst .nil)) (.seq (.loop [7] (.range (.cons (.var 2) .nil)) (.seq (.set 8 (.comp [5] (.bin .mod (.bin .fdiv (.var 5) (.bin .shl (.lit (.int 1)) (.bin .sub (.bin .sub (.var 2) (.var 7)) (.lit (.int 1))))) (.lit (.int 2))) (.seq (.var 3)) .nil)) (.seq (.ife (.and (.cmp .isin (.lit (.int 0)) (.var 8)) (.cmp .isin (.lit (.int 1)) (.var 8))) (.seq (.app 6 (.var 7)) .nop) .nop) .nop))) (.seq (.retV 6) .nop)))
   [.val (.tup [.tup (ws.map D.str),.tup (a.map D.int)]),.val (j8 st),.val (.int m),.own ((lft m st).map λ(k:Nat)=>D.int (k:Int)),.own ((vq a m st).map D.int),.un,s6,.un,.un])=.fresh ((unl m st).map λ(s:Nat)=>D.int (s:Int)):=λs6=>by
  ext;refine Z8 (λi ρ=>∃s7 s8,ρ=[.val (.tup [.tup (ws.map D.str),.tup (a.map D.int)]),.val (j8 st),.val (.int m),.own ((lft m st).map λ(k:Nat)=>D.int (k:Int)),.own ((vq a m st).map D.int),.un,.own (((aA i).filter λs=>decide (s∈unl m st)).map λ(s:Nat)=>D.int (s:Int)),s7,s8]) ⟨.un,.un,rfl⟩ ?_ ?_
  .rintro i d ρ hi ⟨s7,s8,rfl⟩;have hi':i<m:=by have:=(X4.mp hi).1;simpa [upto]using this
   have ed:d=.int (i:Int):=by simp only[upto]at hi;rw[xn,Pg (by omega)]at hi;have:=ax hi;rw[<-this];simp
   subst ed;have sh:=j9b hi';have pl:=j9c (m:=m) (s:=i) hm.2;have bi:=j8s (st:=st) hi';have fl:=Xd (Td (λs=>decide (s∈unl m st)) (aA i)) (mC Xe);simp only[Zh];ext;rw[qb (l:=((lft m st).map (bt m i)).map D.int) (by rfl) (by rw[xf];omega) ?_ (.inr (Z1 _))];rotate_left
   .rw[Xf];refine jw λk hk=>zq (by ext) ?_;ext;rw[sh];ext;rw[<-j62 hi'];rfl
   ext;rw[j0d];refine⟨_,?_,.val (.int (i:Int)),.own (((lft m st).map (bt m i)).map D.int),rfl⟩;rw[kP,fW,Xu];cases h0:((lft m st).map (bt m i)).contains 0 with
   |false =>rw[h0,l9]at bi;rw[cX (by rw[<-bi];exact xj),i6,cG,Xy];ext
   |true =>
    rw[h0,lE]at bi;ext;rw[j0d,bi];cases h1:decide (i∈unl m st) with
    |false =>rw[cX (by rw[h1];exact xj),i6,cG,Xy];ext
    |true =>rw[eP (by rw[h1]),i6,cU];ext
  .rintro ρ ⟨s7,s8,rfl⟩;rw[show(upto 0 (m:Int).toNat).length=m by simp[upto],<-j29];ext
 have es:stl a m st = !((vq a m st).contains 0&&(vq a m st).contains 1):=rfl;cases h0:(vq a m st).contains 0 with
 |false =>rw[h0]at es;ext;unfold unL;rw[if_pos (by rw[es];rfl)];rfl
 |true =>
  ext;rw[Lg];cases h1:(vq a m st).contains 1 with
  |false =>rw[h0,h1]at es;ext;unfold unL;rw[if_pos (by rw[es];rfl)];rfl
  |true =>rw[h0,h1]at es;unfold unL;rw[if_neg (by rw[es];decide)];rw[hw];refine Eq.trans ?_ (bTail .un);ext
noncomputable def unI(a:zo)(m:Nat)(s:zo):zo:=(unL a m s).map λ(p:Nat)=>(p:Int)
noncomputable def bhI(m:Nat)(L:Int)(s:zo)(p x:Int):zo:=beh m L s p.toNat x
section
variable{a:zo}{m:Nat}{L:Int}
def Y8{s:zo}{p:Nat}:p∈unL a m s↔stl a m s=aa/\p∈unl m s:=by unfold unL;cases h:stl a m s<;>simp
def j67{s k:zo}:k∈bK (unI a m) (bhI m L) s (unI a m s) ↔ ∃sp∈unL a m s,∃x:Int,(x=0\/x=1)/\k=beh m L s sp x:=by
 unfold bK unI;rw[List.mem_flatMap];constructor
 .rintro⟨p,hp,hk⟩;obtain⟨sp,hs,rfl⟩:=Xj.mp hp;rcases xq.mp hk with z|z
  .exact⟨sp,hs,0,.inl rfl,by rw[z];unfold bhI;rw[X8]⟩
  .exact⟨sp,hs,1,.inr rfl,by rw[xg.mp z];unfold bhI;rw[X8]⟩
 .rintro⟨sp,hs,x,hx,rfl⟩;refine⟨(sp:Int),Tg (f:=λ(p:Nat)=>(p:Int)) hs,?_⟩;unfold bhI;rw[X8];rcases hx with z|z<;>subst z<;>simp
def Rch(a:zo)(m:Nat)(L:Int)(k:zo):Prop:=∀P:zo->Prop,P (st0 m)->(∀p,P p->∀sp∈unL a m p,∀x:Int,(x=0\/x=1)->P (beh m L p sp x))->P k
def Cls(a:zo)(m:Nat)(L:Int)(met:List zo)(k:zo):Prop:=∀sp∈unL a m k,∀x:Int,(x=0\/x=1)->beh m L k sp x∈met
structure Rf(a:zo)(m:Nat)(L:Int)(S:zo->Prop)(p:List zo×List zo):Prop where
 nd:p.2.Nodup
 vs:∀k∈p.2,Vs m L k
 ws:∀k∈p.1,k∈p.2
 cl:∀k∈p.2,k∈p.1\/S k\/Cls a m L p.2 k
 rc:∀k∈p.2,Rch a m L k
 st:st0 m∈p.2
theorem j03:∀{l:List zo} {p:List zo×List zo},∀k∈l,k∈(l.foldl jt p).2
 |[],_,k,h=>nomatch h
 |x::l,p,k,h=>by
  rw[Pq];rcases xq.mp h with z|z
  .refine(Wb (l:=l) (p:=jt p x)).subset ?_;rw[z];unfold jt;split
   .rename_i q;exact Xx.mp q
   .simp
  .exact j03 k z
noncomputable def pot(N:Nat)(p:List zo×List zo):Nat:=2*(N-p.2.length)+p.1.length
def Iu{S:zo->Prop}{p:List zo×List zo}(hL:L<=2)(h:Rf a m L S p):p.2.length<=4^(2^m):=by
 have:=Yh (S:=stS (2^m)) h.nd λk hk=>Fw (h.vs k hk).len λx hx=>by obtain⟨i,hi,e⟩:=dH hx;have:=(h.vs k hk).bd i (by have:=(h.vs k hk).len;omega);rw[km,kh hi,Te,e]at this;omega
 rwa [Nz]at this
def jdy{S:zo->Prop}{p:List zo×List zo}{k:zo}(hL:L<=2)(h:Rf a m L S p)(v:Vs m L k)(r:Rch a m L k):Rf a m L S (jt p k)/\pot (4^(2^m)) (jt p k)<=pot (4^(2^m)) p:=by
 unfold jt;split
 .exact⟨h,xu _⟩
 .rename_i hc;have hn:k∉p.2:=λz=>hc (Xx.mpr z);have f:Rf a m L S (p.1++[k],p.2++[k]):=by
   refine⟨List.nodup_append.mpr ⟨h.nd,by simp,λx hx y hy e=>hn (by rw[xg.mp hy]at e;rw[<-e];exact hx)⟩,λx hx=>?_,λx hx=>?_,λx hx=>?_,λx hx=>?_,Xk _ h.st⟩
   .rcases Xp.mp hx with z|z
    .exact h.vs x z
    .rw[xg.mp z];exact v
   .rcases Xp.mp hx with z|z
    .exact Xk _ (h.ws x z)
    .exact Xb _ z
   .rcases Xp.mp hx with z|z
    .rcases h.cl x z with y|y|y
     .exact .inl (Xk _ y)
     .exact .inr (.inl y)
     .exact .inr (.inr λsp hs x hx=>Xk _ (y sp hs x hx))
    .exact .inl (Xb _ z)
   .rcases Xp.mp hx with z|z
    .exact h.rc x z
    .rw[xg.mp z];exact r
  refine⟨f,?_⟩;have:=Iu hL f;unfold pot;simp only[Xh,X7,Pb]at this ⊢;omega
theorem j1j{S:zo->Prop}(hL:L<=2):∀{l:List zo} {p:List zo×List zo},Rf a m L S p->(∀k∈l,Vs m L k/\Rch a m L k)->Rf a m L S (l.foldl jt p)/\pot (4^(2^m)) (l.foldl jt p)<=pot (4^(2^m)) p
 |[],_,h,_=>⟨h,xu _⟩
 |k::l,p,h,q=>by rw[Pq];obtain⟨h1,h2⟩:=jdy (k:=k) hL h (q k (xr ..)).1 (q k (xr ..)).2;obtain⟨h3,h4⟩:=j1j hL h1 λx hx=>q x (xm _ hx);exact⟨h3,Xd h4 h2⟩
def Fo(hL:0<=L/\L<=2){w0 met:List zo}{s:zo}(h:Rf a m L (λ_=>False) (w0++[s],met)):Rf a m L (λ_=>False) ((bK (unI a m) (bhI m L) s (unI a m s)).foldl jt (w0,met))/\pot (4^(2^m)) ((bK (unI a m) (bhI m L) s (unI a m s)).foldl jt (w0,met))<=pot (4^(2^m)) (w0,met):=by
 have hs:s∈met:=h.ws s (by simp);have v:=h.vs s hs;have r:=h.rc s hs;have f0:Rf a m L (λk=>k=s) (w0,met):=⟨h.nd,h.vs,λk hk=>h.ws k (Xk _ hk),λk hk=>by
  rcases h.cl k hk with y|y|y
  .rcases Xp.mp y with z|z
   .exact .inl z
   .exact .inr (.inl (xg.mp z))
  .exact y.elim
  .exact .inr (.inr y),h.rc,h.st⟩
 obtain⟨g,po⟩:=j1j (l:=bK (unI a m) (bhI m L) s (unI a m s)) hL.2 f0 λk hk=>by obtain⟨sp,hsp,x,hx,rfl⟩:=j67.mp hk;exact⟨(v.beh hL.1 (Y8.mp hsp).2 hx).1,λP p0 pc=>pc s (r P p0 pc) sp hsp x hx⟩
 refine⟨⟨g.nd,g.vs,g.ws,λk hk=>?_,g.rc,g.st⟩,po⟩;rcases g.cl k hk with y|y|y
 .exact .inl y
 .exact .inr (.inr (by rw[y];exact λsp hsp x hx=>j03 _ (j67.mpr ⟨sp,hsp,x,hx,rfl⟩)))
 .exact .inr (.inr y)
def Dr{un:zo->zo}{bh:zo->Int->Int->zo}{f:Nat}{w0 met:List zo}{s:zo}:bfs un bh (f+1) (w0++[s]) met=bfs un bh f ((bK un bh s (un s)).foldl jt (w0,met)).1 ((bK un bh s (un s)).foldl jt (w0,met)).2:=by rw[bfs];simp only[List.getLast?_concat,jD]
def snoc{α:Type}:∀w:List α,w=[]\/∃w0 s,w=w0++[s]:=λw=>by
 by_cases h:w=[]
 .exact .inl h
 .exact .inr ⟨w.dropLast,w.getLast h,(i7 h).symm⟩
theorem j25(hL:0<=L/\L<=2):∀(f:Nat)(w met:List zo),Rf a m L (λ_=>False) (w,met)->pot (4^(2^m)) (w,met)<f->∃out,bfs (unI a m) (bhI m L) f w met=a8 out
 |0,_,_,_,h=>absurd h (l5 _)
 |f+1,w,met,h,hp=>by
  rcases snoc w with rfl|⟨w0,s,rfl⟩
  .exact⟨met,rfl⟩
  .obtain⟨g,po⟩:=Fo hL h;rw[Dr];refine j25 hL f _ _ g (cW po ?_);unfold pot at hp ⊢;simp only[Xh,X7,Pb]at hp ⊢;omega
theorem j24(hL:0<=L/\L<=2):∀(f:Nat)(w met out:List zo),Rf a m L (λ_=>False) (w,met)->bfs (unI a m) (bhI m L) f w met=a8 out->Rf a m L (λ_=>False) ([],out)
 |0,_,_,_,_,h=>by cases h
 |f+1,w,met,out,h,hb=>by
  rcases snoc w with rfl|⟨w0,s,rfl⟩
  .cases(show a8 met=a8 out from hb);exact h
  .rw[Dr]at hb;exact j24 hL f _ _ out (Fo hL h).1 hb
theorem j0p{un':zo->zo}{bh':zo->Int->Int->zo}(hL:0<=L/\L<=2):∀(f:Nat)(w met out:List zo),Rf a m L (λ_=>False) (w,met)->bfs un' bh' f w met=a8 out->(∀s∈out,Vs m L s->un' s=unI a m s/\∀p∈un' s,∀x:Int,(x=0\/x=1)->bh' s p x=bhI m L s p x)->Rf a m L (λ_=>False) ([],out)
 |0,_,_,_,_,h,_=>by cases h
 |f+1,w,met,out,h,hb,hs=>by
  rcases snoc w with rfl|⟨w0,s,rfl⟩
  .cases(show a8 met=a8 out from hb);exact h
  .have hm':s∈met:=h.ws s (by simp);have hin:s∈out:=(Mr hb).subset hm';obtain⟨e1,e2⟩:=hs s hin (h.vs s hm');rw[Dr]at hb;have ek:bK un' bh' s (un' s)=bK (unI a m) (bhI m L) s (unI a m s):=by rw[<-e1];unfold bK;rw[kz,kz];congr 1;refine Tt λp hp=>?_;rw[e2 p hp 0 (.inl rfl),e2 p hp 1 (.inr rfl)]
   rw[ek]at hb;exact j0p hL f _ _ out (Fo hL h).1 hb hs
end
def rf0{a:zo}{m:Nat}{L:Int}(hL:0<=L):Rf a m L (λ_=>False) ([st0 m],[st0 m]) :=
 ⟨by simp,λk hk=>by rw[xg.mp hk];exact vs0 hL,λk hk=>hk,λk hk=>.inl hk,λk hk=>by rw[xg.mp hk];exact λP p0 _=>p0,by simp⟩
noncomputable abbrev kC:Ex:=(.cmp .gt (.blt .len (.cons (.var 5) .nil)) (.lit (.int 0)))
noncomputable abbrev kU:Ex:=(.seq (.call "_law_unlike" (.cons (.var 0) (.cons (.var 6) .nil))))
noncomputable abbrev kL:Ex:=(.seq (.lst (.cons (.lit (.int 0)) (.cons (.lit (.int 1)) .nil))))
noncomputable abbrev kB:Ex:=(.call "_law_behind" (.cons (.var 6) (.cons (.var 1) (.cons (.var 2) (.cons (.var 7) (.cons (.var 8) .nil))))))
section
variable{n m:Nat}{ws:List ar}{a:zo}{L:Int}{start s:zo}{w:List zo}{s6 s7 s8 s9:Sv}
def jir(h:w.length<=100000):truth (ev (evP 1000 G T n) G kC (stR (.val (qD ws a)) (.val (.int L)) (.val (.int m)) start w s6 s7 s8 s9))=a8 (decide (0<w.length)):=by
 by_cases hw:0<w.length
 .rw[decide_eq_true hw];ext
 .rw[decide_eq_false hw];ext
def ja9:(unL a m s).map (λ(p:Nat)=>D.int (p:Int))=(unI a m s).map D.int:=by unfold unI;rw[Xf];rfl
def j9o(hw:ws.length=m)(hm:1<=m/\m<=3)(ha:a.length=2^m)(v:Vs m L s):ev (evP 1000 G T (n+2)) G kU (stR (.val (qD ws a)) (.val (.int L)) (.val (.int m)) start w (.val (tI s)) s7 s8 s9)=a8 (.i ((unI a m s).map D.int)):=by have u:=Rb (n:=n) (L:=L) hw hm ha v.len v.bd;rw[<-ja9];have u:evP 1000 G T (n+2) "_law_unlike" [qD ws a,tI s]=_:=u;generalize qD ws a=q at *;ext;rw[u];ext
def jiq:ev (evP 1000 G T n) G kL (stR (.val (qD ws a)) (.val (.int L)) (.val (.int m)) start w s6 s7 s8 s9)=a8 (.i [.int 0,.int 1]):=by generalize qD ws a=q at *;ext
def j9p{sp:Nat}{x:Int}(hm:1<=m/\m<=3)(hL:0<=L)(v:Vs m L s)(hs:sp<m):ev (evP 1000 G T (n+1)) G kB (stR (.val (qD ws a)) (.val (.int L)) (.val (.int m)) start w (.val (tI s)) (.val (.int (sp:Int))) (.val (.int x)) s9)=a8 (.v (.e (tI (bhI m L s (sp:Int) x)))):=by have b:=Rh (n:=n) (x:=x) hm hL v.len v.bd hs;have b:evP 1000 G T (n+1) "_law_behind" [tI s,.int L,.int m,.int sp,.int x]=.val (tI (beh m L s sp x)):=b;generalize qD ws a=q at *;ext;rw[j0l,b];unfold bhI;rw[X8];ext
end
theorem W8:∀{l l':zo},l.map D.int=l'.map D.int->l=l'
 |[],[],_=>rfl
 |[],_::_,h=>by cases h
 |_::_,[],h=>by cases h
 |x::l,y::l',h=>by rw[X6,X6]at h;injection h with h1 h2;injection h1 with h1;rw[h1,W8 h2]
def j0w {n m:Nat} {ws:List ar} {a:zo} {L:Int} (hw:ws.length=m) (hm:1<=m/\m<=3) (ha:a.length=2^m) (hL:0<=L/\L<=2):∃out,Rf a m L (λ_=>False) ([],out)/\evP 1000 G T (n+3) "_law_states" [qD ws a,.int L]=.val (.dct out (out.map λ_=>D.bl ae)):=by
 obtain⟨out0,hb0⟩:=j25 (a:=a) hL _ [st0 m] [st0 m] (rf0 hL.1) (Ti _);have rf:=j24 hL _ _ _ _ (rf0 hL.1) hb0;have p8:=Z9 hm.2;have p1:1<=2^m:=Pu (n:=2) (by decide) (Xw m);have pc:((2^m:Nat):Int)=(2:Int)^m:=by simp
 have ol:out0.length<=100000:=by
  have h1:=Iu hL.2 rf;have h2:4^(2^m)<=4^8:=Pu (by decide) p8;have e:(4:Nat)^8=65536:=by decide
  have h1:out0.length<=4^(2^m):=h1;omega
 have sm:∀{s:zo}{p:Int},p∈unI a m s->∃sp:Nat,p=(sp:Int)/\sp<m:=λ{s p} hp=>by obtain⟨sp,hsp,rfl⟩:=Xj.mp hp;exact⟨sp,rfl,(Y7.mp (Y8.mp hsp).2).1⟩
 have ex:∃out,StC (evP 1000 G T (n+2)) G kC kU kL kB [.val (qD ws a),.val (.int L),.val (.int m),.val (tI (st0 m)),.un,.un,.un,.un,.un,.un] out:=by refine⟨out0,_,_,_,st0 m,unI a m,bhI m L,_,rfl,hb0,ol,λw s6 s7 s8 s9 h=>jir h,λs hs w s7 s8 s9=>⟨j9o hw hm ha (rf.vs s hs),λp hp=>⟨λw s8 s9=>jiq,λan han w s9=>?_⟩⟩⟩;obtain⟨sp,rfl,hlt⟩:=sm hp;exact j9p (n:=n+1) hm hL.1 (rf.vs s hs) hlt
 refine⟨ex.choose,?_,?_⟩
 .obtain⟨s0,s1,s2,start,un',bh',f',er,hb,hlen,k1,k2⟩:=ex.choose_spec;injection er with r0 er;injection er with r1 er;injection er with r2 er;injection er with r3 er;subst r0 r1 r2;have es:start=st0 m:=by injection r3 with r3;injection r3 with r3;exact(W8 r3).symm
  subst es;refine j0p hL f' _ _ _ (rf0 hL.1) hb λs hs v=>?_;have q1:=(k2 s hs [] .un .un .un).1;rw[j9o hw hm ha v]at q1;have e1:un' s=unI a m s:=by injection q1 with q1;injection q1 with q1;exact(W8 q1).symm
  refine⟨e1,λp hp x hx=>?_⟩;have q2:=((k2 s hs [] .un .un .un).2 p hp).2 x hx [] .un;rw[e1]at hp;obtain⟨sp,rfl,hlt⟩:=sm hp;rw[j9p (n:=n+1) hm hL.1 v hlt]at q2;injection q2 with q2;injection q2 with q2;injection q2 with q2;injection q2 with q2;exact(W8 q2).symm
 .rw[jx (F:=Ro) (by rfl) rfl];simp only[Ro,U6,enter];have eq0:qD ws a=.tup [.tup (ws.map D.str),.tup (a.map D.int)]:=rfl;generalize hx:ex.choose=out;have go:stG kC kU kL kB 1000 (evP 1000 G T (n+2)) G [.val (qD ws a),.val (.int L),.val (.int m),.val (tI (st0 m)),.un,.un,.un,.un,.un,.un]=.ret (.val (.dct out (out.map λ_=>D.bl ae))):=by unfold stG;rw[dif_pos ex,hx]
  rw[eq0]at go ⊢;ext;rw[at0];ext;rw[hw,show(1:Int)*2^(m:Int).toNat=((2^m:Nat):Int)by rw[X8,pc,eF],j49 (by omega),X8,show ay (2^m) (D.int 0)=(st0 m).map D.int by rw[st0,cV]];ext;rw[go];rfl
def j7b{f:Nat->Int}:∀{l:List Nat},l≠[]->J0 (l.map λs=>1+f s)=1+J0 (l.map f):=λ{l} h=>by have h1:=Oh (ns:=l.map f) (by simpa using h);obtain⟨s,hs,e⟩:=Xj.mp h1.1;refine Fv (Xj.mpr ⟨s,hs,by rw[e]⟩) λb hb=>?_;obtain⟨t,ht,rfl⟩:=Xj.mp hb;have:=h1.2 (f t) (Tg ht);omega
section
variable{n m:Nat}{ws:List ar}{a:zo}{L:Int}{ks:List zo}{st:zo}
noncomputable def gB(a:zo)(m:Nat)(L:Int)(st:zo)(s:Nat):Int:=1+max (NN a m L (beh m L st s 0)) (NN a m L (beh m L st s 1))
def jhi(hm:1<=m/\m<=3)(ha:a.length=2^m)(h01:∀x∈a,x=0\/x=1)(hL:0<=L)(v:Vs m L st):J0 ((unL a m st).map (gB a m L st))=NN a m L st:=by
 unfold unL;cases h:stl a m st with
 |true =>rw[if_pos rfl,j0t h];rfl
 |false =>rw[if_neg (by simp),j27 hL v h];exact j7b (j3v hm.2 ha h01 h)
def j2p(hw:ws.length=m)(hm:1<=m/\m<=3)(ha:a.length=2^m)(h01:∀x∈a,x=0\/x=1)(hL:0<=L/\L<=2)(v:Vs m L st)(hk:st∈ks)(hc:∀s∈unL a m st,∀x:Int,(x=0\/x=1)->beh m L st s x∈ks) :
  evP 1000 G T (n+3) "_law_right" [qD ws a,.int L,.dct ks ((ks.map (NN a m L)).map D.int),j8 st]=.val (.bl ae):=by
 have u:=Rb (n:=n) (L:=L) hw hm ha v.len v.bd;have ul:(unL a m st).length<=3:=by
  unfold unL;split
  .simp
  .unfold unl;refine Xd (Td ..) ?_;rw[Xe];exact hm.2
 have sl:∀s∈unL a m st,s<m:=λs hs=>(Y7.mp (Y8.mp hs).2).1;have ss:=λz:Int=>Cd (fu:=1000) (G:=G) (n:=n+1) (show T "_law_same" = a8 KL.fL_same by rfl) 0 (x:=.int z) (by simp[D.dep]) (by simp[Q7]);rw[jx (F:=Oq) (by rfl) rfl];simp only[Oq,Wn,enter];unfold qD at u ⊢;ext;rw[at0];ext;rw[hw,u];ext;refine Z8 (λi ρ=>∃s6 s7,ρ=[.val (.tup [.tup (ws.map D.str),.tup (a.map D.int)]),.val (.int L),.val (.dct ks ((ks.map (NN a m L)).map D.int)),.val (j8 st),.val (.int m),.own ((((unL a m st).take i).map (gB a m L st)).map D.int),s6,s7,.un]) ⟨.un,.un,rfl⟩ ?_ ?_
 .rintro i d ρ hi ⟨s6,s7,rfl⟩;obtain⟨s,hs,rfl⟩:=V5 hi;have hsm:=Xl hs;have hlt:=sl s hsm;have i3:i<(unL a m st).length:=(X4.mp hs).1;have b:=λx:Int=>Rh (n:=n+1) (x:=x) hm hL.1 v.len v.bd hlt;have c0:ks.contains (beh m L st s 0)=ae:=Xx.mpr (hc s hsm 0 (.inl rfl));have c1:ks.contains (beh m L st s 1)=ae:=Xx.mpr (hc s hsm 1 (.inr rfl));have d0:=Uu (f:=NN a m L) (hc s hsm 0 (.inl rfl));have d1:=Uu (f:=NN a m L) (hc s hsm 1 (.inr rfl));simp only[Zh];ext;rw[qb (l:=[j8 (beh m L st s 0),j8 (beh m L st s 1)]) (by rfl) (by decide) ?_ (.inl rfl)];rotate_left
  .have:∀x:Int,Ji [8] (ev (evP 1000 G T (n+2)) G .nil) (ev (evP 1000 G T (n+2)) G (.call "_law_behind" (.cons (.var 3) (.cons (.var 1) (.cons (.var 4) (.cons (.var 6) (.cons (.var 8) .nil))))))) [.val (.tup [.tup (ws.map D.str),.tup (a.map D.int)]),.val (.int L),.val (.dct ks ((ks.map (NN a m L)).map D.int)),.val (j8 st),.val (.int m),.own ((((unL a m st).take i).map (gB a m L st)).map D.int),.val (.int (s:Int)),s7,.un] (.int x)=a8 (a8 (j8 (beh m L st s x))):=λx=>by refine zq (by ext) ?_;ext;rw[j0l,b];ext
   have z:=jw (f:=Ji [8] (ev (evP 1000 G T (n+2)) G .nil) (ev (evP 1000 G T (n+2)) G (.call "_law_behind" (.cons (.var 3) (.cons (.var 1) (.cons (.var 4) (.cons (.var 6) (.cons (.var 8) .nil))))))) [.val (.tup [.tup (ws.map D.str),.tup (a.map D.int)]),.val (.int L),.val (.dct ks ((ks.map (NN a m L)).map D.int)),.val (j8 st),.val (.int m),.own ((((unL a m st).take i).map (gB a m L st)).map D.int),.val (.int (s:Int)),s7,.un]) (h:=λx:Int=>D.int x) (g:=λx:Int=>j8 (beh m L st s x)) (L:=[0,1]) λx _=>this x;exact z
  ext;rw[at0];ext;rw[c0];ext;rw[at1];ext;rw[c1];ext;rw[at0];ext;rw[Dn d0];ext;rw[at1];ext;rw[Dn d1];ext;have mx:(if NN a m L (beh m L st s 1)>NN a m L (beh m L st s 0)then NN a m L (beh m L st s 1)else NN a m L (beh m L st s 0))=max (NN a m L (beh m L st s 0)) (NN a m L (beh m L st s 1)):=by split<;>omega
  rw[mx];refine⟨_,rfl,.val (.int (s:Int)),.own [j8 (beh m L st s 0),j8 (beh m L st s 1)],?_⟩;rw[l6,hs,Xu,Xu];rfl
 .rintro ρ' ⟨s6,s7,rfl⟩;rw[xf,Tj];ext;have ss:=ss (NN a m L st);rw[Dn (Uu (f:=NN a m L) hk),jhi hm ha h01 hL.1 v];ext;rw[ss];ext
end
def j6r{ks out:List zo}(h1:ks.Nodup)(h2:out.Nodup)(h3:∀k∈ks,k∈out)(h4:∀k∈out,k∈ks):ks.length=out.length:=Nat.le_antisymm (Yh h1 h3) (Yh h2 h4)
def j6p {n:Nat} {k:zo} (h:k.length<=1000):evP 1000 G T (n+2) "_law_same" [j8 k,j8 k]=.val (.bl ae) :=
 Cd (fu:=1000) (G:=G) (n:=n) (show T "_law_same" = a8 KL.fL_same by rfl) 1 (x:=j8 k) (by simp only[j8,D.dep];rw[Rv];omega) (j4x h)
structure Tb(a:zo)(m:Nat)(L:Int)(ks:List zo):Prop where
 nd:ks.Nodup
 mu:∀k∈ks,mu m L k<=24
 pr:∀k∈ks,k=st0 m\/Pd a m L ks k
 st:st0 m∈ks
 vs:∀k∈ks,Vs m L k
 cl:∀k∈ks,stl a m k=aa->∀s∈unl m k,∀x:Int,(x=0\/x=1)->beh m L k s x∈ks
section
variable{n m:Nat}{ws:List ar}{a:zo}{L:Int}{ks out:List zo}
theorem Tb.rch(hL:0<=L)(h:Tb a m L ks):∀(f:Nat)(k:zo),24-K46.mu m L k<=f->k∈ks->Rch a m L k
 |f,k,hf,hk=>by
  rcases h.pr k hk with z|⟨p,hp,hs,s,hsu,x,hx,e⟩
  .rw[z];exact λP p0 _=>p0
  .have hb:=(h.vs p hp).beh hL hsu hx;have m1:=h.mu p hp;rw[<-e]at hb
   match f,hf with
   |0,hf=>omega
   |f+1,hf =>have r:=Tb.rch hL h f p (by omega) hp;exact λP p0 pc=>by rw[e];exact pc p (r P p0 pc) s (Y8.mpr ⟨hs,hsu⟩) x hx
def Tb.clL(h:Tb a m L ks){k:zo}(hk:k∈ks):∀s∈unL a m k,∀x:Int,(x=0\/x=1)->beh m L k s x∈ks:=λs hs x hx=>h.cl k hk (Y8.mp hs).1 s (Y8.mp hs).2 x hx
def Tb.len(hL:0<=L)(h:Tb a m L ks)(r:Rf a m L (λ_=>False) ([],out)):ks.length=out.length/\∀k∈out,k∈ks:=by
 have h1:∀k∈out,k∈ks:=λk hk=>r.rc k hk (λk=>k∈ks) h.st λp hp sp hsp x hx=>h.clL hp sp hsp x hx;refine⟨j6r h.nd r.nd (λk hk=>?_) h1,h1⟩;refine h.rch hL _ k (xu _) hk (λk=>k∈out) r.st λp hp sp hsp x hx=>?_;rcases r.cl p hp with z|z|z
 .cases z
 .exact z.elim
 .exact z sp hsp x hx
def Yj (hw:ws.length=m) (hm:1<=m/\m<=3) (ha:a.length=2^m) (h01:∀x∈a,x=0\/x=1) (hL:0<=L/\L<=2) (t:Tb a m L ks):evP 1000 G T (n+4) "_law_is_table" [qD ws a,.int L,.dct ks ((ks.map (NN a m L)).map D.int)]=.val (.bl ae):=by
 obtain⟨out,rf,es⟩:=j0w (n:=n) hw hm ha hL;obtain⟨len,sub⟩:=t.len hL.1 rf;have p8:=Z9 hm.2;have rr:=λk (hk:k∈out)=>j2p (n:=n) hw hm ha h01 hL (t.vs k (sub k hk)) (sub k hk) (t.clL (sub k hk));have kl:ks.length<=65536:=by
  have h1:=Iu hL.2 rf;have h2:4^(2^m)<=4^8:=Pu (by decide) p8;have e:(4:Nat)^8=65536:=by decide
  have h1:out.length<=4^(2^m):=h1;omega
 have eq0:qD ws a=.tup [.tup (ws.map D.str),.tup (a.map D.int)]:=rfl;rw[jx (F:=Ue) (by rfl) rfl];simp only[Ue,Vd,enter];generalize qD ws a=q at *;ext;rw[es];ext;rw[show jy (.dct ks ((ks.map (NN a m L)).map D.int)) ["dict"]=a8 ae from rfl];ext;refine Z8 (λi ρ=>∃s4,ρ=[.val q,.val (.int L),.val (.dct ks ((ks.map (NN a m L)).map D.int)),.val (.dct out (out.map λ_=>D.bl ae)),s4,.un]) ⟨.un,rfl⟩ ?_ ?_
 .rintro i d ρ hi ⟨s4,rfl⟩;obtain⟨k,hk,rfl⟩:=V5 hi;have hko:=Xl hk;have ck:ks.contains k=ae:=Xx.mpr (sub k hko);have r:=rr k hko;simp only[Zh];ext;rw[ck];ext;rw[jgv,r];ext;exact⟨_,rfl,_,rfl⟩
 .rintro ρ' ⟨s4,rfl⟩;ext;refine Z8 (λi ρ=>∃s4,ρ=[.val q,.val (.int L),.val (.dct ks ((ks.map (NN a m L)).map D.int)),.val (.dct out (out.map λ_=>D.bl ae)),s4,.un]) ⟨s4,rfl⟩ ?_ ?_
  .rintro i d ρ hi ⟨s4,rfl⟩;obtain⟨k,hk,rfl⟩:=V5 hi;have v:=t.vs k (Xl hk);have kl:k.length<=1000:=by rw[v.len];omega
   have ss:=j6p (n:=n+1) kl;simp only[Zh];ext;rw[qb (l:=k.map D.int) (by rfl) (by rw[xf];omega) ?_ (.inl rfl)];rotate_left
   .exact jw λx hx=>zq (by ext) (by ext)
   ext;rw[ss];ext;exact⟨_,rfl,_,rfl⟩
  .rintro ρ' ⟨s4,rfl⟩;ext
end
noncomputable def fc{α:Type}(n:Nat)(f:Nat->α):α:=match n with
 |0=>f 0
 |k+1=>f (k+1)
def Kh{α:Type}{n:Nat}{f:Nat->α}:fc n f=f n:=by cases n<;>rfl
noncomputable def ln(x:Int):Nat:=(lB x%((2^64:Nat):Int)).toNat
noncomputable def rot(t:Nat):Nat:=(t*2^31%2^64+t/2^33)*11400714785074694791%2^64
noncomputable def rnd(acc h:Nat):Nat:=rot ((acc+h*14029467366897019727)%2^64)
noncomputable def hfin(n acc:Nat):Int:=mr (if (acc+(n ^^^ (2870177450012600261 ^^^ 3527539)))%2^64==2^64-1 then 1546275796 else if (acc+(n ^^^ (2870177450012600261 ^^^ 3527539)))%2^64<2^63 then(((acc+(n ^^^ (2870177450012600261 ^^^ 3527539)))%2^64:Nat):Int) else(((acc+(n ^^^ (2870177450012600261 ^^^ 3527539)))%2^64:Nat):Int)-((2^64:Nat):Int))
def j1t{k:zo}:hI k=hfin k.length (k.foldl (λacc x=>rnd acc (ln x)) 2870177450012600261):=by unfold hI hfin fi;dsimp only;rw[List.foldl_map,xf];rfl
noncomputable def hz(n acc:Nat):Nat:=(hfin n acc+2^63).toNat
noncomputable def gen(n:Nat)(xs:List (Nat×Int)):Nat->Nat->zo->List (Nat×zo)->List (Nat×zo)
 |0,acc,pre,out=>fc (hz n acc) λh=>(h,pre)::out
 |d+1,acc,pre,out=>xs.foldr (λx o=>fc (rnd acc x.1) λa=>gen n xs d a (x.2::pre) o) out
theorem j1v{n:Nat}{xs:List (Nat×Int)}:∀(d acc:Nat)(pre:zo)(out:List (Nat×zo)) (p:Nat×zo),p∈out->p∈gen n xs d acc pre out
 |0,acc,pre,out,p,h=>by unfold gen;rw[Kh];exact xm _ h
 |d+1,acc,pre,out,p,h=>by
  unfold gen;have:∀ys:List (Nat×Int),p∈ys.foldr (λx o=>fc (rnd acc x.1) λa=>gen n xs d a (x.2::pre) o) out:=λys=>by
   induction ys with
   |nil=>exact h
   |cons y ys ih=>rw[kS,Kh];exact j1v d _ _ _ p ih
  exact this xs
theorem Dg{n:Nat}{xs:List (Nat×Int)}:∀(k:zo)(acc:Nat)(pre:zo)(out:List (Nat×zo)),(∀x∈k,(ln x,x)∈xs)->(hz n (k.foldl (λacc x=>rnd acc (ln x)) acc),k.reverse++pre)∈gen n xs k.length acc pre out
 |[],acc,pre,out,_=>by rw[Pb];unfold gen;rw[Kh];exact xr ..
 |x::k,acc,pre,out,h=>by
  rw[X7];unfold gen;have hx:=h x (xr ..);have ih:=λo=>Dg (n:=n) k (rnd acc (ln x)) (x::pre) o λy hy=>h y (xm _ hy);rw[Pq,gx,T9];have:∀ys:List (Nat×Int),(ln x,x)∈ys->(hz n (k.foldl (λacc x=>rnd acc (ln x)) (rnd acc (ln x))),k.reverse++([x]++pre))∈ys.foldr (λx o=>fc (rnd acc x.1) λa=>gen n xs k.length a (x.2::pre) o) out:=λys hy=>by
   induction ys with
   |nil=>cases hy
   |cons y ys iy =>
    rw[kS,Kh];rcases xq.mp hy with z|z
    .rw[<-z];exact ih _
    .exact j1v _ _ _ _ _ (iy z)
  exact this xs hx
noncomputable def part(f:Nat):List (Nat×zo)->List (Nat×zo)->List (Nat×zo)->List (Nat×zo)×List (Nat×zo)
 |[],a,b=>(a,b)
 |p::l,a,b=>bif p.1/2^f%2==0 then part f l (p::a) b else part f l a (p::b)
theorem part_mem{f:Nat}:∀(l a b:List (Nat×zo)) (p:Nat×zo),(((p.1/2^f%2==0)=ae/\p∈l)\/p∈a->p∈(part f l a b).1)/\(((p.1/2^f%2==0)=aa/\p∈l)\/p∈b->p∈(part f l a b).2)
 |[],a,b,p=>⟨λh=>h.elim (λz=>nomatch z.2) id,λh=>h.elim (λz=>nomatch z.2) id⟩
 |q::l,a,b,p=>by
  unfold part;cases z:q.1/2^f%2==0 with
  |true =>
   have ih:=part_mem (f:=f) l (q::a) b p;refine⟨λh=>ih.1 ?_,λh=>ih.2 ?_⟩
   .rcases h with ⟨h1,h2⟩|h
    .rcases xq.mp h2 with y|y
     .exact .inr (by rw[y];exact xr ..)
     .exact .inl ⟨h1,y⟩
    .exact .inr (xm _ h)
   .rcases h with ⟨h1,h2⟩|h
    .rcases xq.mp h2 with y|y
     .rw[y,z]at h1;cases h1
     .exact .inl ⟨h1,y⟩
    .exact .inr h
  |false =>
   have ih:=part_mem (f:=f) l a (q::b) p;refine⟨λh=>ih.1 ?_,λh=>ih.2 ?_⟩
   .rcases h with ⟨h1,h2⟩|h
    .rcases xq.mp h2 with y|y
     .rw[y,z]at h1;cases h1
     .exact .inl ⟨h1,y⟩
    .exact .inr h
   .rcases h with ⟨h1,h2⟩|h
    .rcases xq.mp h2 with y|y
     .exact .inr (by rw[y];exact xr ..)
     .exact .inl ⟨h1,y⟩
    .exact .inr (xm _ h)
noncomputable def few(l:List (Nat×zo)):Bool:=match l with
 |_::_::_=>aa
 |_=>ae
noncomputable def chk:Nat->List (Nat×zo)->Bool
 |0,l=>few l
 |f+1,l=>few l || match part f l [] [] with
  |(a,b)=>chk f a&&chk f b
def j5c{l:List (Nat×zo)}(h:few l=ae):∀p∈l,∀q∈l,p.2=q.2:=λp hp q hq=>by
 match l,h with
 |[],_=>cases hp
 |[x],_=>rw[xg.mp hp,xg.mp hq]
 |x::y::l,h=>cases h
theorem j0h:∀(f:Nat)(l:List (Nat×zo)),chk f l=ae->∀p∈l,∀q∈l,p.1=q.1->p.2=q.2
 |0,l,h,p,hp,q,hq,_=>j5c h p hp q hq
 |f+1,l,h,p,hp,q,hq,e=>by
  have h:(few l || (chk f (part f l [] []).1&&chk f (part f l [] []).2))=ae:=h;rw[Tw,Xg]at h;rcases h with h|h
  .exact j5c h p hp q hq
  .cases z:p.1/2^f%2==0 with
   |true=>exact j0h f _ h.1 p ((part_mem l [] [] p).1 (.inl ⟨z,hp⟩)) q ((part_mem l [] [] q).1 (.inl ⟨by rw[<-e];exact z,hq⟩)) e
   |false=>exact j0h f _ h.2 p ((part_mem l [] [] p).2 (.inl ⟨z,hp⟩)) q ((part_mem l [] [] q).2 (.inl ⟨by rw[<-e];exact z,hq⟩)) e
noncomputable abbrev l4:List (Nat×Int):=[(18446744073709551614,-1),(0,0),(1,1),(2,2)]
noncomputable abbrev l3:List (Nat×Int):=[(18446744073709551614,-1),(0,0),(1,1)]
def ln4{x:Int}(h:-1<=x/\x<=2):(ln x,x)∈l4:=by rcases(show x = -1\/x=0\/x=1\/x=2 by omega)with e|e|e|e<;>subst e<;>decide +kernel
def ln3{x:Int}(h:-1<=x/\x<=1):(ln x,x)∈l3:=by rcases(show x = -1\/x=0\/x=1 by omega)with e|e|e<;>subst e<;>decide +kernel
set_option maxRecDepth 1000000 in
def jl7:chk 64 (gen 2 l4 2 2870177450012600261 [] [])=ae:=by decide +kernel
set_option maxRecDepth 1000000 in
def jl6:chk 64 (gen 4 l4 4 2870177450012600261 [] [])=ae:=by decide +kernel
set_option maxRecDepth 1000000 in
def jl5:chk 64 (gen 8 l3 8 2870177450012600261 [] [])=ae:=by decide +kernel
def j00{xs:List (Nat×Int)}{n:Nat}(hc:chk 64 (gen n xs n 2870177450012600261 [] [])=ae){k k':zo}(hk:k.length=n)(hk':k'.length=n)(h:∀x∈k,(ln x,x)∈xs)(h':∀x∈k',(ln x,x)∈xs)(e:hI k=hI k'):k=k':=by rw[j1t,j1t,hk,hk']at e;have m1:=Dg (n:=n) k 2870177450012600261 [] [] h;have m2:=Dg (n:=n) k' 2870177450012600261 [] [] h';rw[hk]at m1;rw[hk']at m2;have:=j0h 64 _ hc _ m1 _ m2 (by unfold hz;rw[e]);simpa using this
def jc8{m:Nat}{L:Int}(hm:1<=m/\m<=3)(hL:0<=L/\L<=2)(h3:m=3->L<=1){k k':zo}(v:Vs m L k)(v':Vs m L k')(e:hI k=hI k'):k=k':=by
 have at':∀{k:zo},Vs m L k->∀x∈k,-1<=x/\x<=L:=λ{k} v x hx=>by obtain⟨i,hi,e⟩:=dH hx;have:=v.bd i (by have:=v.len;omega);rw[km,kh hi,Te,e]at this;exact this
 rcases(show m=1\/m=2\/m=3 by omega)with rfl|rfl|rfl
 .exact j00 jl7 v.len v'.len (λx hx=>ln4 (by have:=at' v x hx;omega)) (λx hx=>ln4 (by have:=at' v' x hx;omega)) e
 .exact j00 jl6 v.len v'.len (λx hx=>ln4 (by have:=at' v x hx;omega)) (λx hx=>ln4 (by have:=at' v' x hx;omega)) e
 .have:=h3 rfl;exact j00 jl5 v.len v'.len (λx hx=>ln3 (by have:=at' v x hx;omega)) (λx hx=>ln3 (by have:=at' v' x hx;omega)) e
noncomputable def depth:Nat:=77
def j4t(c:Int):∃most:Nat,(most=2\/most=3)/\atI [D.int 2,.int 2,.int 3] (c%3)=a8 (.int (most:Int)):=by
 rcases(show c%3=0\/c%3=1\/c%3=2 by omega)with h|h|h
 .exact⟨2,.inl rfl,by rw[h];rfl⟩
 .exact⟨2,.inl rfl,by rw[h];rfl⟩
 .exact⟨3,.inr rfl,by rw[h];rfl⟩
def j7d{m:Nat}(h:1<=m/\m<=3):∃M:Nat,(M=2\/M=3)/\(m=3->M=2)/\atI [D.int 3,.int 3,.int 3,.int 2] (m:Int)=a8 (.int (M:Int)):=by
 rcases(show m=1\/m=2\/m=3 by omega)with rfl|rfl|rfl
 .exact⟨3,.inr rfl,λh=>by omega,rfl⟩
 .exact⟨3,.inr rfl,λh=>by omega,rfl⟩
 .exact⟨2,.inl rfl,λ_=>rfl,rfl⟩
def jfu:T "_law_words" = a8 KW.fL_words:=by rfl
def j59:T "_law_question" = a8 KW.fL_question:=by rfl
def jje{i j:Int}:binI .bxor i j=a8 (bS i j):=(rfl)
noncomputable def x8(k j:Nat):Nat:=(bS (k:Int) (2^j)).toNat
def jda:∀(m:Fin 4)(k:Fin 8)(j:Fin 3),k.val<2^m.val->j.val<m.val->bS (k.val:Int) (2^j.val)=((x8 k.val j.val:Nat):Int)/\x8 k.val j.val<2^m.val:=by decide +kernel
def j98{m k j:Nat}(hm:m<=3)(hk:k<2^m)(hj:j<m):bS (k:Int) (2^j)=((x8 k j:Nat):Int)/\x8 k j<2^m:=by have p8:=Z9 hm;exact jda ⟨m,by omega⟩ ⟨k,by omega⟩ ⟨j,by omega⟩ hk hj
theorem Cw:∀l:List ar,Yk (l.map D.str)=ae
 |[]=>by simp[Yk]
 |x::l=>by rw[X6,Yk,Cw l];simp[flt]
theorem Cy:∀l:zo,Yk (l.map D.int)=ae
 |[]=>by simp[Yk]
 |x::l=>by rw[X6,Yk,Cy l];simp[flt]
def jj5{ws:List ar}{a:zo}:flt (.tup [.tup (ws.map D.str),.tup (a.map D.int)])=ae:=by simp[flt,Yk,Cw,Cy]
def Kw {n m:Nat} {ws:List ar} {a:zo} {L:Int} (hw:ws.length=m) (hm:1<=m/\m<=3) (ha:a.length=2^m) (h01:∀x∈a,x=0\/x=1) (hL:0<=L/\L<=2):∃ks,Tb a m L ks/\evP 1000 G T (n+77) "lie_table" [qD ws a,.int L]=.val (.dct ks ((ks.map (NN a m L)).map D.int)):=by obtain⟨ks,h1,h2,h3,h4,h5,h6,e⟩:=j2i (n:=n) hw hm ha h01 hL;exact⟨ks,⟨h1,h2,h3,h4,h5,h6⟩,e⟩
noncomputable abbrev hE:Ex:=(.call "lie_table" (.cons (.var 1) (.cons (.var 3) .nil)))
noncomputable abbrev hC:Ex:=(.not (.call "_law_is_table" (.cons (.var 1) (.cons (.var 3) (.cons (.var 4) .nil)))))
def jj2{ks:List zo}{ns:zo}{Γ:ar->List D->Rc}{e c:Ex}{r0:En}(h:HlC Γ G e c r0 (ks,ns)):hlG e c 1000 Γ G r0=.next ((r0.set 4 .un).set 5 (.val (.dct ks (ns.map D.int)))):=by
 have ex:∃p,HlC Γ G e c r0 p:=⟨_,h⟩
 unfold hlG;rw[dif_pos ex];have e1:=ex.choose_spec.1;rw[h.1]at e1;injection e1 with e1;injection e1 with e1;injection e1 with e1;injection e1 with e1 e2;have e1:ks=ex.choose.1:=e1;rw[<-e1,<-e2]
def lawTrue:∀ns:zo,ns.length<=63->evP 1000 G T (depth+1) "law" [.lst (ns.map D.int)]=.val (.bl ae):=by
 intro ns hns;obtain⟨most,hmost,gm⟩:=j4t (qi ns 39);have mo:1<=most/\most<=6:=by omega
 have hmb:=Fx (ns:=ns) (a:=0) (most:=most) mo;have qs:evP 1000 G T 77 "_law_question" [.lst (ns.map D.int),.int 0,.int most]=_:=K6 (fu:=1000) (n:=75) (G:=G) N5 jfu jfv j59 (ns:=ns) (a:=0) (most:=most) (by decide) mo;have a01:=jd5 (fu:=1000) (n:=75) (G:=G) jfv (ns:=ns) (a:=0) (most:=most) mo;obtain⟨m,em⟩:∃m:Nat,m=Vv ns 0 most:=⟨_,rfl⟩
 have al:(Yt 1000 G T 75 ns 0 most).length=2^m:=by simp[Yt,<-em]
 have wl:=Ws (qi ns (0+1)) m;rw[<-em]at hmb qs;generalize Yt 1000 G T 75 ns 0 most=a at *;generalize Jh (qi ns (0+1)) m=ws at *;have hm:1<=m/\m<=3:=by omega
 have p8:=Z9 hm.2;have p1:1<=2^m:=Pu (n:=2) (by decide) (Xw m);have pc:((2^m:Nat):Int)=(2:Int)^m:=by simp
 have c39:evP 1000 G T 77 "_law_cell" [.lst (ns.map D.int),.int 39]=.val (.int (qi ns 39)):=Qs N5 (k:=39) (by omega);have c3:evP 1000 G T 77 "_law_cell" [.lst (ns.map D.int),.int 3]=.val (.int (qi ns 3)):=Qs N5 (k:=3) (by omega);have c4:evP 1000 G T 77 "_law_cell" [.lst (ns.map D.int),.int 4]=.val (.int (qi ns 4)):=Qs N5 (k:=4) (by omega);have c5:evP 1000 G T 77 "_law_cell" [.lst (ns.map D.int),.int 5]=.val (.int (qi ns 5)):=Qs N5 (k:=5) (by omega);obtain⟨M,hM,hM3,gM⟩:=j7d hm;generalize qi ns 3=z3 at *;generalize qi ns 4=z4 at *;generalize qi ns 5=z5 at *;obtain⟨L,eL⟩:∃L:Int,L=z3%(M:Int):=⟨_,rfl⟩
 have hL:0<=L/\L<=2:=by rcases hM with e|e<;>subst e<;>omega
 have hL3:m=3->L<=1:=λh=>by have:=hM3 h;subst this;omega
 obtain⟨L2,eL2⟩:∃L2:Int,L2=(L+1+z5%((M:Int)-1))%(M:Int):=⟨_,rfl⟩
 have hL2:0<=L2/\L2<=2:=by rcases hM with e|e<;>subst e<;>omega
 obtain⟨j,hj,ej⟩:∃j:Nat,j<m/\z4%(m:Int)=(j:Int):=by
  refine⟨(z4%(m:Int)).toNat,?_,?_⟩
  .have h1:=Tf z4 (b:=(m:Int)) (by omega);have h2:=cY z4 (b:=(m:Int)) (by omega);omega
  .have h1:=Tf z4 (b:=(m:Int)) (by omega);omega
 obtain⟨b,eb⟩:∃b:zo,b=(aA (2^m)).map λk=>a.getD (x8 k j) 0:=⟨_,rfl⟩
 have bl:b.length=2^m:=by rw[eb];simp
 have b01:∀x∈b,x=0\/x=1:=λx hx=>by rw[eb]at hx;obtain⟨k,hk,rfl⟩:=Xj.mp hx;have hlt:=(j98 hm.2 (Xc.mp hk) hj).2;rw[km,kh (by omega)];exact a01 _ (Xo _)
 obtain⟨k1,t1,e1⟩:=Kw (n:=0) (a:=a) wl hm al a01 hL;obtain⟨k2,t2,e2⟩:=Kw (n:=0) (a:=a) wl hm al a01 hL2;obtain⟨k3,t3,e3⟩:=Kw (n:=0) (a:=b) wl hm bl b01 hL;have i1:evP 1000 G T 77 "_law_is_table" [qD ws a,.int L,.dct k1 ((k1.map (NN a m L)).map D.int)]=.val (.bl ae):=Yj (n:=73) wl hm al a01 hL t1;have i2:evP 1000 G T 77 "_law_is_table" [qD ws a,.int L2,.dct k2 ((k2.map (NN a m L2)).map D.int)]=.val (.bl ae):=Yj (n:=73) wl hm al a01 hL2 t2;have i3:evP 1000 G T 77 "_law_is_table" [qD ws b,.int L,.dct k3 ((k3.map (NN b m L)).map D.int)]=.val (.bl ae):=Yj (n:=73) wl hm bl b01 hL t3;have e1:evP 1000 G T 77 "lie_table" [qD ws a,.int L]=_:=e1;have e2:evP 1000 G T 77 "lie_table" [qD ws a,.int L2]=_:=e2;have e3:evP 1000 G T 77 "lie_table" [qD ws b,.int L]=_:=e3;unfold qD at e1 e2 e3 i1 i2 i3;have go:hlG hE hC 1000 (evP 1000 G T 77) G [.val (.lst (ns.map D.int)),.val (.tup [.tup (ws.map D.str),.tup (a.map D.int)]),.val (.int m),.val (.int L),.un,.un,.un,.un,.un,.un,.un]=.next [.val (.lst (ns.map D.int)),.val (.tup [.tup (ws.map D.str),.tup (a.map D.int)]),.val (.int m),.val (.int L),.un,.val (.dct k1 ((k1.map (NN a m L)).map D.int)),.un,.un,.un,.un,.un]:=by
  refine jj2 ⟨?_,?_,λz=>?_,λx hx y hy e=>jc8 hm hL hL3 (t1.vs x hx) (t1.vs y hy) e,by simp⟩
  .have fe:([.val (.lst (ns.map D.int)),.val (.tup [.tup (ws.map D.str),.tup (a.map D.int)]),.val (.int m),.val (.int L),.un,.un,.un,.un,.un,.un,.un]:En).map j04=[.un,.val (.tup [.tup (ws.map D.str),.tup (a.map D.int)]),.val (.int m),.val (.int L),.un,.un,.un,.un,.un,.un,.un]:=by simp only[X6,cG,j04,jj5];simp[flt]
   rw[fe];ext;rw[e1];ext
  .simp only[List.set];ext;rw[i1];ext
  .have:=t1.st;have z:k1=[]:=z;rw[z]at this;cases this
 rw[jx (F:=j39) (by rfl) rfl];simp only[j39,j3k,enter,depth];ext;rw[c39];ext;rw[gm];ext;rw[qs];ext;rw[at0];ext;rw[wl,c3];ext;rw[gM];ext;rw[<-eL,go];ext;rw[gM];ext;rw[c5];ext;rw[<-eL2];ext;rw[e2];ext;rw[i2];ext;rw[c4];ext;rw[ej];ext;rw[at0];ext;rw[show(1:Int)*2^(m:Int).toNat=((2^m:Nat):Int)by rw[X8,pc,eF],show(1:Int)*2^(j:Int).toNat=2^j by rw[X8,eF]];ext;rw[qb (l:=b.map D.int) (by rfl) (by rw[zf];omega) ?_ (.inl rfl)];rotate_left
 .rw[X8,Qo,eb,show((aA (2^m)).map λk=>a.getD (x8 k j) 0).map D.int=(aA (2^m)).map λk=>D.int (a.getD (x8 k j) 0)by rw[Xf];rfl];refine jw λk hk=>zq (by ext) ?_;obtain⟨x1,x2⟩:=j98 hm.2 (Xc.mp hk) hj;ext;rw[at1];ext;simp only[jje,dh,x1];ext;rw[j37 (by omega)];ext
 ext;rw[e3];ext;rw[i3];ext;have ec:EqC (evP 1000 G T 77) G (.call "lie_table" (.cons (.var 1) (.cons (.var 3) .nil))) (.var 5) [.val (.lst (ns.map D.int)),.val (.tup [.tup (ws.map D.str),.tup (a.map D.int)]),.val (.int m),.val (.int L),.un,.val (.dct k1 ((k1.map (NN a m L)).map D.int)),.val (.int M),.val (.int L2),.val (.int (2^j)),.val (.tup [.tup (ws.map D.str),.tup (b.map D.int)]),.un]:=by
  refine⟨k1,k1.map (NN a m L),?_,?_⟩
  .ext;rw[e1];ext
  .ext
 unfold eqG;rw[if_pos ec];rfl
end K46
end
open PySem PySem.W PyProof.Rows
local macro_rules | `(tactic| walk_at "lf") => `(tactic| (refine' L2.lf_mk ?a ?l ?c ?k; (case a => k_is); (case l => k_is); (case c => k_is); (case k => k_is)))
set_option Elab.async false
namespace PySem.W.Fast
def tw18335863930060592844:=0
def tw16967836365208197146:=0
def tw12886876891866109374:=0
def tw16791583232947309495:=0
def tw7793660456177632642:=0
def tw8850408383907288369:=0
def tw3644941212106942027:=0
def tw17847332202242468437:=0
def tw4595201481035147014:=0
def tw6575708247117523454:=0
def tw8757030637271768439:=0
def tw9065387768292682197:=0
def tw5893084071605357943:=0
def tw9972438012967609610:=0
def tw2799440308529435296:=0
def tw16337004314135174254:=0
def tw14263233224544268960:=0
def tw5635747365269386005:=0
def tw6142402176604391461:=0
def tw15532558169862357851:=0
def tw5315257829721587477:=0
def tw3075269030731995291:=0
def tw1559923047351095057:=0
def tw9225901340517194541:=0
def tw6675336843986692723:=0
def tw2851926408757666500:=0
def tw13730833716588725949:=0
def tw13852043877194599056:=0
def tw5903261125907730279:=0
def tw1689328233362028440:=0
def tw16927076561914744925:=0
def tw10576028149396102034:=0
def tw457008095478907852:=0
def tw3916425284793213146:=0
def tw5788620752263555540:=0
def tw10285952692028459041:=0
def tw16752278291277586379:=0
def tw3477365817852172864:=0
def tw4917890538606173676:=0
def tw17594000694010430172:=0
def tw4121115577651258494:=0
def tw9028511580263602397:=0
def tw5363763145956933215:=0
def tw7116630174382232792:=0
def tw14910858245636306132:=0
def tw17409533918673603357:=0
def tw17544280974850896761:=0
def tw8879145081170827861:=0
def tw5552686980686897762:=0
def tw17179316626940526226:=0
def tw1964689180189305619:=0
def tw13687912028194864593:=0
def tw18400218169974963964:=0
def tw7848319258369601337:=0
def tw10824111470726533191:=0
def tw3003351807968240477:=0
def tw8443580726133928476:=0
def tw1906991320243097448:=0
def tw5780122362438450372:=0
def tw6899659027302414187:=0
def tw18106238531394931730:=0
def tw5636268278615793714:=0
def tw16102452147914968367:=0
def tw13306734536299621134:=0
def tw17207614115267672461:=0
def tw3797319549790584545:=0
def tw13239245755198131046:=0
def tw5843993448770695031:=0
def tw15297155236749987690:=0
def tw6585420419952516167:=0
def tw1894970061739650387:=0
def tw13243125526247200629:=0
def tw2621077691286664056:=0
def tw61033124674484101:=0
def tw1039760600459794656:=0
def tw9216602133687864264:=0
def tw16022445582643524440:=0
def tw2888497000822682086:=0
def tw14622254088169041418:=0
def tw9987804053914971839:=0
def tw16064904674318575754:=0
def tw11360311966858388623:=0
def tw3979067476145449420:=0
def tw10235775244034164326:=0
def tw18292773872821158429:=0
def tw3533766095433173295:=0
def tw7869525032297492605:=0
def tw7376201449208677370:=0
def tw9165760188835188219:=0
def tw11900738813052457759:=0
def tw2443975651779667953:=0
def tw5118469867890984640:=0
def tw3777353264433867689:=0
def tw12536032534982301606:=0
def tw1798329284615466245:=0
def tw10683861866559181899:=0
def tw12034550946089169703:=0
def tw3398018749456004445:=0
def tw7315213143636233748:=0
def tw17867429487928910584:=0
def tw12136376854328472589:=0
def tw9521370952036008267:=0
def tw17002409873919601804:=0
def tw596038595055907102:=0
def tw11567348286117725630:=0
def tw16491304158397578763:=0
def tw2794608002412688959:=0
def tw3319354324704267078:=0
def tw17929452592376723177:=0
def tw13396402602303310404:=0
def tw15078618087493245035:=0
def tw14426196610326042326:=0
def tw7996117007582506620:=0
def tw15724946581723874255:=0
def tw17554926767731230487:=0
def tw7788046266629514496:=0
def tw5647366447086537434:=0
def tw17926740694922183376:=0
def tw10715517488567698452:=0
def tw2340007044434244285:=0
def tw5168697868052215643:=0
def tw9232263842419313747:=0
def tw14259779449865730796:=0
def tw5274775310082441245:=0
def tw14841772643577153552:=0
def tw11787376990685610595:=0
def tw11282355007332580578:=0
def tw1039411411356264337:=0
def tw9636328844961224488:=0
def tw6045821339720626421:=0
def tw7064785184827457115:=0
def tw8606949677308330475:=0
def tw17407054630023445852:=0
def tw13585805062338346596:=0
def tw9640659343094986920:=0
def tw11966118326173441615:=0
def tw4245442276067329704:=0
def tw15234397619627837237:=0
def tw16070925578637884627:=0
def tw8508695913601143072:=0
def tw12423143357123843904:=0
def tw12187317625333765364:=0
def tw11694527431971499599:=0
def tw7057014742161454799:=0
def tw12408510370013735393:=0
def tw15040351149297091749:=0
def tw3297867986965364831:=0
def tw15070771018171689521:=0
def tw400499402531282622:=0
def tw13946918583243018520:=0
def tw5482804749003878308:=0
def tw6531258840775575712:=0
def tw15820268764398265712:=0
def tw1033270512005311070:=0
def tw3037162408263168546:=0
def tw13226737718315430619:=0
def tw12838765786762898722:=0
def tw6647946499975264221:=0
def tw12465032747425915115:=0
def tw8943766386418546488:=0
def tw8821702763022130230:=0
def tw17767316182323749556:=0
end PySem.W.Fast
set_option maxRecDepth 100000 in
set_option maxHeartbeats 0 in
theorem PySem.Challenge.cw_leastasks_k46_lie_table_cells_holds : PySem.Challenge.rw_leastasks_k46_lie_table_cells.Holds := by
  w_on; o_law; k_head; (case hw => w_witness2)
  k_fill
  refine L2.walkL (l := PySem.Challenge.rw_leastasks_k46_lie_table_cells) (k := L2.lv (K46.depth + 1)) (x := "_law_script") (by decide) rfl rfl (ts := []) (fun w h Y => ⟨PySem.W.kIn_of Y, fun _ h => nomatch h⟩) ?tz ?F
  case tz => intro w; kernel_rfl
  case F =>
    intro w mg fa h KX Gn hmg tz
    refine' K46.head KX Gn hmg ?h0 ?h1 ?h2 ?h3 ?h4 ?h5 ?h6 ?h7 ?h8 ?h9 ?h10 ?h11 ?h12 ?h13 ?h14 ?h15 ?h16 ?h17 ?h18 ?h19 ?h20 ?h21 ?h22 ?h23 ?h24 ?h25 ?h26 ?h27 ?h28 ?h29 ?h30 ?bz tz ?gn0 ?gn1 ?ga2l ?gn2 ?gn3 ?gn4 ?gn5 ?gn6 ?exa K46.lawTrue
    (case h0 => walk_at "lf")
    (case h1 => walk_at "lf")
    (case h2 => walk_at "lf")
    (case h3 => walk_at "lf")
    (case h4 => walk_at "lf")
    (case h5 => walk_at "lf")
    (case h6 => walk_at "lf")
    (case h7 => walk_at "lf")
    (case h8 => walk_at "lf")
    (case h9 => walk_at "lf")
    (case h10 => walk_at "lf")
    (case h11 => walk_at "lf")
    (case h12 => walk_at "lf")
    (case h13 => walk_at "lf")
    (case h14 => walk_at "lf")
    (case h15 => walk_at "lf")
    (case h16 => walk_at "lf")
    (case h17 => walk_at "lf")
    (case h18 => walk_at "lf")
    (case h19 => walk_at "lf")
    (case h20 => walk_at "lf")
    (case h21 => walk_at "lf")
    (case h22 => walk_at "lf")
    (case h23 => walk_at "lf")
    (case h24 => walk_at "lf")
    (case h25 => walk_at "lf")
    (case h26 => walk_at "lf")
    (case h27 => walk_at "lf")
    (case h28 => walk_at "lf")
    (case h29 => walk_at "lf")
    (case h30 => walk_at "lf")
    (case gn0 => k_is)
    (case gn1 => k_is)
    (case gn2 => k_is)
    (case gn3 => k_is)
    (case gn4 => k_is)
    (case gn5 => k_is)
    (case gn6 => k_is)
    (case ga2l => k_is)
    (case bz => kernel_rfl)
    (case exa => kernel_rfl)
#print axioms PySem.Challenge.cw_leastasks_k46_lie_table_cells_holds